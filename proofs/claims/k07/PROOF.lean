import PyProof.Rows.All
import Wide.All
import OpenK.AllK
import Wide.FinOn
import HandS.ForMost
import HandS.ForExc
import HandS.IsInst
import HandS.ExcIs
import HandS.DictComp
import HandS.Style
import HandS.Walk
import HandS.SortInts
import HandS.Star
import PySem.Challenge.RW_driftkept_k07_stores
set_option Elab.async false
set_option linter.all false
set_option maxRecDepth 100000
set_option maxHeartbeats 4000000
/-! general rules -/
namespace Dk
open PySem PySem.Spec PyProof.Rows L2
/-- a def of the top keeps a promise -/
def GO (P : Program) (w : World) (K : PySem.W.Frag) (mg : Str → Option Value) (base : Heap) (CX : CXT) (k : Nat) (x : Str) (ps : List Str) (sp : Sp) : Prop :=
  ∃ f fd, FnOk P w K mg base CX k f fd ps sp ∧ mg x = some (.ref f) ∧ PySem.W.keepIn K (.ref f) = true ∧ Binds K fd ps []
def MO (P : Program) (w : World) (K : PySem.W.Frag) (mg : Str → Option Value) (base : Heap) (CX : CXT) (C : Addr) (k : Nat) (m : Str) (ps : List Str) (sp : Sp) : Prop :=
  ∃ f fd, FnOk P w K mg base CX k f fd ps sp ∧ Meth K C m f ∧ Binds K fd ps []
/-- where a def of the top, a method stands -/
def GT (K : PySem.W.Frag) (mg : Str → Option Value) (x : Str) (st : Stmt) (ps : List Str) : Prop := ∃ f fd, Fun K x x st f fd ∧ mg x = some (.ref f) ∧ Binds K fd ps []
def MT (K : PySem.W.Frag) (C : Addr) (m qual : Str) (st : Stmt) (ps : List Str) : Prop := ∃ f fd, Fun K m qual st f fd ∧ Meth K C m f ∧ Binds K fd ps []
section
variable {X : Cx} {CX : CXT} {k : Nat} {f C : Addr} {fd : FuncData} {ps : List Str} {sp : Sp} {x m : Str} {p pos apos : Pos} {e o : Expr} {es : List Expr} {ta : TE} {t : TA}
theorem pc_ (G : GO X.prog X.w X.K X.mg X.base CX0 k x ps sp) (hr : Room k X.A) (ha : PA X (e :: es) t) (hg : Gl X x := by rfl) (hdb : (x == ("__debug__" : Str)) = false := by decide)
    (he : starEach (e :: es) X.env = (false, eval e X.env) :: starEach es X.env := by rfl) (hpl : (backTo pos (starEach es X.env)).any (·.1) = false := by rfl) : PE X (.Call (.Name x p) (e :: es) [] pos) (tCall sp [] E0 t) := by
  obtain ⟨f, fd, F, hm, hk, hb⟩ := G
  exact pe_call F hr hg hm hk hb .nil pass0 ha hdb he hpl
theorem pm_ {pl : Sem Bool} (G : MO X.prog X.w X.K X.mg X.base CX0 C k m ps sp) (c : Cls X.K C) (hr : Room k X.A) (he : PE X o ta) (ha : PA X (e :: es) t)
    (hst : starEach (e :: es) X.env = (false, eval e X.env) :: starEach es X.env := by rfl) (hpl : (backTo pos (starEach es X.env)).any (·.1) = false := by rfl)
    (ht : eval (.Call (.Attribute o m apos) (e :: es) [] pos) X.env = (do
      let ov ← eval o X.env
      standAt apos.atName
      let (f, first) ← holding [ov] (getMethod ov m pl)
      callWith pos f first (backTo pos (starEach (e :: es) X.env)) (backToKw pos (keywordEach [] X.env))) := by rfl) : PE X (.Call (.Attribute o m apos) (e :: es) [] pos) (tMeth C m sp [] E0 ta t) := by
  obtain ⟨f, fd, F, hm, hb⟩ := G
  exact pe_meth he c hm F hr hb .nil pass0 ha hst hpl ht
theorem pm0_ {pl : Sem Bool} (G : MO X.prog X.w X.K X.mg X.base CX0 C k m ps sp) (c : Cls X.K C) (hr : Room k X.A) (he : PE X o ta)
    (ht : eval (.Call (.Attribute o m apos) [] [] pos) X.env = (do
      let ov ← eval o X.env
      standAt apos.atName
      let (f, first) ← holding [ov] (getMethod ov m pl)
      callWith pos f first (backTo pos (starEach [] X.env)) (backToKw pos (keywordEach [] X.env))) := by rfl) : PE X (.Call (.Attribute o m apos) [] [] pos) (tMeth C m sp [] E0 ta tNil) := by
  obtain ⟨f, fd, F, hm, hb⟩ := G
  exact pe_meth0 he c hm F hr hb .nil pass0 ht
/-- a method that may raise, called at the slots -/
def tMethE (C : Addr) (m : Str) (sp : Sp) (E : L2.St → XK) (ta : TE) (t : TA) : TE := fun σ H Q => ta σ H fun x H1 => ∃ a dx fs, x = .ref a ∧ H1 a = some (.ins C dx fs) ∧ fs.lookup m = none ∧
  t σ H1 fun vs H2 => sp (x :: vs) H2 Q (E σ)
theorem pmE_ {pl : Sem Bool} {E : L2.St → XK} (G : MO X.prog X.w X.K X.mg X.base CX C k m ps sp) (c : Cls X.K C) (hr : Room k X.A) (hx : ∀ σ, PassesAt CX X σ (E σ)) (he : PE X o ta) (ha : PA X (e :: es) t)
    (hst : starEach (e :: es) X.env = (false, eval e X.env) :: starEach es X.env := by rfl) (hpl : (backTo pos (starEach es X.env)).any (·.1) = false := by rfl)
    (ht : eval (.Call (.Attribute o m apos) (e :: es) [] pos) X.env = (do
      let ov ← eval o X.env
      standAt apos.atName
      let (f, first) ← holding [ov] (getMethod ov m pl)
      callWith pos f first (backTo pos (starEach (e :: es) X.env)) (backToKw pos (keywordEach [] X.env))) := by rfl) : PE X (.Call (.Attribute o m apos) (e :: es) [] pos) (tMethE C m sp E ta t) := by
  obtain ⟨f, fd, F, hm, hb⟩ := G
  refine ⟨fun pins s σ H Q I h => ?_⟩
  refine PySem.W.methodCall_KW (pl := pl) (thn (he.run pins s σ H _ I h) fun u s1 ⟨x, H1, I1, rx, a, dx, fs, ex, ea, l, q⟩ => ?_) ht
  subst ex
  obtain rfl : u = Value.ref a := rx
  refine getmeth_ok I1 ea c hm l ?_
  refine PySem.W.callWith_K (first := [.ref a]) (h₀ := X.base) I.ok.mod.kin hm.kp (thn (ha.run pos pins s1 σ H1 _ I1 q) fun us s2 ⟨vs, H2, I2, r, q2⟩ => ⟨I2.kIn, ?_⟩) hst hpl
  exact run_fnS (us := .ref a :: us) (vs := .ref a :: vs) F hr hb (hx σ) I2 (.cons rfl r) q2
/-- C(e, ..) where __init__ may raise, at the slots -/
def tMakeE (C : Addr) (sp : Sp) (E : L2.St → XK) (t : TA) : TE := fun σ H Q => t σ H fun vs H1 => ∀ x dx, H1 x = none → H1 dx = none → dx ≠ x →
  sp (.ref x :: vs) (upd (upd H1 dx (.own x)) x (.ins C dx [])) (fun v H2 => v = .non ∧ Q (.ref x) H2) (fun cls d H2 => E σ cls d H2)
theorem run_makeE {pins : List (Addr × Obj)} {σ : L2.St} {H : Hp} {s : Shared} {Q : VK} {E : XK} {us : List Value} {vs : List V} (M : Mk X.K C f) (F : FnOk X.prog X.w X.K X.mg X.base CX k f fd ps sp) (hr : Room (k + 1) X.A) (hb : Binds X.K fd ps [])
    (hx : PassesAt CX X σ E) (I : Inv X pins σ H s) (r : Vals vs us)
    (h : ∀ x dx, H x = none → H dx = none → dx ≠ x → sp (.ref x :: vs) (upd (upd H dx (.own x)) x (.ins C dx [])) (fun v H2 => v = .non ∧ Q (.ref x) H2) E) :
    wpAny (model X.prog X.w) X.A (call (.ref C) us) (EP X pins σ Q) X.xe s := by
  have hq := h (s.heap.objs.size + 1) s.heap.objs.size (I.hok.fresh (Nat.le_succ _)) (I.hok.fresh (Nat.le_refl _)) (Nat.ne_of_lt (Nat.lt_succ_self _))
  have I2 := Inv.made (C := C) I
  have r2 : Vals (V.ref (s.heap.objs.size + 1) :: vs) (Value.ref (s.heap.objs.size + 1) :: us) := .cons rfl r
  have hl : (Value.ref (s.heap.objs.size + 1) :: us ++ []).length = ps.length := by
    have e := r2.length
    rw [F.len _ _ _ _ hq] at e
    rw [List.append_nil]
    exact e.symm
  have b := hb _ (Value.ref (s.heap.objs.size + 1) :: us) I2.kIn hl
  rw [List.append_nil] at b
  refine wpAny_call (make_map (f := f) I.kIn M.makes M.init (beq_iff_eq.mp M.fn) (codeAny_mono (F.run _ X.stack _ _ ⟨Value.ref (s.heap.objs.size + 1) :: us, []⟩ (Value.ref (s.heap.objs.size + 1) :: us) _ _ E (hr.make C us [])
    (I2.env0.make C us []) b r2 hq) fun r s' hq' => ?_))
  cases r with
  | error e => exact hx pins _ _ e s' I2 hq'
  | ok fl =>
    cases fl with
    | ret u =>
      obtain ⟨v, H', I3, rv, ev, q3⟩ := I2.after hq'
      subst ev
      exact ⟨rv, ⟨V.ref (s.heap.objs.size + 1), H', I3, rfl, q3⟩⟩
    | next => exact False.elim hq'
    | brk => exact False.elim hq'
    | cont => exact False.elim hq'
theorem pe_makeE {E : L2.St → XK} (M : Mk X.K C f) (F : FnOk X.prog X.w X.K X.mg X.base CX k f fd ps sp) (hr : Room (k + 1) X.A) (hg : Gl X x) (hm : X.mg x = some (.ref C)) (hb : Binds X.K fd ps []) (hx : ∀ σ, PassesAt CX X σ (E σ))
    (ha : PA X (e :: es) t) (hdb : (x == ("__debug__" : Str)) = false := by decide) (he : starEach (e :: es) X.env = (false, eval e X.env) :: starEach es X.env := by rfl) (hpl : (backTo pos (starEach es X.env)).any (·.1) = false := by rfl) :
    PE X (.Call (.Name x p) (e :: es) [] pos) (tMakeE C sp E t) := by
  refine ⟨fun pins s σ H Q I h => ?_⟩
  refine wpAny_Call_Name_kw (ld_glob I hg hm ?_ hdb)
  refine PySem.W.callWith_K (h₀ := X.base) I.ok.mod.kin M.kp (thn (ha.run pos pins s σ H _ I h) fun us s1 ⟨vs, H1, I1, r, q⟩ => ⟨I1.kIn, ?_⟩) he hpl
  exact run_makeE M F hr hb (hx σ) I1 r q
end
section
variable {X : Cx} {C : Addr} {bmB : List Value} {B newId initId : String}
/-- X() -/
theorem pmk_own0 {x : Str} {p pos : Pos} (F : ExcBaseFacts B newId initId bmB) (q : PySem.W.excIn X.K C bmB newId = true) (gC : X.mg x = some (.ref C)) (kC : PySem.W.keepIn X.K (.ref C) = true) (r : Raises X (.ref C)) (hg : Gl X x)
    (hdb : (x == ("__debug__" : Str)) = false := by decide) : PMk X (.Call (.Name x p) [] [] pos) (fun _ H Q => Q (.ref C) none H) := by
  intro pins s σ H Q I h
  refine wpAny_Call_Name_kw (ld_glob I hg gC ?_ hdb)
  refine PySem.W.callWith_K0 I.kIn kC ?_
  show wpAny _ _ (call (.ref C) []) _ _ _
  obtain ⟨bm, N, nm, qn, bs, hdct, sn, sub, ab, col, dd, k0, k1, k2, k3, k5, mN, hC, hN, hni, T⟩ := exc_obj I.kIn q
  refine wpAny_call_exc_subT F T hC hN hni (fun h' e hm => ?_) (by show 0 ≤ sizeLine; exact Nat.zero_le _)
  exact mk_of I hm r h (I.hok.gone hm.new)
end
/-- a dict comprehension over a walk -/
theorem dc_it {J : It} {n : Nat} {G : Hp → Prop} {Y : Nat → Hp → V → Hp → Prop} (w : Walk J n G Y) {g : TG} {tt : TT} {tk tv : TE} {vs : List Nat} {σ : L2.St} {H1 : Hp} {D : Addr} {Qd : Hp → Prop} (Pv : Nat → Hp → Prop) (h0 : Pv 0 (upd H1 D (.dK []))) (hG : ∀ i H, i ≤ n → Pv i H → G H)
    (hs : ∀ i x H H', i < n → Pv i H → Y i H x H' → g x (wipe σ vs) H' fun σ2 H2 => wipe σ2 vs = wipe σ vs ∧ tt σ2 H2 fun b H3 =>
      if b = true then tk σ2 H3 fun y H4 => tv σ2 H4 fun z H5 => ∃ kvs k, y = kV k ∧ H5 D = some (.dK kvs) ∧ kvs.length < sizeLine ∧ Pv (i + 1) (upd H5 D (.dK (putK kvs k z))) else Pv (i + 1) H3) (hd : ∀ H, Pv n H → Qd H) :
    ∃ W : Nat → Nat → Hp → Prop, (∃ m, W 0 m (upd H1 D (.dK []))) ∧ ∀ i m H, W i m H →
      (J.stop i H ∧ Qd H) ∨ (J.go i H ∧ ∃ Nx : Hp → Prop, (∀ H', Nx H' → ∃ m', m' < m ∧ W (i + 1) m' H') ∧ ∀ x H', J.yld i H x H' → g x (wipe σ vs) H' fun σ2 H2 => wipe σ2 vs = wipe σ vs ∧ tt σ2 H2 fun b H3 =>
        if b = true then tk σ2 H3 fun y H4 => tv σ2 H4 fun z H5 => ∃ kvs k, y = kV k ∧ H5 D = some (.dK kvs) ∧ kvs.length < sizeLine ∧ Nx (upd H5 D (.dK (putK kvs k z))) else Nx H3) := by
  refine ⟨fun i m H => m = n - i ∧ i ≤ n ∧ Pv i H, ⟨n, by simp, Nat.zero_le _, h0⟩, ?_⟩
  rintro i m H ⟨rfl, hi, p⟩
  have q := hG i H hi p
  by_cases hlt : i < n
  · refine .inr ⟨w.goes i H hlt q, Pv (i + 1), fun H' p' => ⟨n - (i + 1), by omega, rfl, hlt, p'⟩, fun x H' y => hs i x H H' hlt p (w.yields i H x H' hlt q y)⟩
  · have e : i = n := by omega
    subst e
    exact .inl ⟨w.stops H q, hd H p⟩
end Dk

set_option maxHeartbeats 4000000
/-! values and layouts -/
namespace Dk
open PySem PySem.Spec PyProof.Rows L2
def top (i : Nat) : Stmt := PySem.Challenge.pw_driftkept_k07_stores.main.body.getD i (.Pass ⟨0, 0, 0, 0⟩)
abbrev sWhole : Stmt := top 5
abbrev sWithin : Stmt := top 6
abbrev sLInit : Stmt := inClass (top 11) 0
abbrev sEpoch : Stmt := inClass (top 11) 1
abbrev sESlot : Stmt := inClass (top 11) 2
abbrev sCSlot : Stmt := inClass (top 11) 3
abbrev sWord : Stmt := inClass (top 11) 4
abbrev sRecord : Stmt := inClass (top 11) 5
abbrev sCells : Stmt := inClass (top 11) 6
abbrev sIsCell : Stmt := inClass (top 11) 7
abbrev sIsLast : Stmt := inClass (top 11) 8
abbrev sHasT : Stmt := inClass (top 11) 10
/-- the type of a value that is no object -/
def vty : V → Option String
  | .non => some "NoneType"
  | .bl _ => some "bool"
  | .int _ => some "int"
  | .str _ => some "str"
  | _ => none
theorem ty_of {K : PySem.W.Frag} {H : Hp} : ∀ {v : V} {t : String}, vty v = some t → TyX K H v (.type t)
  | .non, _, h => by cases h; exact .base .non
  | .bl b, _, h => by cases h; exact .base (.bl b)
  | .int i, _, h => by cases h; exact .base (.int i)
  | .str x, _, h => by cases h; exact .base (.str x)
def isI : V → Bool
  | .int _ => true
  | _ => false
/-- an integer within lo .. hi -/
def inW (lo hi : Int) : V → Bool
  | .int i => decide (lo ≤ i) && decide (i ≤ hi)
  | _ => false
theorem inW_int {lo hi i : Int} : inW lo hi (.int i) = true ↔ lo ≤ i ∧ i ≤ hi := by
  show (decide (lo ≤ i) && decide (i ≤ hi)) = true ↔ _
  simp
/-- the built-in names as they are -/
structure Bn (mg : Str → Option Value) : Prop where
  isi : mg "isinstance" = none
  int : mg "int" = none
  bool : mg "bool" = none
  str : mg "str" = none
  tuple : mg "tuple" = none
  list : mg "list" = none
  range : mg "range" = none
  len : mg "len" = none
  abs : mg "abs" = none
def lf (t w r : Int) : List (Str × V) := [("threads", .int t), ("words", .int w), ("records", .int r)]
/-- a layout stands at a -/
def LayAt (C : Addr) (H : Hp) (a : Addr) (t w r : Int) : Prop := ∃ dx, H a = some (.ins C dx (lf t w r))
structure LTxt (K : PySem.W.Frag) (mg : Str → Option Value) (C : Addr) : Prop where
  bn : Bn mg
  cl : Cls K C
  nT : NoAttr K C "threads"
  nW : NoAttr K C "words"
  nR : NoAttr K C "records"
def spWhole : Sp := fun vs H Q _ => ∃ v t, vs = [v] ∧ vty v = some t ∧ Q (.bl (isI v)) H
def spWithin : Sp := fun vs H Q _ => ∃ v t lo hi, vs = [v, .int lo, .int hi] ∧ vty v = some t ∧ Q (.bl (inW lo hi v)) H
def spL0 (C : Addr) (g : Int → Int → Int → V) : Sp := fun vs H Q _ => ∃ a t w r, vs = [.ref a] ∧ LayAt C H a t w r ∧ Q (g t w r) H
def spL1 (C : Addr) (g : Int → Int → Int → Int → V) : Sp := fun vs H Q _ => ∃ a t w r i, vs = [.ref a, .int i] ∧ LayAt C H a t w r ∧ Q (g t w r i) H
def spLV (C : Addr) (g : Int → Int → Int → V → V) : Sp := fun vs H Q _ => ∃ a t w r v ty, vs = [.ref a, v] ∧ vty v = some ty ∧ LayAt C H a t w r ∧ Q (g t w r v) H
/-- the cells -/
def cells (t w r : Int) : Int := 1 + t + t + w + r
def first (t : Int) : Int := 1 + t
def rec0 (t w : Int) : Int := 1 + t + t + w
def geB (x : Int) : V → Bool
  | .int i => decide (x ≤ i)
  | _ => false
def lastB (t w r : Int) (v : V) : Bool := inW 0 (cells t w r - 1) v && geB (first t + 0) v
def recB (t w r : Int) (v : V) : Bool := inW 0 (cells t w r - 1) v && geB (rec0 t w + 0) v
section
variable {P : Program} {w : World} {K : PySem.W.Frag} {mg : Str → Option Value} {base : Heap} {C : Addr}
theorem scWhole : FnScope ["value"] ["value"] (defScope sWhole) := ⟨rfl, rfl, rfl, by decide +kernel, rfl, by decide +kernel, by decide +kernel⟩
theorem go_whole (F : GT K mg "is_whole" sWhole ["value"]) (T : Bn mg) : GO P w K mg base CX0 1 "is_whole" ["value"] spWhole := by
  obtain ⟨f, fd, F, hm, hb⟩ := F
  refine ⟨f, fd, ?_, hm, F.kp, hb⟩
  refine F.ok scWhole (fun vs H Q E h => ?_) (fun cdv A outer s H vs Q E hr h => ?_)
  · obtain ⟨v, t, rfl, _⟩ := h
    rfl
  · obtain ⟨v, t, rfl, ht, k⟩ := h
    refine ⟨_, pss_one (ps_ret (pe_and (pe_callB call_isi (by rfl) T.isi (by decide +kernel) (pa_cons (pv 0) (pa_cons (pe_bltn (v := .ty "int") (by rfl) T.int (by decide +kernel) rfl) pa_nil)))
      (pe_one (pe_not (pe_callB call_isi (by rfl) T.isi (by decide +kernel) (pa_cons (pv 0) (pa_cons (pe_bltn (v := .ty "bool") (by rfl) T.bool (by decide +kernel) rfl) pa_nil))))))), ?_⟩
    have ty := ty_of (K := K) (H := H) ht
    cases v <;> cases ht
    · exact ⟨_, rfl, _, _, _, _, false, rfl, .ty "int", ty, kit_ty (by decide +kernel), false, rfl, k⟩
    · refine ⟨_, rfl, _, _, _, _, true, rfl, .ty "int", ty, kit_ty (by decide +kernel), true, rfl, ?_⟩
      exact iteT ⟨_, rfl, _, _, _, _, true, rfl, .ty "bool", ty, kit_ty (by decide +kernel), true, rfl, k⟩
    · refine ⟨_, rfl, _, _, _, _, true, rfl, .ty "int", ty, kit_ty (by decide +kernel), true, rfl, ?_⟩
      exact iteT ⟨_, rfl, _, _, _, _, false, rfl, .ty "bool", ty, kit_ty (by decide +kernel), false, rfl, k⟩
    · exact ⟨_, rfl, _, _, _, _, false, rfl, .ty "int", ty, kit_ty (by decide +kernel), false, rfl, k⟩
theorem scWithin : FnScope ["value", "low", "high"] ["value", "low", "high"] (defScope sWithin) := ⟨rfl, rfl, rfl, by decide +kernel, rfl, by decide +kernel, by decide +kernel⟩
theorem go_within (F : GT K mg "is_within" sWithin ["value", "low", "high"]) (G : GO P w K mg base CX0 1 "is_whole" ["value"] spWhole) : GO P w K mg base CX0 2 "is_within" ["value", "low", "high"] spWithin := by
  obtain ⟨f, fd, F, hm, hb⟩ := F
  refine ⟨f, fd, ?_, hm, F.kp, hb⟩
  refine F.ok scWithin (fun vs H Q E h => ?_) (fun cdv A outer s H vs Q E hr h => ?_)
  · obtain ⟨v, t, lo, hi, rfl, _⟩ := h
    rfl
  · obtain ⟨v, t, lo, hi, rfl, ht, k⟩ := h
    refine ⟨_, pss_one (ps_ret (pe_and (pc_ G hr (pa_cons (pv 0) pa_nil)) (pe_one (pe_chain op_le op_le (pv 1) (pv 0) (pv 2))))), ?_⟩
    refine ⟨_, rfl, v, t, rfl, ht, _, rfl, ?_⟩
    cases v <;> cases ht
    · exact iteF k
    · exact iteF k
    · rename_i i
      refine iteT ⟨_, rfl, _, rfl, _, _, rfl, rfl, _, rfl, ?_⟩
      have e : inW lo hi (.int i) = (decide (lo ≤ i) && decide (i ≤ hi)) := rfl
      rw [e] at k
      cases h1 : decide (lo ≤ i) with
      | true =>
        rw [h1] at k
        exact iteT ⟨_, rfl, _, _, rfl, rfl, by simpa using k⟩
      | false =>
        rw [h1] at k
        exact iteF (by simpa using k)
    · exact iteF k
theorem scEpoch : FnScope ["self"] ["self"] (defScope sEpoch) := ⟨rfl, rfl, rfl, by decide +kernel, rfl, by decide +kernel, by decide +kernel⟩
theorem mo_epoch (F : MT K C "epoch" "Layout.epoch" sEpoch ["self"]) : MO P w K mg base CX0 C 1 "epoch" ["self"] (spL0 C fun _ _ _ => .int 0) := by
  obtain ⟨f, fd, F, hm, hb⟩ := F
  refine ⟨f, fd, ?_, hm, hb⟩
  refine F.ok scEpoch (fun vs H Q E h => ?_) (fun cdv A outer s H vs Q E hr h => ?_)
  · obtain ⟨a, t, w, r, rfl, _⟩ := h
    rfl
  · obtain ⟨a, t, w, r, rfl, _, k⟩ := h
    exact ⟨_, pss_one (ps_ret pe_int), k⟩
theorem scESlot : FnScope ["self", "thread"] ["self", "thread"] (defScope sESlot) := ⟨rfl, rfl, rfl, by decide +kernel, rfl, by decide +kernel, by decide +kernel⟩
theorem mo_eslot (F : MT K C "epoch_slot" "Layout.epoch_slot" sESlot ["self", "thread"]) : MO P w K mg base CX0 C 1 "epoch_slot" ["self", "thread"] (spL1 C fun _ _ _ i => .int (1 + i)) := by
  obtain ⟨f, fd, F, hm, hb⟩ := F
  refine ⟨f, fd, ?_, hm, hb⟩
  refine F.ok scESlot (fun vs H Q E h => ?_) (fun cdv A outer s H vs Q E hr h => ?_)
  · obtain ⟨a, t, w, r, i, rfl, _⟩ := h
    rfl
  · obtain ⟨a, t, w, r, i, rfl, _, k⟩ := h
    exact ⟨_, pss_one (ps_ret (pe_op op_add pe_int (pv 1))), _, rfl, _, _, rfl, rfl, k⟩
theorem scCSlot : FnScope ["self", "thread"] ["self", "thread"] (defScope sCSlot) := ⟨rfl, rfl, rfl, by decide +kernel, rfl, by decide +kernel, by decide +kernel⟩
theorem mo_cslot (F : MT K C "call_slot" "Layout.call_slot" sCSlot ["self", "thread"]) (T : LTxt K mg C) (G : MO P w K mg base CX0 C 1 "epoch_slot" ["self", "thread"] (spL1 C fun _ _ _ i => .int (1 + i))) :
    MO P w K mg base CX0 C 2 "call_slot" ["self", "thread"] (spL1 C fun t _ _ i => .int (first t + i)) := by
  obtain ⟨f, fd, F, hm, hb⟩ := F
  refine ⟨f, fd, ?_, hm, hb⟩
  refine F.ok scCSlot (fun vs H Q E h => ?_) (fun cdv A outer s H vs Q E hr h => ?_)
  · obtain ⟨a, t, w, r, i, rfl, _⟩ := h
    rfl
  · obtain ⟨a, t, w, r, i, rfl, L, k⟩ := h
    obtain ⟨dx, h1⟩ := id L
    refine ⟨_, pss_one (ps_ret (pe_op op_add (pm_ G T.cl hr (pv 0) (pa_cons (pe_fld (pv 0) rfl) pa_nil)) (pv 1))), ?_⟩
    exact ⟨_, rfl, a, dx, _, rfl, h1, rfl, _, rfl, a, C, dx, _, _, rfl, h1, T.cl, T.nT, rfl, a, t, w, r, t, rfl, L, _, rfl, _, _, rfl, rfl, k⟩
theorem scWord : FnScope ["self", "index"] ["self", "index"] (defScope sWord) := ⟨rfl, rfl, rfl, by decide +kernel, rfl, by decide +kernel, by decide +kernel⟩
theorem mo_word (F : MT K C "word" "Layout.word" sWord ["self", "index"]) (T : LTxt K mg C) (G : MO P w K mg base CX0 C 2 "call_slot" ["self", "thread"] (spL1 C fun t _ _ i => .int (first t + i))) :
    MO P w K mg base CX0 C 3 "word" ["self", "index"] (spL1 C fun t _ _ i => .int (first t + t + i)) := by
  obtain ⟨f, fd, F, hm, hb⟩ := F
  refine ⟨f, fd, ?_, hm, hb⟩
  refine F.ok scWord (fun vs H Q E h => ?_) (fun cdv A outer s H vs Q E hr h => ?_)
  · obtain ⟨a, t, w, r, i, rfl, _⟩ := h
    rfl
  · obtain ⟨a, t, w, r, i, rfl, L, k⟩ := h
    obtain ⟨dx, h1⟩ := id L
    refine ⟨_, pss_one (ps_ret (pe_op op_add (pm_ G T.cl hr (pv 0) (pa_cons (pe_fld (pv 0) rfl) pa_nil)) (pv 1))), ?_⟩
    exact ⟨_, rfl, a, dx, _, rfl, h1, rfl, _, rfl, a, C, dx, _, _, rfl, h1, T.cl, T.nT, rfl, a, t, w, r, t, rfl, L, _, rfl, _, _, rfl, rfl, k⟩
theorem scRecord : FnScope ["self", "index"] ["self", "index"] (defScope sRecord) := ⟨rfl, rfl, rfl, by decide +kernel, rfl, by decide +kernel, by decide +kernel⟩
theorem mo_record (F : MT K C "record" "Layout.record" sRecord ["self", "index"]) (T : LTxt K mg C) (G : MO P w K mg base CX0 C 3 "word" ["self", "index"] (spL1 C fun t _ _ i => .int (first t + t + i))) :
    MO P w K mg base CX0 C 4 "record" ["self", "index"] (spL1 C fun t w _ i => .int (rec0 t w + i)) := by
  obtain ⟨f, fd, F, hm, hb⟩ := F
  refine ⟨f, fd, ?_, hm, hb⟩
  refine F.ok scRecord (fun vs H Q E h => ?_) (fun cdv A outer s H vs Q E hr h => ?_)
  · obtain ⟨a, t, w, r, i, rfl, _⟩ := h
    rfl
  · obtain ⟨a, t, w, r, i, rfl, L, k⟩ := h
    obtain ⟨dx, h1⟩ := id L
    refine ⟨_, pss_one (ps_ret (pe_op op_add (pm_ G T.cl hr (pv 0) (pa_cons (pe_fld (pv 0) rfl) pa_nil)) (pv 1))), ?_⟩
    exact ⟨_, rfl, a, dx, _, rfl, h1, rfl, _, rfl, a, C, dx, _, _, rfl, h1, T.cl, T.nW, rfl, a, t, w, r, w, rfl, L, _, rfl, _, _, rfl, rfl, k⟩
theorem scCells : FnScope ["self"] ["self"] (defScope sCells) := ⟨rfl, rfl, rfl, by decide +kernel, rfl, by decide +kernel, by decide +kernel⟩
theorem mo_cells (F : MT K C "cells" "Layout.cells" sCells ["self"]) (T : LTxt K mg C) (G : MO P w K mg base CX0 C 4 "record" ["self", "index"] (spL1 C fun t w _ i => .int (rec0 t w + i))) :
    MO P w K mg base CX0 C 5 "cells" ["self"] (spL0 C fun t w r => .int (cells t w r)) := by
  obtain ⟨f, fd, F, hm, hb⟩ := F
  refine ⟨f, fd, ?_, hm, hb⟩
  refine F.ok scCells (fun vs H Q E h => ?_) (fun cdv A outer s H vs Q E hr h => ?_)
  · obtain ⟨a, t, w, r, rfl, _⟩ := h
    rfl
  · obtain ⟨a, t, w, r, rfl, L, k⟩ := h
    obtain ⟨dx, h1⟩ := id L
    refine ⟨_, pss_one (ps_ret (pm_ G T.cl hr (pv 0) (pa_cons (pe_fld (pv 0) rfl) pa_nil))), ?_⟩
    exact ⟨_, rfl, a, dx, _, rfl, h1, rfl, _, rfl, a, C, dx, _, _, rfl, h1, T.cl, T.nR, rfl, a, t, w, r, r, rfl, L, k⟩
end
end Dk

set_option maxHeartbeats 4000000
/-! the refusals; a layout is made -/
namespace Dk
open PySem PySem.Spec PyProof.Rows L2
abbrev bmVE : List Value := [.type "ValueError", .type "Exception", .type "BaseException", .type "object"]
/-- what the top has written of the refusals: NotValid at NV, LineError at LE -/
structure XTxt (K : PySem.W.Frag) (mg : Str → Option Value) (NV LE : Addr) : Prop where
  gN : mg "NotValid" = some (.ref NV)
  gL : mg "LineError" = some (.ref LE)
  xN : PySem.W.excIn K NV bmVE "ValueError.__new__" = true
  kN : PySem.W.keepIn K (.ref NV) = true
  sN : PySem.W.subIn K (.ref NV) (.type "BaseException") = some true
  tN : PySem.W.typeIn K (.ref NV) = some (.type "type")
  eN : PySem.W.exmOne K (.ref NV) (.ref LE) = some true
  eC : ExcC K NV
  kit : PySem.W.kitOne K (.ref NV) (.ref NV) = some true
def lok (t w r : Int) : Bool := inW 1 3 (.int t) && (inW 1 4 (.int w) && inW 4 200 (.int r))
structure LOk (t w r : Int) : Prop where
  t1 : 1 ≤ t
  t3 : t ≤ 3
  w1 : 1 ≤ w
  w4 : w ≤ 4
  r4 : 4 ≤ r
  r200 : r ≤ 200
theorem lok_iff {t w r : Int} : lok t w r = true ↔ LOk t w r := by
  unfold lok
  rw [Bool.and_eq_true, Bool.and_eq_true, inW_int, inW_int, inW_int]
  exact ⟨fun ⟨⟨a, b⟩, ⟨c, d⟩, e, f⟩ => ⟨a, b, c, d, e, f⟩, fun ⟨a, b, c, d, e, f⟩ => ⟨⟨a, b⟩, ⟨c, d⟩, e, f⟩⟩
def spLInit (C NV : Addr) : Sp := fun vs H Q E => ∃ p dx t w r, vs = [.ref p, .int t, .int w, .int r] ∧ H p = some (.ins C dx []) ∧
  (lok t w r = true → ∀ H', LayAt C H' p t w r → (∀ b o, H b = some o → b ≠ p → H' b = some o) → Q .non H') ∧ (lok t w r = false → E (.ref NV) none H)
def spTold (C : Addr) : Sp := fun vs H Q _ => ∃ t w r, vs = [.int t, .int w, .int r] ∧
  (lok t w r = true → ∀ p H', H p = none → LayAt C H' p t w r → Same H H' → Q (.ref p) H') ∧ (lok t w r = false → ∀ p H', H' p = some (.lst [.bl true]) → Same H H' → Q (.ref p) H')
def rIsE' (K : PySem.W.Frag) (D a : Addr) (cls : Value) (d : Option Addr) : List V → Hp → VK → Prop := fun xs H Q => cls = .ref D ∧ d = none ∧ rIsE K D a xs H Q
theorem call_isE' {X : Cx} {a D : Addr} {oe : Obj} {cls : Value} {d : Option Addr} {pn : List (Addr × Obj)} (C : ExcC X.K D) (hz : Zc cls d oe) (hf : ∃ vs, oe.data = .fields vs) :
    CallR (X.suite a ((a, oe) :: pn)) (.builtin "isinstance") (rIsE' X.K D a cls d) := by
  intro pins s σ H xs us Q I r h
  obtain ⟨rfl, rfl, h⟩ := h
  exact call_isE C hz hf pins s σ H xs us Q I r h
section
variable {P : Program} {w : World} {K : PySem.W.Frag} {mg : Str → Option Value} {base : Heap} {C NV LE : Addr}
theorem scLInit : FnScope ["self", "threads", "words", "records"] ["self", "threads", "words", "records"] (defScope sLInit) := ⟨rfl, rfl, rfl, by decide +kernel, rfl, by decide +kernel, by decide +kernel⟩
theorem ok_linit {f : Addr} {fd : FuncData} (F : Fun K "__init__" "Layout.__init__" sLInit f fd) (T : LTxt K mg C) (X0 : XTxt K mg NV LE) (G : GO P w K mg base CX0 2 "is_within" ["value", "low", "high"] spWithin) :
    FnOk P w K mg base (L2.CX P w) 3 f fd ["self", "threads", "words", "records"] (spLInit C NV) := by
  refine F.okX scLInit (fun vs H Q E h => ?_) (fun cdv A outer s H vs Q E hr h => ?_)
  · obtain ⟨p, dx, t, w, r, rfl, _⟩ := h
    rfl
  · obtain ⟨p, dx, t, w, r, rfl, hp, k1, k2⟩ := h
    refine ⟨_, pss_cons (ps_if (pt_not (PW.pt (pw_and (pt_val (pc_ G hr (pa_cons (pv 1) (pa_cons pe_int (pa_cons pe_int pa_nil))))) (pw_and (pt_val (pc_ G hr (pa_cons (pv 2) (pa_cons pe_int (pa_cons pe_int pa_nil)))))
        (pw_and1 (pt_val (pc_ G hr (pa_cons (pv 3) (pa_cons pe_int (pa_cons pe_int pa_nil))))))))))
        (pss_one (ps_raise rfl (takes_of rfl rfl rfl rfl) (pmk_own0 PySem.F.excBase_ValueError X0.xN X0.gN X0.kN (raises_own X0.sN X0.tN) rfl))) pss_nil)
      (pss_cons (ps_fld (pv 0) (pv 1) rfl) (pss_cons (ps_fld (pv 0) (pv 2) rfl) (pss_one (ps_fld (pv 0) (pv 3) rfl)))), ?_⟩
    have fin : lok t w r = true → tSeq (sFld K (tVar 0) (tVar 1) "threads") (tSeq (sFld K (tVar 0) (tVar 2) "words") (sFld K (tVar 0) (tVar 3) "records")) { nx := fun _ H' => Q .non H', rt := Q } (L2.start ["self", "threads", "words", "records"] [.ref p, .int t, .int w, .int r]) H := fun q => by
      refine ⟨_, rfl, _, rfl, p, C, dx, [], rfl, hp, T.cl, T.nT, (by show 0 < 1000; decide), _, rfl, _, rfl, p, C, dx, _, rfl, upd_same, T.cl, T.nW, (by show 1 < 1000; decide), _, rfl, _, rfl, p, C, dx, _, rfl, upd_same, T.cl, T.nR, (by show 2 < 1000; decide), ?_⟩
      exact k1 q _ ⟨dx, upd_same⟩ fun b o e hb => by rw [upd_ne hb, upd_ne hb, upd_ne hb]; exact e
    refine ⟨_, rfl, _, _, _, _, rfl, rfl, _, rfl, ?_⟩
    cases h1 : inW 1 3 (V.int t) with
    | false => exact iteF (iteT (k2 (by unfold lok; rw [h1]; rfl)))
    | true =>
      refine iteT ⟨_, rfl, _, _, _, _, rfl, rfl, _, rfl, ?_⟩
      cases h2 : inW 1 4 (V.int w) with
      | false => exact iteF (iteT (k2 (by unfold lok; rw [h1, h2]; rfl)))
      | true =>
        refine iteT ⟨_, rfl, _, _, _, _, rfl, rfl, _, rfl, ?_⟩
        cases h3 : inW 4 200 (V.int r) with
        | false => exact (iteT (k2 (by unfold lok; rw [h1, h2, h3]; rfl)))
        | true => exact (iteF (fin (by unfold lok; rw [h1, h2, h3]; rfl)))
end
end Dk

set_option maxHeartbeats 4000000
/-! the tape of a law -/
namespace Dk
open PySem PySem.Spec PyProof.Rows L2
abbrev sTape : Stmt := top 13
abbrev sAt : Stmt := top 14
def Small (ms : List Int) : Prop := ∀ v, v ∈ ms → 0 ≤ v ∧ v < 1000
theorem Small.snoc {ms : List Int} {v : Int} (h : Small ms) (a : 0 ≤ v) (b : v < 1000) : Small (ms ++ [v]) := fun x hx => by
  rcases List.mem_append.mp hx with m | m
  · exact h x m
  · rw [List.mem_singleton.mp m]
    exact ⟨a, b⟩
def atD (ms : List Int) (k : Nat) : Int := (ms[k]?).getD 0
theorem atD_small {ms : List Int} {k : Nat} (h : Small ms) : 0 ≤ atD ms k ∧ atD ms k < 1000 := by
  unfold atD
  cases e : ms[k]? with
  | none => exact ⟨by decide, by decide⟩
  | some v => exact h v (List.mem_of_getElem? e)
def spTape (K : PySem.W.Frag) : Sp := fun vs H Q _ => ∃ (a : Addr) (ns : List Int), vs = [.ref a] ∧ SqL K H a (ns.map V.int) ∧ ns.length ≤ 63 ∧
  ∀ (p : Addr) (ms : List Int) (H' : Hp), H p = none → H' p = some (.lst (ms.map V.int)) → Small ms → ms.length ≤ 3780 → Same H H' → Q (.ref p) H'
def spAt (K : PySem.W.Frag) : Sp := fun vs H Q _ => ∃ (p : Addr) (ms : List Int) (k : Nat), vs = [.ref p, .int (k : Int)] ∧ SqL K H p (ms.map V.int) ∧ Q (.int (atD ms k)) H
section
variable {P : Program} {w : World} {K : PySem.W.Frag} {mg : Str → Option Value} {base : Heap}
theorem scTape : FnScope ["script", "tape", "k", "value", "step"] ["script"] (defScope sTape) := ⟨rfl, rfl, rfl, by decide +kernel, rfl, by decide +kernel, by decide +kernel⟩
theorem go_tape (F : GT K mg "_law_tape" sTape ["script"]) (T : Bn mg) : GO P w K mg base CX0 1 "_law_tape" ["script"] (spTape K) := by
  obtain ⟨f, fd, F, hm, hb⟩ := F
  refine ⟨f, fd, ?_, hm, F.kp, hb⟩
  refine F.ok scTape (fun vs H Q E h => ?_) (fun cdv A outer s H vs Q E hr h => ?_)
  · obtain ⟨a, ns, rfl, _⟩ := h
    rfl
  · obtain ⟨a, ns, rfl, hS, hlen, k⟩ := h
    have hsl : sizeLine = 16777216 := sizeLine_eq
    refine ⟨_, pss_cons (ps_set (i := 1) scTape.nd rfl (Or.inl rfl) (pe_lst pa_nil))
      (pss_cons (ps_for PassesOwn.never rfl (pi_range1 rfl T.range (pa_cons (pe_callB call_len_seq (by rfl) T.len PySem.boot_len (pa_cons (pv 0) pa_nil)) pa_nil)) (pg_name (i := 2) scTape.nd rfl (Or.inl rfl))
        (pss_cons (ps_set (i := 3) scTape.nd rfl (Or.inl rfl) (pe_callB call_abs (by rfl) T.abs (by decide +kernel) (pa_cons (pe_callTy call_int1 (by rfl) T.int (by decide +kernel) (pa_cons (pe_ix ix_list (pv 0) (pv 2) (fun _ _ => rfl)) pa_nil)) pa_nil)))
        (pss_one (ps_if (pt_cmpR op_ge (pv 3) (pe_op op_pow pe_int pe_int) (nomark _))
          (pss_one (ps_for PassesOwn.never rfl (pi_range1 rfl T.range (pa_cons pe_int pa_nil)) (pg_name (i := 4) scTape.nd rfl (Or.inl rfl))
            (pss_one (ps_if (pt_cmpR op_gt (pv 3) pe_int (nomark _))
              (pss_cons (ps_expr (pe_bm PySem.F.plainAttrs_list PySem.F.slot_list_append PySem.F.type_list_append mt_append (pv 1) (pa_cons (pe_op op_mod (pv 3) pe_int) pa_nil)))
              (pss_one (ps_set (i := 3) scTape.nd rfl (Or.inl rfl) (pe_op op_fdiv (pv 3) pe_int)))) pss_nil))))
          (pss_one (ps_for PassesOwn.never rfl (pi_range1 rfl T.range (pa_cons pe_int pa_nil)) (pg_name (i := 4) scTape.nd rfl (Or.inl rfl))
            (pss_cons (ps_set (i := 3) scTape.nd rfl (Or.inl rfl) (pe_op op_mod (pe_op op_add (pe_op op_add (pe_op op_mul (pv 3) pe_int) (pe_op op_mul pe_int (pe_op op_add (pv 2) pe_int))) (pe_op op_mul pe_int (pv 4))) pe_int))
            (pss_cons (ps_set (i := 3) scTape.nd rfl (Or.inl rfl) (pe_op op_mod (pe_op op_mul (pv 3) pe_int) pe_int))
            (pss_one (ps_expr (pe_bm PySem.F.plainAttrs_list PySem.F.slot_list_append PySem.F.type_list_append mt_append (pv 1) (pa_cons (pe_op op_mod (pe_op op_fdiv (pv 3) pe_int) pe_int) pa_nil))))))))))))
      (pss_one (ps_ret (pv 1)))), ?_⟩
    -- tape = []
    refine ⟨(by show 0 ≤ sizeLine; exact Nat.zero_le _), fun D hD => ?_⟩
    have s0 : Same H (upd H D (.lst [])) := fun b o e => by rw [upd_ne (ne_of_none e hD)]; exact e
    refine ⟨_, rfl, a, _, rfl, .inl (s0.seq hS), _, rfl, (by rw [List.length_map]; omega), (by rw [List.length_map]; omega), for_range (lo := 0) (n := ((ns.map V.int).length : Int).toNat)
      (fun i σ H2 => ∃ (x y z : Option V) (ms : List Int), σ = [some (.ref a), some (.ref D), x, y, z] ∧ H2 D = some (.lst (ms.map V.int)) ∧ Small ms ∧ ms.length ≤ 60 * i ∧ Same H H2) ⟨_, _, _, [], rfl, upd_same, fun v h => by simp at h, by simp, s0⟩ ?_ ?_⟩
    · rintro i σ H2 hi ⟨x, y, z, ms, rfl, hl, sm, len, s2⟩
      have hi' : i < ns.length := by
        rw [List.length_map] at hi
        omega
      have hv : (ns.map V.int)[i]? = some (V.int ns[i]) := by rw [List.getElem?_map, List.getElem?_eq_getElem hi']; rfl
      refine ⟨_, rfl, _, rfl, a, _, _, _, rfl, rfl, s2.seq hS, at_of (j := i) (by omega) hv, .inl ⟨_, rfl, _, rfl, ?_⟩⟩
      generalize hval : (if ns[i] < 0 then -ns[i] else ns[i]) = val
      refine ⟨_, rfl, _, _, rfl, rfl, ⟨by decide, by decide, by decide⟩, _, _, rfl, rfl, _, rfl, ite2 (fun _ => ?_) (fun _ => ?_)⟩
      · refine ⟨60, rfl, by decide, by decide, for_range (lo := 0) (n := (60 : Int).toNat)
          (fun l σ H2 => ∃ (val : Int) (z : Option V) (ms' : List Int), σ = [some (.ref a), some (.ref D), some (.int (0 + (i : Int))), some (.int val), z] ∧ H2 D = some (.lst (ms'.map V.int)) ∧ Small ms' ∧ ms'.length ≤ ms.length + l ∧ Same H H2) ⟨_, _, ms, rfl, hl, sm, by omega, s2⟩ ?_ ?_⟩
        · rintro l σ H3 hl3 ⟨val3, z3, ms3, rfl, hl3', sm3, len3, s3⟩
          refine ⟨_, rfl, _, _, rfl, rfl, _, rfl, ite2 (fun _ => ?_) (fun _ => ?_)⟩
          · refine ⟨_, rfl, .inl ⟨rfl, _, SqL.of hl3'⟩, _, rfl, _, _, rfl, rfl, (by show (0 : Int) < 1000; decide), D, _, _, rfl, rfl, hl3', ?_, ?_⟩
            · rw [List.length_map]
              have : (60 : Int).toNat = 60 := rfl
              omega
            · refine ⟨_, rfl, _, _, rfl, rfl, ⟨by decide, by decide⟩, ?_⟩
              refine ⟨_, _, ms3 ++ [val3 % 1000], rfl, ?_, sm3.snoc (Int.emod_nonneg _ (by decide)) (Int.emod_lt_of_pos _ (by decide)), ?_, fun b o e => ?_⟩
              · rw [upd_same, List.map_append]
                rfl
              · rw [List.length_append, List.length_singleton]
                omega
              · rw [upd_ne (ne_of_none e hD)]
                exact s3 b o e
          · exact ⟨_, _, ms3, rfl, hl3', sm3, by omega, s3⟩
        · rintro σ H3 ⟨val3, z3, ms3, rfl, hl3', sm3, len3, s3⟩
          exact ⟨_, _, _, ms3, rfl, hl3', sm3, (by have : (60 : Int).toNat = 60 := rfl; omega), s3⟩
      · refine ⟨4, rfl, by decide, by decide, for_range (lo := 0) (n := (4 : Int).toNat)
          (fun l σ H2 => ∃ (val : Int) (z : Option V) (ms' : List Int), σ = [some (.ref a), some (.ref D), some (.int (0 + (i : Int))), some (.int val), z] ∧ H2 D = some (.lst (ms'.map V.int)) ∧ Small ms' ∧ ms'.length ≤ ms.length + l ∧ Same H H2) ⟨_, _, ms, rfl, hl, sm, by omega, s2⟩ ?_ ?_⟩
        · rintro l σ H3 hl3 ⟨val3, z3, ms3, rfl, hl3', sm3, len3, s3⟩
          refine ⟨_, rfl, _, _, rfl, rfl, .inr ⟨by decide, by decide⟩, _, rfl, _, _, rfl, rfl, _, _, rfl, rfl, .inl ⟨by decide, by decide⟩, _, _, rfl, rfl, _, rfl, _, _, rfl, rfl, .inl ⟨by decide, by decide⟩, _, _, rfl, rfl, _, _, rfl, rfl, (by show (0 : Int) < 2147483647; decide), ?_⟩
          refine ⟨_, rfl, _, _, rfl, rfl, .inr ⟨by decide, by decide⟩, _, _, rfl, rfl, (by show (0 : Int) < 2147483647; decide), ?_⟩
          refine ⟨_, rfl, .inl ⟨rfl, _, SqL.of hl3'⟩, _, rfl, _, _, rfl, rfl, ⟨by decide, by decide⟩, _, _, rfl, rfl, (by show (0 : Int) < 1000; decide), D, _, _, rfl, rfl, hl3', ?_, ?_⟩
          · rw [List.length_map]
            have : (4 : Int).toNat = 4 := rfl
            omega
          · refine ⟨_, _, ms3 ++ [((val3 * 48271 + 69621 * (0 + (i : Int) + 1) + 7 * (0 + (l : Int))) % 2147483647 * 16807 % 2147483647 / 1000) % 1000], rfl, ?_, sm3.snoc (Int.emod_nonneg _ (by decide)) (Int.emod_lt_of_pos _ (by decide)), ?_, fun b o e => ?_⟩
            · rw [upd_same, List.map_append]
              rfl
            · rw [List.length_append, List.length_singleton]
              omega
            · rw [upd_ne (ne_of_none e hD)]
              exact s3 b o e
        · rintro σ H3 ⟨val3, z3, ms3, rfl, hl3', sm3, len3, s3⟩
          exact ⟨_, _, _, ms3, rfl, hl3', sm3, (by have : (4 : Int).toNat = 4 := rfl; omega), s3⟩
    · rintro σ H2 ⟨x, y, z, ms, rfl, hl, sm, len, s2⟩
      exact ⟨_, rfl, k D ms H2 hD hl sm (by rw [List.length_map] at len; omega) s2⟩
theorem scAt : FnScope ["tape", "k"] ["tape", "k"] (defScope sAt) := ⟨rfl, rfl, rfl, by decide +kernel, rfl, by decide +kernel, by decide +kernel⟩
theorem go_at (F : GT K mg "_law_at" sAt ["tape", "k"]) (T : Bn mg) : GO P w K mg base CX0 1 "_law_at" ["tape", "k"] (spAt K) := by
  obtain ⟨f, fd, F, hm, hb⟩ := F
  refine ⟨f, fd, ?_, hm, F.kp, hb⟩
  refine F.ok scAt (fun vs H Q E h => ?_) (fun cdv A outer s H vs Q E hr h => ?_)
  · obtain ⟨p, ms, k, rfl, _⟩ := h
    rfl
  · obtain ⟨p, ms, i, rfl, hS, k⟩ := h
    refine ⟨_, pss_cons (ps_if (pt_cmpR op_lt (pv 1) (pe_callB call_len_seq (by rfl) T.len PySem.boot_len (pa_cons (pv 0) pa_nil)) (nomark _)) (pss_one (ps_ret (pe_ix ix_list (pv 0) (pv 1) (fun _ _ => rfl)))) pss_nil)
      (pss_one (ps_ret pe_int)), ?_⟩
    refine ⟨_, rfl, _, rfl, p, _, rfl, .inl hS, _, _, rfl, rfl, _, rfl, ite2 (fun c => ?_) (fun c => ?_)⟩
    · have hi : i < ms.length := by
        have c := of_decide_eq_true c
        rw [List.length_map] at c
        omega
      have hv : (ms.map V.int)[i]? = some (V.int ms[i]) := by rw [List.getElem?_map, List.getElem?_eq_getElem hi]; rfl
      have ea : atD ms i = ms[i] := by unfold atD; rw [List.getElem?_eq_getElem hi]; rfl
      rw [ea] at k
      exact ⟨_, rfl, _, rfl, p, _, _, _, rfl, rfl, hS, atI_nat hv, k⟩
    · have hi : ¬ i < ms.length := fun h => c (decide_eq_true (by rw [List.length_map]; omega))
      have ea : atD ms i = 0 := by unfold atD; rw [List.getElem?_eq_none (by omega)]; rfl
      rw [ea] at k
      exact k
end
end Dk

set_option maxHeartbeats 4000000
/-! the stores -/
namespace Dk
open PySem PySem.Spec PyProof.Rows L2 StX
abbrev sSInit : Stmt := inClass (top 8) 0
abbrev sTake : Stmt := inClass (top 8) 1
abbrev sGiveB : Stmt := inClass (top 8) 2
abbrev sTOut : Stmt := inClass (top 8) 3
abbrev sFreeC : Stmt := inClass (top 8) 4
abbrev sWait : Stmt := inClass (top 8) 5
abbrev sDivided : Stmt := top 9
abbrev sfs (la : Addr) (t : Int) (fa wa oa : Addr) : List (Str × V) := [("layout", .ref la), ("thread", .int t), ("_free", .ref fa), ("_waiting", .ref wa), ("_out", .ref oa)]
structure StAt (S : Addr) (H : Hp) (a la : Addr) (t : Int) (fa wa oa : Addr) (fr out : List Int) : Prop where
  ob : ∃ dx, H a = some (.ins S dx (sfs la t fa wa oa))
  f : H fa = some (.lst (fr.map V.int))
  w : H wa = some (.lst [])
  o : H oa = some (.lst (out.map V.int))
theorem StAt.same {S : Addr} {H H' : Hp} {a la : Addr} {t : Int} {fa wa oa : Addr} {fr out : List Int} (R : StAt S H a la t fa wa oa fr out) (s : Same H H') : StAt S H' a la t fa wa oa fr out :=
  ⟨let ⟨dx, h⟩ := R.ob; ⟨dx, s _ _ h⟩, s _ _ R.f, s _ _ R.w, s _ _ R.o⟩
/-- kept but at a -/
def Kept (a : Addr) (H H' : Hp) : Prop := ∀ b o, H b = some o → b ≠ a → H' b = some o
structure STxt (K : PySem.W.Frag) (mg : Str → Option Value) (S : Addr) : Prop where
  cl : Cls K S
  nL : NoAttr K S "layout"
  nT : NoAttr K S "thread"
  nF : NoAttr K S "_free"
  nW : NoAttr K S "_waiting"
  nO : NoAttr K S "_out"
  sorted : mg "sorted" = none
  max : mg "max" = none
  len : mg "len" = none
  list : mg "list" = none
def Asc (l : List Int) : Prop := l.Pairwise (· ≤ ·)
def spSInit (S : Addr) : Sp := fun vs H Q _ => ∃ (a dx la : Addr) (t : Int) (ca : Addr) (cs : List Int), vs = [.ref a, .ref la, .int t, .ref ca] ∧ H a = some (.ins S dx []) ∧ H ca = some (.lst (cs.map V.int)) ∧
  ∀ H' fa wa oa fr, fr.Perm cs → Asc fr → StAt S H' a la t fa wa oa fr [] → H fa = none → H wa = none → H oa = none → Kept a H H' → Q .non H'
def spTake (S : Addr) : Sp := fun vs H Q _ => ∃ (a la : Addr) (t : Int) (fa wa oa : Addr) (fr out : List Int) (n : Nat), vs = [.ref a, .int (n : Int)] ∧ StAt S H a la t fa wa oa fr out ∧ fr.length < 1000 ∧
  (fr.length < n → Q .non H) ∧ (n ≤ fr.length → ∀ H' p fa', H p = none → H fa' = none → p ≠ fa' → H' p = some (.lst ((fr.take n).map V.int)) → StAt S H' a la t fa' wa oa (fr.drop n) out → Kept a H H' → Q (.ref p) H')
def spGiveB (S : Addr) : Sp := fun vs H Q _ => ∃ (a la : Addr) (t : Int) (fa wa oa : Addr) (fr out : List Int) (ca : Addr) (cs : List Int), vs = [.ref a, .ref ca] ∧ StAt S H a la t fa wa oa fr out ∧ H ca = some (.lst (cs.map V.int)) ∧ fr.length + cs.length < 1000 ∧
  ∀ H' fa' fr', fr'.Perm (fr ++ cs) → Asc fr' → H fa' = none → StAt S H' a la t fa' wa oa fr' out → Kept a H H' → Q .non H'
def spTOut (S : Addr) : Sp := fun vs H Q _ => ∃ (a la : Addr) (t : Int) (fa wa oa : Addr) (fr out : List Int) (ca : Addr) (cs : List Int), vs = [.ref a, .ref ca] ∧ StAt S H a la t fa wa oa fr out ∧ H ca = some (.lst (cs.map V.int)) ∧ out.length + cs.length < 1000 ∧
  ∀ H' oa', H oa' = none → StAt S H' a la t fa wa oa' fr (out ++ cs) → Kept a H H' → Q .non H'
def spFreeC (S : Addr) : Sp := fun vs H Q _ => ∃ (a la : Addr) (t : Int) (fa wa oa : Addr) (fr out : List Int), vs = [.ref a] ∧ StAt S H a la t fa wa oa fr out ∧
  ∀ H' p, H p = none → H' p = some (.lst (fr.map V.int)) → Same H H' → Q (.ref p) H'
/-- what waits, at p -/
def WaitAt (H : Hp) (p : Addr) (out : List Int) : Prop := (out = [] ∧ H p = some (.lst [])) ∨ (out ≠ [] ∧ ∃ q r, H p = some (.lst [.ref q]) ∧ H q = some (.tup [.non, .ref r]) ∧ H r = some (.lst (out.map V.int)))
def spWait (S : Addr) : Sp := fun vs H Q _ => ∃ (a la : Addr) (t : Int) (fa wa oa : Addr) (fr out : List Int), vs = [.ref a] ∧ StAt S H a la t fa wa oa fr out ∧
  ∀ H' p, H p = none → WaitAt H' p out → Same H H' → Q (.ref p) H'
def spDivided (C : Addr) : Sp := fun vs H Q _ => ∃ (la : Addr) (t w r : Int) (ca : Addr) (cs : List Int) (th : Int), vs = [.ref la, .ref ca, .int th] ∧ LayAt C H la t w r ∧ 0 < t ∧ H ca = some (.lst (cs.map V.int)) ∧ cs.length < 1000 ∧
  ∀ H' p ds, ds.Perm (cs.filter fun c => decide ((c - (rec0 t w + 0)).fmod t = th)) → Asc ds → H p = none → H' p = some (.lst (ds.map V.int)) → Same H H' → Q (.ref p) H'
theorem iteD {c A B : Prop} [Decidable c] (hc : c) (h : A) : if decide c = true then A else B := by
  rw [decide_eq_true hc]
  exact iteT h
theorem iteND {c A B : Prop} [Decidable c] (hc : ¬ c) (h : B) : if decide c = true then A else B := by
  rw [decide_eq_false hc]
  exact iteF h
theorem iteC {c : Bool} {A B : Prop} (hc : c = false) (h : B) : if c = true then A else B := by
  rw [hc]
  exact iteF h
theorem fil_t {p : Int → Bool} {cs : List Int} {i : Nat} (h : i < cs.length) (c : p cs[i] = true) : (cs.take (i + 1)).filter p = (cs.take i).filter p ++ [cs[i]] := by
  rw [List.take_succ_eq_append_getElem h, List.filter_append, List.filter_cons, if_pos c]
  rfl
theorem fil_f {p : Int → Bool} {cs : List Int} {i : Nat} (h : i < cs.length) (c : p cs[i] = false) : (cs.take (i + 1)).filter p = (cs.take i).filter p := by
  rw [List.take_succ_eq_append_getElem h, List.filter_append, List.filter_cons, if_neg (by rw [c]; decide)]
  simp
def rLof (K : PySem.W.Frag) : List V → Hp → VK → Prop := fun xs H Q => ∃ p ys, xs = [V.ref p] ∧ (SqL K H p ys ∨ SqT K H p ys) ∧ ∀ (l : Addr), H l = none → Q (V.ref l) (upd H l (HO.lst ys))
theorem cut_to {ns : List Int} {n : Nat} (h : n ≤ ns.length) : cutV (ns.map V.int) none (some (if (n : Int) > 0 then (n : Int) else 0)) = (ns.take n).map V.int := by
  have e : (if (n : Int) > 0 then (n : Int) else 0) = ((n : Nat) : Int) := by split <;> omega
  rw [e]
  unfold cutV
  rw [HT.sIx_none, HT.sIx_nat, List.drop_zero, List.length_map, List.map_take]
  congr 1
  omega
theorem cut_from {ns : List Int} {n : Nat} (h : n ≤ ns.length) : cutV (ns.map V.int) (some (n : Int)) none = (ns.drop n).map V.int := by
  unfold cutV
  rw [HT.sIx_none, HT.sIx_nat, List.length_map, List.map_drop, show min n ns.length = n by omega]
  refine List.take_of_length_le ?_
  rw [List.length_drop, List.length_map]
  exact Nat.le_refl _
section
variable {P : Program} {w : World} {K : PySem.W.Frag} {mg : Str → Option Value} {base : Heap} {C S : Addr}
theorem up1 {H1 : Hp} {p : Addr} {o : HO} (hp : H1 p = none) : Same H1 (upd H1 p o) := fun b u e => by rw [upd_ne (ne_of_none e hp)]; exact e
theorem scSInit : FnScope ["self", "layout", "thread", "cells"] ["self", "layout", "thread", "cells"] (defScope sSInit) := ⟨rfl, rfl, rfl, by decide +kernel, rfl, by decide +kernel, by decide +kernel⟩
theorem ok_sinit {f : Addr} {fd : FuncData} (F : Fun K "__init__" "Store.__init__" sSInit f fd) (T : STxt K mg S) :
    FnOk P w K mg base CX0 1 f fd ["self", "layout", "thread", "cells"] (spSInit S) := by
  refine F.ok scSInit (fun vs H Q E h => ?_) (fun cdv A outer s H vs Q E hr h => ?_)
  · obtain ⟨a, dx, la, t, ca, cs, rfl, _⟩ := h
    rfl
  · obtain ⟨a, dx, la, t, ca, cs, rfl, ha, hc, k⟩ := h
    refine ⟨_, pss_cons (ps_fld (pv 0) (pv 1) rfl) (pss_cons (ps_fld (pv 0) (pv 2) rfl)
      (pss_cons (ps_fld (pv 0) (pe_callB cr_sortedI (by rfl) T.sorted (by decide +kernel) (pa_cons (pv 3) pa_nil)) rfl)
      (pss_cons (ps_fld (pv 0) (pe_lst pa_nil) rfl) (pss_one (ps_fld (pv 0) (pe_lst pa_nil) rfl))))), ?_⟩
    have ca_a : ca ≠ a := ne_of hc ha (by intro z; cases z)
    refine ⟨_, rfl, _, rfl, a, S, dx, [], rfl, ha, T.cl, T.nL, (by show 0 < 1000; decide), _, rfl, _, rfl, a, S, dx, _, rfl, upd_same, T.cl, T.nT, (by show 1 < 1000; decide), ?_⟩
    have kp : Kept a H (upd (upd H a (.ins S dx (putF "layout" (.ref la) []))) a (.ins S dx (putF "thread" (.int t) (putF "layout" (.ref la) [])))) := fun b o e hb => by rw [upd_ne hb, upd_ne hb]; exact e
    have ha1 : upd (upd H a (.ins S dx (putF "layout" (.ref la) []))) a (.ins S dx (putF "thread" (.int t) (putF "layout" (.ref la) []))) a = some (.ins S dx [("layout", .ref la), ("thread", .int t)]) := upd_same
    generalize upd (upd H a (.ins S dx (putF "layout" (.ref la) []))) a (.ins S dx (putF "thread" (.int t) (putF "layout" (.ref la) []))) = H1 at kp ha1 ⊢
    have fr1 : ∀ {p}, H1 p = none → H p = none := fun {p} hp => by
      cases e : H p with
      | none => rfl
      | some o =>
        have := kp p o e (fun z => by rw [z, ha1] at hp; cases hp)
        rw [hp] at this
        cases this
    refine ⟨_, rfl, ca, cs, rfl, SqL.of (kp _ _ hc ca_a), fun fr fa pm asc hfa => ⟨_, rfl, a, S, dx, _, rfl, up1 hfa _ _ ha1, T.cl, T.nF, (by show 2 < 1000; decide), ?_⟩⟩
    have n1 := fr1 hfa
    have fa_a : fa ≠ a := (ne_of_none ha1 hfa).symm
    have kp2 : Kept a H (upd (upd H1 fa (.lst (fr.map V.int))) a (.ins S dx (putF "_free" (.ref fa) [("layout", .ref la), ("thread", .int t)]))) := fun b o e hb => by rw [upd_ne hb]; exact up1 hfa _ _ (kp b o e hb)
    have hf2 : upd (upd H1 fa (.lst (fr.map V.int))) a (.ins S dx (putF "_free" (.ref fa) [("layout", .ref la), ("thread", .int t)])) fa = some (.lst (fr.map V.int)) := by rw [upd_ne fa_a]; exact upd_same
    have ha2 : upd (upd H1 fa (.lst (fr.map V.int))) a (.ins S dx (putF "_free" (.ref fa) [("layout", .ref la), ("thread", .int t)])) a = some (.ins S dx [("layout", .ref la), ("thread", .int t), ("_free", .ref fa)]) := upd_same
    generalize upd (upd H1 fa (.lst (fr.map V.int))) a (.ins S dx (putF "_free" (.ref fa) [("layout", .ref la), ("thread", .int t)])) = H2 at kp2 hf2 ha2 ⊢
    have fr2 : ∀ {p}, H2 p = none → H p = none := fun {p} hp => by
      cases e : H p with
      | none => rfl
      | some o =>
        have := kp2 p o e (fun z => by rw [z, ha2] at hp; cases hp)
        rw [hp] at this
        cases this
    refine ⟨(by show 0 ≤ sizeLine; exact Nat.zero_le _), fun wa hwa => ⟨_, rfl, a, S, dx, _, rfl, up1 hwa _ _ ha2, T.cl, T.nW, (by show 3 < 1000; decide), ?_⟩⟩
    have wa_a : wa ≠ a := (ne_of_none ha2 hwa).symm
    have kp3 : Kept a H (upd (upd H2 wa (.lst [])) a (.ins S dx (putF "_waiting" (.ref wa) [("layout", .ref la), ("thread", .int t), ("_free", .ref fa)]))) := fun b o e hb => by rw [upd_ne hb]; exact up1 hwa _ _ (kp2 b o e hb)
    have hf3 : upd (upd H2 wa (.lst [])) a (.ins S dx (putF "_waiting" (.ref wa) [("layout", .ref la), ("thread", .int t), ("_free", .ref fa)])) fa = some (.lst (fr.map V.int)) := by rw [upd_ne fa_a]; exact up1 hwa _ _ hf2
    have hw3 : upd (upd H2 wa (.lst [])) a (.ins S dx (putF "_waiting" (.ref wa) [("layout", .ref la), ("thread", .int t), ("_free", .ref fa)])) wa = some (.lst []) := by rw [upd_ne wa_a]; exact upd_same
    have ha3 : upd (upd H2 wa (.lst [])) a (.ins S dx (putF "_waiting" (.ref wa) [("layout", .ref la), ("thread", .int t), ("_free", .ref fa)])) a = some (.ins S dx [("layout", .ref la), ("thread", .int t), ("_free", .ref fa), ("_waiting", .ref wa)]) := upd_same
    have n2 := fr2 hwa
    generalize upd (upd H2 wa (.lst [])) a (.ins S dx (putF "_waiting" (.ref wa) [("layout", .ref la), ("thread", .int t), ("_free", .ref fa)])) = H3 at kp3 hf3 hw3 ha3 ⊢
    have fr3 : ∀ {p}, H3 p = none → H p = none := fun {p} hp => by
      cases e : H p with
      | none => rfl
      | some o =>
        have := kp3 p o e (fun z => by rw [z, ha3] at hp; cases hp)
        rw [hp] at this
        cases this
    refine ⟨(by show 0 ≤ sizeLine; exact Nat.zero_le _), fun oa hoa => ⟨_, rfl, a, S, dx, _, rfl, up1 hoa _ _ ha3, T.cl, T.nO, (by show 4 < 1000; decide), ?_⟩⟩
    have oa_a : oa ≠ a := (ne_of_none ha3 hoa).symm
    refine k _ fa wa oa fr pm asc ⟨⟨dx, upd_same⟩, ?_, ?_, ?_⟩ n1 n2 (fr3 hoa) fun b o e hb => by rw [upd_ne hb]; exact up1 hoa _ _ (kp3 b o e hb)
    · rw [upd_ne fa_a]; exact up1 hoa _ _ hf3
    · rw [upd_ne wa_a]; exact up1 hoa _ _ hw3
    · rw [upd_ne oa_a]; exact upd_same
theorem scTake : FnScope ["self", "many", "taken"] ["self", "many"] (defScope sTake) := ⟨rfl, rfl, rfl, by decide +kernel, rfl, by decide +kernel, by decide +kernel⟩
theorem mo_take (F : MT K S "take" "Store.take" sTake ["self", "many"]) (T : STxt K mg S) : MO P w K mg base CX0 S 1 "take" ["self", "many"] (spTake S) := by
  obtain ⟨f, fd, F, hm, hb⟩ := F
  refine ⟨f, fd, ?_, hm, hb⟩
  refine F.ok scTake (fun vs H Q E h => ?_) (fun cdv A outer s H vs Q E hr h => ?_)
  · obtain ⟨a, la, t, fa, wa, oa, fr, out, n, rfl, _⟩ := h
    rfl
  · obtain ⟨a, la, t, fa, wa, oa, fr, out, n, rfl, R, hz, k1, k2⟩ := h
    have nd := scTake.nd
    have hsl : sizeLine = 16777216 := sizeLine_eq
    refine ⟨_, pss_cons (ps_if (pt_cmpR op_gt (pv 1) (pe_callB call_len_seq (by rfl) T.len PySem.boot_len (pa_cons (pe_fld (pv 0) rfl) pa_nil)) (nomark _)) (pss_one (ps_ret pe_non)) pss_nil)
      (pss_cons (ps_set (i := 2) nd rfl (Or.inl rfl) (pe_slice sl_list (pe_fld (pv 0) rfl) po_none (po_some (pe_callB (call_max2 rfl) (by rfl) T.max (by decide +kernel) (pa_cons pe_int (pa_cons (pv 1) pa_nil))))))
      (pss_cons (ps_fld (pv 0) (pe_slice sl_list (pe_fld (pv 0) rfl) (po_some (pe_callB call_len_seq (by rfl) T.len PySem.boot_len (pa_cons (pv 2) pa_nil))) po_none) rfl)
      (pss_one (ps_ret (pv 2))))), ?_⟩
    obtain ⟨dx, ha⟩ := R.ob
    refine ⟨_, rfl, _, rfl, a, S, dx, _, _, rfl, ha, T.cl, T.nF, rfl, fa, _, rfl, .inl (SqL.of R.f), _, _, rfl, rfl, _, rfl, ite2 (fun c => ?_) (fun c => ?_)⟩
    · have c := of_decide_eq_true c
      rw [List.length_map] at c
      exact k1 (by omega)
    · have c : n ≤ fr.length := by
        have : ¬ ((n : Int) > (((fr.map V.int).length : Nat) : Int)) := fun z => c (decide_eq_true z)
        rw [List.length_map] at this
        omega
      refine ⟨_, rfl, a, S, dx, _, _, rfl, ha, T.cl, T.nF, rfl, _, rfl, _, _, rfl, _, rfl, fa, _, rfl, SqL.of R.f, fun p hp => ?_⟩
      rw [cut_to c]
      have s1 := up1 (o := HO.lst ((fr.take n).map V.int)) hp
      have e1 : upd H p (HO.lst ((fr.take n).map V.int)) p = _ := upd_same
      generalize upd H p (HO.lst ((fr.take n).map V.int)) = H1 at s1 e1 ⊢
      have R1 := R.same s1
      refine ⟨_, rfl, a, S, dx, _, _, rfl, s1 _ _ ha, T.cl, T.nF, rfl, _, rfl, p, _, rfl, .inl (SqL.of e1), _, rfl, fa, _, rfl, SqL.of R1.f, fun fa' hfa' => ?_⟩
      have el : (((fr.take n).map V.int).length : Int) = ((n : Nat) : Int) := by rw [List.length_map, List.length_take]; omega
      rw [el, cut_from c]
      have s2 := up1 (o := HO.lst ((fr.drop n).map V.int)) hfa'
      have e2 : upd H1 fa' (HO.lst ((fr.drop n).map V.int)) fa' = _ := upd_same
      have p_fa' : p ≠ fa' := ne_of_none e1 hfa'
      have n2 := s1.free hfa'
      generalize upd H1 fa' (HO.lst ((fr.drop n).map V.int)) = H2 at s2 e2 ⊢
      have R2 := R1.same s2
      have ha2 := s2 _ _ (s1 _ _ ha)
      refine ⟨_, rfl, a, S, dx, _, rfl, ha2, T.cl, T.nF, (by show 5 < 1000; decide), _, rfl, ?_⟩
      have na : ∀ {q : Addr} {l : List V}, H2 q = some (.lst l) → q ≠ a := fun {q l} e => ne_of e ha2 (by intro z; cases z)
      refine k2 c _ p fa' hp n2 p_fa' ?_ ⟨⟨dx, upd_same⟩, ?_, ?_, ?_⟩ fun b o e hb => by rw [upd_ne hb]; exact s2 _ _ (s1 _ _ e)
      · rw [upd_ne (na (s2 _ _ e1))]; exact s2 _ _ e1
      · rw [upd_ne (na e2)]; exact e2
      · rw [upd_ne (na R2.w)]; exact R2.w
      · rw [upd_ne (na R2.o)]; exact R2.o
theorem scGiveB : FnScope ["self", "cells"] ["self", "cells"] (defScope sGiveB) := ⟨rfl, rfl, rfl, by decide +kernel, rfl, by decide +kernel, by decide +kernel⟩
theorem mo_giveB (F : MT K S "give_back" "Store.give_back" sGiveB ["self", "cells"]) (T : STxt K mg S) : MO P w K mg base CX0 S 1 "give_back" ["self", "cells"] (spGiveB S) := by
  obtain ⟨f, fd, F, hm, hb⟩ := F
  refine ⟨f, fd, ?_, hm, hb⟩
  refine F.ok scGiveB (fun vs H Q E h => ?_) (fun cdv A outer s H vs Q E hr h => ?_)
  · obtain ⟨a, la, t, fa, wa, oa, fr, out, ca, cs, rfl, _⟩ := h
    rfl
  · obtain ⟨a, la, t, fa, wa, oa, fr, out, ca, cs, rfl, R, hc, hz, k⟩ := h
    have hsl : sizeLine = 16777216 := sizeLine_eq
    refine ⟨_, pss_one (ps_fld (pv 0) (pe_callB cr_sortedI (by rfl) T.sorted (by decide +kernel) (pa_cons (pe_lst (pa_star (pe_fld (pv 0) rfl) (pa_star (pv 1) pa_nil))) pa_nil)) rfl), ?_⟩
    obtain ⟨dx, ha⟩ := R.ob
    refine ⟨_, rfl, a, S, dx, _, _, rfl, ha, T.cl, T.nF, rfl, fa, _, rfl, .inr (SqL.of R.f), _, rfl, ca, _, rfl, .inr (SqL.of hc), ?_, fun q hq => ?_⟩
    · rw [List.length_append, List.length_append, List.length_map, List.length_map]
      simp only [List.length_nil]
      omega
    · have e0 : List.map V.int fr ++ (List.map V.int cs ++ []) = (fr ++ cs).map V.int := by rw [List.append_nil, List.map_append]
      rw [e0]
      have s1 := up1 (o := HO.lst ((fr ++ cs).map V.int)) hq
      have e1 : upd H q (HO.lst ((fr ++ cs).map V.int)) q = _ := upd_same
      generalize upd H q (HO.lst ((fr ++ cs).map V.int)) = H1 at s1 e1 ⊢
      refine ⟨q, _, rfl, SqL.of e1, fun fr' fa' pm asc hfa' => ?_⟩
      have s2 := up1 (o := HO.lst (fr'.map V.int)) hfa'
      have e2 : upd H1 fa' (HO.lst (fr'.map V.int)) fa' = _ := upd_same
      have n2 := s1.free hfa'
      generalize upd H1 fa' (HO.lst (fr'.map V.int)) = H2 at s2 e2 ⊢
      have R2 := (R.same s1).same s2
      have ha2 := s2 _ _ (s1 _ _ ha)
      refine ⟨_, rfl, a, S, dx, _, rfl, ha2, T.cl, T.nF, (by show 5 < 1000; decide), ?_⟩
      have na : ∀ {q : Addr} {l : List V}, H2 q = some (.lst l) → q ≠ a := fun {q l} e => ne_of e ha2 (by intro z; cases z)
      refine k _ fa' fr' pm asc n2 ⟨⟨dx, upd_same⟩, ?_, ?_, ?_⟩ fun b o e hb => by rw [upd_ne hb]; exact s2 _ _ (s1 _ _ e)
      · rw [upd_ne (na e2)]; exact e2
      · rw [upd_ne (na R2.w)]; exact R2.w
      · rw [upd_ne (na R2.o)]; exact R2.o
theorem scTOut : FnScope ["self", "cells"] ["self", "cells"] (defScope sTOut) := ⟨rfl, rfl, rfl, by decide +kernel, rfl, by decide +kernel, by decide +kernel⟩
theorem mo_tout (F : MT K S "take_out" "Store.take_out" sTOut ["self", "cells"]) (T : STxt K mg S) : MO P w K mg base CX0 S 1 "take_out" ["self", "cells"] (spTOut S) := by
  obtain ⟨f, fd, F, hm, hb⟩ := F
  refine ⟨f, fd, ?_, hm, hb⟩
  refine F.ok scTOut (fun vs H Q E h => ?_) (fun cdv A outer s H vs Q E hr h => ?_)
  · obtain ⟨a, la, t, fa, wa, oa, fr, out, ca, cs, rfl, _⟩ := h
    rfl
  · obtain ⟨a, la, t, fa, wa, oa, fr, out, ca, cs, rfl, R, hc, hz, k⟩ := h
    have hsl : sizeLine = 16777216 := sizeLine_eq
    refine ⟨_, pss_one (ps_fld (pv 0) (pe_lst (pa_star (pe_fld (pv 0) rfl) (pa_star (pv 1) pa_nil))) rfl), ?_⟩
    obtain ⟨dx, ha⟩ := R.ob
    refine ⟨_, rfl, a, S, dx, _, _, rfl, ha, T.cl, T.nO, rfl, oa, _, rfl, .inr (SqL.of R.o), _, rfl, ca, _, rfl, .inr (SqL.of hc), ?_, fun q hq => ?_⟩
    · rw [List.length_append, List.length_append, List.length_map, List.length_map]
      simp only [List.length_nil]
      omega
    · have e0 : List.map V.int out ++ (List.map V.int cs ++ []) = (out ++ cs).map V.int := by rw [List.append_nil, List.map_append]
      rw [e0]
      have s1 := up1 (o := HO.lst ((out ++ cs).map V.int)) hq
      have e1 : upd H q (HO.lst ((out ++ cs).map V.int)) q = _ := upd_same
      generalize upd H q (HO.lst ((out ++ cs).map V.int)) = H2 at s1 e1 ⊢
      have R2 := R.same s1
      have ha2 := s1 _ _ ha
      refine ⟨_, rfl, a, S, dx, _, rfl, ha2, T.cl, T.nO, (by show 5 < 1000; decide), ?_⟩
      have na : ∀ {q : Addr} {l : List V}, H2 q = some (.lst l) → q ≠ a := fun {q l} e => ne_of e ha2 (by intro z; cases z)
      refine k _ q hq ⟨⟨dx, upd_same⟩, ?_, ?_, ?_⟩ fun b o e hb => by rw [upd_ne hb]; exact s1 _ _ e
      · rw [upd_ne (na R2.f)]; exact R2.f
      · rw [upd_ne (na R2.w)]; exact R2.w
      · rw [upd_ne (na e1)]; exact e1
theorem scFreeC : FnScope ["self"] ["self"] (defScope sFreeC) := ⟨rfl, rfl, rfl, by decide +kernel, rfl, by decide +kernel, by decide +kernel⟩
theorem mo_freeC (F : MT K S "free_cells" "Store.free_cells" sFreeC ["self"]) (T : STxt K mg S) : MO P w K mg base CX0 S 1 "free_cells" ["self"] (spFreeC S) := by
  obtain ⟨f, fd, F, hm, hb⟩ := F
  refine ⟨f, fd, ?_, hm, hb⟩
  refine F.ok scFreeC (fun vs H Q E h => ?_) (fun cdv A outer s H vs Q E hr h => ?_)
  · obtain ⟨a, la, t, fa, wa, oa, fr, out, rfl, _⟩ := h
    rfl
  · obtain ⟨a, la, t, fa, wa, oa, fr, out, rfl, R, k⟩ := h
    obtain ⟨dx, ha⟩ := R.ob
    refine ⟨_, pss_one (ps_ret (pe_callTy call_list_of (by rfl) T.list (by decide +kernel) (pa_cons (pe_fld (pv 0) rfl) pa_nil))), ?_⟩
    exact ⟨_, rfl, a, S, dx, _, _, rfl, ha, T.cl, T.nF, rfl, fa, _, rfl, .inl (SqL.of R.f), fun p hp => k _ p hp upd_same (up1 hp)⟩
theorem scWait : FnScope ["self", "rows", "stamp", "cells"] ["self"] (defScope sWait) := ⟨rfl, rfl, rfl, by decide +kernel, rfl, by decide +kernel, by decide +kernel⟩
theorem mo_wait (F : MT K S "waiting" "Store.waiting" sWait ["self"]) (T : STxt K mg S) : MO P w K mg base CX0 S 1 "waiting" ["self"] (spWait S) := by
  obtain ⟨f, fd, F, hm, hb⟩ := F
  refine ⟨f, fd, ?_, hm, hb⟩
  refine F.ok scWait (fun vs H Q E h => ?_) (fun cdv A outer s H vs Q E hr h => ?_)
  · obtain ⟨a, la, t, fa, wa, oa, fr, out, rfl, _⟩ := h
    rfl
  · obtain ⟨a, la, t, fa, wa, oa, fr, out, rfl, R, k⟩ := h
    obtain ⟨dx, ha⟩ := R.ob
    have nd := scWait.nd
    have hsl : sizeLine = 16777216 := sizeLine_eq
    refine ⟨_, pss_cons (ps_setLc (i := 1) (own := [("stamp", 2), ("cells", 3)]) (g := gTup K 2 (gCons (gName 2) (gCons (gName 3) gNil))) (tt := tYes) rfl nd rfl rfl rfl (pi_list (pe_fld (pv 0) rfl))
        (blkOk_by (N := ["self", "rows", "stamp", "cells"]) (sc := defScope sWait) (by decide +kernel)) (fun _ _ _ _ _ => pg_tup (by rfl) (pgs_cons (pg_name (i := 2) nd rfl (Or.inl rfl)) (pgs_cons (pg_name (i := 3) nd rfl (Or.inl rfl)) pgs_nil))) (fun _ _ _ _ _ => pts_nil)
        (fun _ _ _ _ _ => pe_tup (pa_cons (pv 2) (pa_cons (pe_callTy (T := "list") (r := rLof K) call_list_of (by rfl) T.list (by decide +kernel) (pa_cons (pv 3) pa_nil)) pa_nil))))
      (pss_cons (ps_if (pt_truth (pe_fld (pv 0) rfl) (by intro _; rfl)) (pss_one (ps_expr (pe_bm PySem.F.plainAttrs_list PySem.F.slot_list_append PySem.F.type_list_append mt_append (pv 1)
        (pa_cons (pe_tup (pa_cons pe_non (pa_cons (pe_callTy call_list_of (by rfl) T.list (by decide +kernel) (pa_cons (pe_fld (pv 0) rfl) pa_nil)) pa_nil))) pa_nil)))) pss_nil)
      (pss_one (ps_ret (pv 1)))), ?_⟩
    refine ⟨_, rfl, a, S, dx, _, _, rfl, ha, T.cl, T.nW, rfl, wa, rfl, ⟨_, SqL.of R.w⟩, fun D hD => lc_list (K := K) (a := wa) (xs := []) (fun i H' => H' D = some (.lst []) ∧ Same H H') ⟨upd_same, up1 hD⟩ (fun i H' _ q => SqL.of (q.2 _ _ R.w)) (fun i x H' hi => by simp at hi) fun H' q => ?_⟩
    obtain ⟨hD', s1⟩ := q
    have R1 := R.same s1
    have ha1 := s1 _ _ ha
    refine ⟨_, rfl, a, S, dx, _, _, rfl, ha1, T.cl, T.nO, rfl, !(out.map V.int).isEmpty, .inl ⟨_, SqL.of R1.o, rfl⟩, ?_⟩
    cases out with
    | nil => exact iteF ⟨_, rfl, k _ D hD (.inl ⟨rfl, hD'⟩) s1⟩
    | cons o1 out =>
      refine iteT ⟨_, rfl, .inl ⟨rfl, _, SqL.of hD'⟩, _, rfl, a, S, dx, _, _, rfl, ha1, T.cl, T.nO, rfl, oa, _, rfl, .inl (SqL.of R1.o), fun r hr' => ⟨(by show 2 ≤ sizeLine; decide), fun q hq => ?_⟩⟩
      have s2 := up1 (o := HO.lst ((o1 :: out).map V.int)) hr'
      have e2 : upd H' r (HO.lst ((o1 :: out).map V.int)) r = _ := upd_same
      have r_D : r ≠ D := (ne_of_none hD' hr').symm
      generalize upd H' r (HO.lst ((o1 :: out).map V.int)) = H2 at s2 e2 hq ⊢
      have s3 := up1 (o := HO.tup [V.non, V.ref r]) hq
      have e3 : upd H2 q (HO.tup [V.non, V.ref r]) q = _ := upd_same
      generalize upd H2 q (HO.tup [V.non, V.ref r]) = H3 at s3 e3 ⊢
      have hD3 := s3 _ _ (s2 _ _ hD')
      refine ⟨D, [], _, rfl, rfl, hD3, (by show 0 < sizeLine; decide), _, rfl, k _ D hD (.inr ⟨by simp, q, r, upd_same, ?_, ?_⟩) fun b o e => ?_⟩
      · rw [upd_ne (ne_of e3 hD3 (by intro z; cases z))]; exact e3
      · rw [upd_ne r_D]; exact s3 _ _ e2
      · rw [upd_ne (ne_of_none e hD)]; exact s3 _ _ (s2 _ _ (s1 _ _ e))
theorem scDivided : FnScope ["layout", "cells", "thread", "first", "cell"] ["layout", "cells", "thread"] (defScope sDivided) := ⟨rfl, rfl, rfl, by decide +kernel, rfl, by decide +kernel, by decide +kernel⟩
theorem go_divided (F : GT K mg "divided" sDivided ["layout", "cells", "thread"]) (T : LTxt K mg C) (TS : STxt K mg S) (G : MO P w K mg base CX0 C 4 "record" ["self", "index"] (spL1 C fun t w _ i => .int (rec0 t w + i))) :
    GO P w K mg base CX0 5 "divided" ["layout", "cells", "thread"] (spDivided C) := by
  obtain ⟨f, fd, F, hm, hb⟩ := F
  refine ⟨f, fd, ?_, hm, F.kp, hb⟩
  refine F.ok scDivided (fun vs H Q E h => ?_) (fun cdv A outer s H vs Q E hr h => ?_)
  · obtain ⟨la, t, w, r, ca, cs, th, rfl, _⟩ := h
    rfl
  · obtain ⟨la, t, w, r, ca, cs, th, rfl, L, ht, hc, hz, k⟩ := h
    have nd := scDivided.nd
    have hsl : sizeLine = 16777216 := sizeLine_eq
    have hr4 : Room 4 _ := hr.mono (by decide)
    obtain ⟨dx, ha⟩ := id L
    refine ⟨_, pss_cons (ps_set (i := 3) nd rfl (Or.inr rfl) (pm_ G T.cl hr4 (pv 0) (pa_cons pe_int pa_nil)))
      (pss_one (ps_ret (pe_callB cr_sortedI (by rfl) TS.sorted (by decide +kernel) (pa_cons (pe_lc (own := [("cell", 4)]) (g := gName 4) (tt := tTest (tOp rEq (tOp (rI (fun _ j => j ≠ 0) fun i j => .int (i.fmod j)) (tOp (rI0 fun i j => .int (i - j)) (tVar 4) (tVar 3)) (tFld K (tVar 0) "threads")) (tVar 2))) rfl nd (pi_list (pv 1))
        (blkOk_by (N := ["layout", "cells", "thread", "first", "cell"]) (sc := defScope sDivided) (by decide +kernel)) (fun _ _ _ _ _ => pg_name (i := 4) nd rfl (Or.inl rfl))
        (fun _ _ _ _ _ => pts_one (pt_cmpR op_eq (pe_op op_modN (pe_op op_sub (pv 4) (pv 3)) (pe_fld (pv 0) rfl)) (pv 2) (nomark _))) (fun _ _ _ _ _ => pv 4)) pa_nil)))), ?_⟩
    refine ⟨_, rfl, la, dx, _, rfl, ha, rfl, la, t, w, r, 0, rfl, L, ?_⟩
    refine ⟨_, rfl, ca, rfl, ⟨_, SqL.of hc⟩, fun D hD => lc_list (K := K) (a := ca) (xs := cs.map V.int) (fun i H' => H' D = some (.lst (((cs.take i).filter fun c => decide ((c - (rec0 t w + 0)).fmod t = th)).map V.int)) ∧ Same H H') ⟨upd_same, up1 hD⟩ (fun i H' _ q => SqL.of (q.2 _ _ hc)) ?_ ?_⟩
    · rintro i x H' hi ⟨hD', s1⟩
      have hil : i < cs.length := by
        have := (List.getElem?_eq_some_iff.mp hi).1
        rw [List.length_map] at this
        exact this
      have hx : x = V.int cs[i] := by
        rw [List.getElem?_map, List.getElem?_eq_getElem hil] at hi
        exact (Option.some.inj hi).symm
      subst hx
      refine ⟨rfl, _, rfl, _, rfl, _, _, rfl, rfl, _, rfl, la, C, dx, _, _, rfl, s1 _ _ ha, T.cl, T.nT, rfl, _, _, rfl, rfl, (by omega), _, rfl, rfl, _, rfl, ?_⟩
      by_cases c : (cs[i] - (rec0 t w + 0)).fmod t = th
      · rw [decide_eq_true (congrArg V.int c)]
        refine iteT ?_
        refine ⟨_, rfl, _, hD', ?_, ?_, fun b o e => by rw [upd_ne (ne_of_none e hD)]; exact s1 b o e⟩
        · rw [List.length_map]
          have := List.length_filter_le (fun c => decide ((c - (rec0 t w + 0)).fmod t = th)) (cs.take i)
          rw [List.length_take] at this
          omega
        · rw [upd_same, fil_t (p := fun c => decide ((c - (rec0 t w + 0)).fmod t = th)) hil (decide_eq_true c), List.map_append]
          rfl
      · have cn : ¬ (V.int ((cs[i] - (rec0 t w + 0)).fmod t) = V.int th) := fun e => c (V.int.inj e)
        rw [decide_eq_false cn]
        refine iteF ⟨?_, s1⟩
        rw [fil_f (p := fun c => decide ((c - (rec0 t w + 0)).fmod t = th)) hil (decide_eq_false c)]
        exact hD'
    · rintro H' ⟨hD', s1⟩
      rw [List.length_map, List.take_length] at hD'
      refine ⟨D, _, rfl, SqL.of hD', fun ds p pm asc hp => ?_⟩
      exact k _ p ds pm asc (s1.free hp) upd_same (s1.trans (up1 hp))
end
end Dk

set_option maxHeartbeats 4000000
/-! the law k07: its helpers -/
namespace Dk
open PySem PySem.Spec PyProof.Rows L2 StX
abbrev sSame : Stmt := top 15
abbrev sDivd : Stmt := top 16
theorem dpi {K : PySem.W.Frag} {H : Hp} : ∀ ns : List Int, DpAll K H (ns.map V.int) (ns.map PyData.int)
  | [] => .nil
  | n :: r => .cons (.int n) (dpi r)
theorem dl {K : PySem.W.Frag} {H : Hp} {a : Addr} {ns : List Int} (h : H a = some (.lst (ns.map V.int))) : Dp K H (.ref a) (.list (ns.map .int)) := .lst (SqL.of h) (dpi ns)
theorem sh_ints (ns : List Int) : SeqAt.shaped (.list (ns.map PyData.int)) = true := PySem.W.ke_shaped_ints ns
theorem asc_uniq {a b : List Int} (hp : a.Perm b) (ha : Asc a) (hb : Asc b) : a = b := PySem.W.ksm_same hp ha hb
def wD (out : List Int) : PyData := if out = [] then .list [] else .list [.tuple [.none, .list (out.map .int)]]
theorem wD_shaped (out : List Int) : SeqAt.shaped (wD out) = true := by
  unfold wD
  split
  · decide +kernel
  · simp [SeqAt.shaped, PyData.canLay0, PyData.canLayAll0, PyData.depth, PyData.depthAll, PySem.W.ke_canLayAll0, PySem.W.ke_depthAll]
theorem WaitAt.dp {K : PySem.W.Frag} {H : Hp} {p : Addr} {out : List Int} (h : WaitAt H p out) : Dp K H (.ref p) (wD out) := by
  unfold wD
  rcases h with ⟨e, h⟩ | ⟨e, q, r, h1, h2, h3⟩
  · rw [if_pos e]
    exact .lst (SqL.of h) .nil
  · rw [if_neg e]
    exact .lst (SqL.of h1) (.cons (.tup (SqT.of h2) (.cons .non (.cons (dl h3) .nil))) .nil)
theorem WaitAt.same {H H' : Hp} {p : Addr} {out : List Int} (h : WaitAt H p out) (s : Same H H') : WaitAt H' p out := by
  rcases h with ⟨e, h⟩ | ⟨e, q, r, h1, h2, h3⟩
  · exact .inl ⟨e, s _ _ h⟩
  · exact .inr ⟨e, q, r, s _ _ h1, s _ _ h2, s _ _ h3⟩
theorem eqv_sh {d : PyData} (h : SeqAt.shaped d = true) : PyData.eqv d d = true := SeqAt.eqv_refl _ (SeqAt.canLay_of_shaped h)
def spSame (S : Addr) : Sp := fun vs H Q _ => ∃ (a la : Addr) (t : Int) (fa wa oa : Addr) (fr out : List Int) (ca ga : Addr) (cs : List Int), vs = [.ref a, .ref ca, .ref ga] ∧ StAt S H a la t fa wa oa fr out ∧ H ca = some (.lst (cs.map V.int)) ∧ H ga = some (.lst (out.map V.int)) ∧
  fr.Perm cs ∧ Asc fr ∧ fr.length < 1000 ∧ out.length < 1000 ∧ ∀ H', Same H H' → Q (.bl true) H'
def spDivd (C : Addr) : Sp := fun vs H Q _ => ∃ (la : Addr) (t w r : Int) (ca : Addr) (cs : List Int), vs = [.ref la, .ref ca, .int t] ∧ LayAt C H la t w r ∧ 0 < t ∧ t < 10 ∧ H ca = some (.lst (cs.map V.int)) ∧ cs.length < 1000 ∧ ∀ H', Same H H' → Q (.bl true) H'
theorem part_perm (f : Int → Int) (i : Int) : ∀ cs : List Int, (cs.filter (fun c => decide (f c < i)) ++ cs.filter (fun c => decide (f c = i))).Perm (cs.filter (fun c => decide (f c < i + 1)))
  | [] => .refl _
  | c :: cs => by
    have ih := part_perm f i cs
    by_cases h1 : f c < i
    · rw [List.filter_cons, if_pos (decide_eq_true h1), List.filter_cons, if_neg (by simp; omega), List.filter_cons (p := fun c => decide (f c < i + 1)), if_pos (decide_eq_true (by omega))]
      exact ih.cons c
    · by_cases h2 : f c = i
      · rw [List.filter_cons, if_neg (by simpa using h1), List.filter_cons, if_pos (decide_eq_true h2), List.filter_cons (p := fun c => decide (f c < i + 1)), if_pos (decide_eq_true (by omega))]
        exact List.perm_middle.trans (ih.cons c)
      · rw [List.filter_cons, if_neg (by simpa using h1), List.filter_cons, if_neg (by simpa using h2), List.filter_cons (p := fun c => decide (f c < i + 1)), if_neg (by simp; omega)]
        exact ih
section
variable {P : Program} {w : World} {K : PySem.W.Frag} {mg : Str → Option Value} {base : Heap} {C S : Addr}
theorem scSame : FnScope ["store", "cells", "out", "told", "due"] ["store", "cells", "out"] (defScope sSame) := ⟨rfl, rfl, rfl, by decide +kernel, rfl, by decide +kernel, by decide +kernel⟩
theorem go_same (F : GT K mg "_law_same" sSame ["store", "cells", "out"]) (B : Bn mg) (T : STxt K mg S) (GF : MO P w K mg base CX0 S 1 "free_cells" ["self"] (spFreeC S)) (GW : MO P w K mg base CX0 S 1 "waiting" ["self"] (spWait S)) :
    GO P w K mg base CX0 2 "_law_same" ["store", "cells", "out"] (spSame S) := by
  obtain ⟨f, fd, F, hm, hb⟩ := F
  refine ⟨f, fd, ?_, hm, F.kp, hb⟩
  refine F.ok scSame (fun vs H Q E h => ?_) (fun cdv A outer s H vs Q E hr h => ?_)
  · obtain ⟨a, la, t, fa, wa, oa, fr, out, ca, ga, cs, rfl, _⟩ := h
    rfl
  · obtain ⟨a, la, t, fa, wa, oa, fr, out, ca, ga, cs, rfl, R, hc, hg, pm, asc, z1, z2, k⟩ := h
    have nd := scSame.nd
    have hr1 : Room 1 _ := hr.mono (by decide)
    have hsl : sizeLine = 16777216 := sizeLine_eq
    obtain ⟨dx, ha⟩ := R.ob
    refine ⟨_, pss_cons (ps_set (i := 3) nd rfl (Or.inl rfl) (pm0_ GF T.cl hr1 (pv 0)))
      (pss_cons (ps_if (PW.pt (pw_or (pt_not (pt_val (pe_callB call_isi (by rfl) B.isi (by decide +kernel) (pa_cons (pv 3) (pa_cons (pe_bltn (v := .ty "list") (by rfl) B.list (by decide +kernel) rfl) pa_nil)))))
        (pw_or1 (pt_cmpR (op_neD hr.units) (pv 3) (pe_callB cr_sortedI (by rfl) T.sorted (by decide +kernel) (pa_cons (pv 1) pa_nil)) (nomark _))))) (pss_one (ps_ret pe_bl)) pss_nil)
      (pss_cons (ps_expr (pe_bm PySem.F.plainAttrs_list PySem.F.slot_list_append PySem.F.type_list_append mt_append (pv 3) (pa_cons pe_int pa_nil)))
      (pss_cons (ps_set (i := 4) nd rfl (Or.inl rfl) (pe_lst pa_nil))
      (pss_cons (ps_if (pt_cmpR op_gt (pe_callB call_len_seq (by rfl) T.len PySem.boot_len (pa_cons (pv 2) pa_nil)) pe_int (nomark _))
        (pss_one (ps_set (i := 4) nd rfl (Or.inl rfl) (pe_lst (pa_cons (pe_tup (pa_cons pe_non (pa_cons (pe_callTy call_list_of (by rfl) T.list (by decide +kernel) (pa_cons (pv 2) pa_nil)) pa_nil))) pa_nil)))) pss_nil)
      (pss_one (ps_ret (pe_and (pe_cmpR (op_eqD hr.units) (pm0_ GW T.cl hr1 (pv 0)) (pv 4) (nomark _))
        (pe_one (pe_cmpR (op_eqD hr.units) (pm0_ GF T.cl hr1 (pv 0)) (pe_callB cr_sortedI (by rfl) T.sorted (by decide +kernel) (pa_cons (pv 1) pa_nil)) (nomark _)))))))))), ?_⟩
    refine ⟨_, rfl, a, dx, _, rfl, ha, rfl, a, la, t, fa, wa, oa, fr, out, rfl, R, fun H1 p hp e1 s1 => ?_⟩
    have R1 := R.same s1
    refine ⟨_, rfl, _, _, _, _, true, rfl, .ty "list", .base (.lst e1), kit_ty (by decide +kernel), _, rfl, iteF ?_⟩
    refine ⟨_, rfl, _, rfl, ca, cs, rfl, SqL.of (s1 _ _ hc), fun ds q pmd ascd hq => ?_⟩
    have eds : ds = fr := asc_uniq (pmd.trans pm.symm) ascd asc
    subst eds
    have s2 := up1 (o := HO.lst (ds.map V.int)) hq
    have e2 : upd H1 q (HO.lst (ds.map V.int)) q = _ := upd_same
    generalize upd H1 q (HO.lst (ds.map V.int)) = H2 at s2 e2 ⊢
    refine ⟨_, _, dl (s2 _ _ e1), dl e2, sh_ints _, sh_ints _, _, rfl, iteC (by rw [eqv_sh (sh_ints _)]; rfl) ?_⟩
    have e1' := s2 _ _ e1
    refine ⟨_, rfl, .inl ⟨rfl, _, SqL.of e1'⟩, p, _, _, rfl, rfl, e1', (by rw [List.length_map]; omega), ?_⟩
    have s3 : Same H (upd H2 p (.lst (ds.map V.int ++ [.int 3]))) := fun b o e => by rw [upd_ne (ne_of_none e hp)]; exact s2 _ _ (s1 _ _ e)
    generalize upd H2 p (.lst (ds.map V.int ++ [.int 3])) = H3 at s3 ⊢
    refine ⟨(by show 0 ≤ sizeLine; exact Nat.zero_le _), fun d hd => ?_⟩
    have s4 := s3.trans (up1 (o := HO.lst []) hd)
    have e4 : upd H3 d (HO.lst []) d = _ := upd_same
    generalize upd H3 d (HO.lst []) = H4 at s4 e4 ⊢
    have fin : ∀ (d : Addr) (H5 : Hp), Same H H5 → WaitAt H5 d out →
        (tAndV (tOp (rEqD K) (tMeth S "waiting" (spWait S) [] E0 (tVar 0) tNil) (tVar 4)) (tOp (rEqD K) (tMeth S "free_cells" (spFreeC S) [] E0 (tVar 0) tNil) (tCB (rSortedI K) (tCons (tVar 1) tNil)))) [some (.ref a), some (.ref ca), some (.ref ga), some (.ref p), some (.ref d)] H5 Q := fun d H5 s5 hw => by
      have R5 := R.same s5
      refine ⟨_, rfl, a, dx, _, rfl, s5 _ _ ha, rfl, a, la, t, fa, wa, oa, ds, out, rfl, R5, fun H6 u hu hw6 s6 => ⟨_, rfl, _, _, hw6.dp, (hw.same s6).dp, wD_shaped _, wD_shaped _, _, rfl, ?_⟩⟩
      rw [eqv_sh (wD_shaped _)]
      refine iteT ?_
      have R6 := R5.same s6
      refine ⟨_, rfl, a, dx, _, rfl, s6 _ _ (s5 _ _ ha), rfl, a, la, t, fa, wa, oa, ds, out, rfl, R6, fun H7 v hv e7 s7 => ⟨_, rfl, ca, cs, rfl, SqL.of (s7 _ _ (s6 _ _ (s5 _ _ hc))), fun ds2 q2 pm2 asc2 hq2 => ?_⟩⟩
      have eds2 : ds2 = ds := asc_uniq (pm2.trans pm.symm) asc2 asc
      subst eds2
      refine ⟨_, _, dl (up1 hq2 _ _ e7), dl upd_same, sh_ints _, sh_ints _, ?_⟩
      rw [eqv_sh (sh_ints _)]
      exact k _ (((s5.trans s6).trans s7).trans (up1 hq2))
    have hg4 := s4 _ _ hg
    refine ⟨_, rfl, ga, _, rfl, .inl (SqL.of hg4), _, _, rfl, rfl, _, rfl, ite2 (fun c => ?_) (fun c => ?_)⟩
    · have c := of_decide_eq_true c
      rw [List.length_map] at c
      have hne : out ≠ [] := fun z => by rw [z] at c; simp at c
      refine ⟨_, rfl, ga, _, rfl, .inl (SqL.of hg4), fun r hr' => ⟨(by show 2 ≤ sizeLine; decide), fun q hq => ⟨(by show 1 ≤ sizeLine; decide), fun d2 hd2 => ?_⟩⟩⟩
      have t1 := up1 (o := HO.lst (out.map V.int)) hr'
      have u1 : upd H4 r (HO.lst (out.map V.int)) r = _ := upd_same
      generalize upd H4 r (HO.lst (out.map V.int)) = H5 at t1 u1 hq hd2 ⊢
      have t2 := up1 (o := HO.tup [V.non, V.ref r]) hq
      have u2 : upd H5 q (HO.tup [V.non, V.ref r]) q = _ := upd_same
      generalize upd H5 q (HO.tup [V.non, V.ref r]) = H6 at t2 u2 hd2 ⊢
      have t3 := up1 (o := HO.lst [V.ref q]) hd2
      exact fin d2 _ (((s4.trans t1).trans t2).trans t3) (.inr ⟨hne, q, r, upd_same, t3 _ _ u2, t3 _ _ (t2 _ _ u1)⟩)
    · have he : out = [] := by
        cases out with
        | nil => rfl
        | cons o l => exact absurd (decide_eq_true (by rw [List.length_map]; simp)) c
      exact fin d _ s4 (.inl ⟨he, e4⟩)
theorem scDivd : FnScope ["layout", "cells", "threads", "found", "thread", "part", "due", "cell"] ["layout", "cells", "threads"] (defScope sDivd) := ⟨rfl, rfl, rfl, by decide +kernel, rfl, by decide +kernel, by decide +kernel⟩
theorem go_divd (F : GT K mg "_law_divided" sDivd ["layout", "cells", "threads"]) (B : Bn mg) (T : LTxt K mg C) (TS : STxt K mg S) (G : MO P w K mg base CX0 C 4 "record" ["self", "index"] (spL1 C fun t w _ i => .int (rec0 t w + i)))
    (GD : GO P w K mg base CX0 5 "divided" ["layout", "cells", "thread"] (spDivided C)) : GO P w K mg base CX0 6 "_law_divided" ["layout", "cells", "threads"] (spDivd C) := by
  obtain ⟨f, fd, F, hm, hb⟩ := F
  refine ⟨f, fd, ?_, hm, F.kp, hb⟩
  refine F.ok scDivd (fun vs H Q E h => ?_) (fun cdv A outer s H vs Q E hr h => ?_)
  · obtain ⟨la, t, w, r, ca, cs, rfl, _⟩ := h
    rfl
  · obtain ⟨la, t, w, r, ca, cs, rfl, L, t0, t10, hc, hz, k⟩ := h
    have nd := scDivd.nd
    have hr4 : Room 4 _ := hr.mono (by decide)
    have hr5 : Room 5 _ := hr.mono (by decide)
    have hsl : sizeLine = 16777216 := sizeLine_eq
    obtain ⟨dx, ha⟩ := id L
    refine ⟨_, pss_cons (ps_set (i := 3) nd rfl (Or.inl rfl) (pe_lst pa_nil))
      (pss_cons (ps_for PassesOwn.never rfl (pi_range1 rfl B.range (pa_cons (pv 2) pa_nil)) (pg_name (i := 4) nd rfl (Or.inr rfl))
        (pss_cons (ps_set (i := 5) nd rfl (Or.inl rfl) (pc_ GD hr5 (pa_cons (pv 0) (pa_cons (pe_callTy call_list_of (by rfl) B.list (by decide +kernel) (pa_cons (pv 1) pa_nil)) (pa_cons (pv 4) pa_nil)))))
        (pss_cons (ps_set (i := 6) nd rfl (Or.inl rfl) (pe_callB cr_sortedI (by rfl) TS.sorted (by decide +kernel) (pa_cons (pe_lc (own := [("cell", 7)]) (g := gName 7) (tt := tTest (tOp rEq (tOp (rI (fun _ j => j ≠ 0) fun i j => .int (i.fmod j)) (tOp (rI0 fun i j => .int (i - j)) (tVar 7) (tMeth C "record" (spL1 C fun t w _ i => .int (rec0 t w + i)) [] E0 (tVar 0) (tCons (tC (.int 0)) tNil))) (tVar 2)) (tVar 4))) rfl nd (pi_list (pv 1))
          (blkOk_by (N := ["layout", "cells", "threads", "found", "thread", "part", "due", "cell"]) (sc := defScope sDivd) (by decide +kernel)) (fun _ _ _ _ _ => pg_name (i := 7) nd rfl (Or.inl rfl))
          (fun _ _ _ _ _ => pts_one (pt_cmpR op_eq (pe_op op_modN (pe_op op_sub (pv 7) (pm_ G T.cl hr4 (pv 0) (pa_cons pe_int pa_nil))) (pv 2)) (pv 4) (nomark _))) (fun _ _ _ _ _ => pv 7)) pa_nil)))
        (pss_cons (ps_if (pt_cmpR (op_neD hr.units) (pv 5) (pv 6) (nomark _)) (pss_one (ps_ret pe_bl)) pss_nil)
        (pss_one (ps_set (i := 3) nd rfl (Or.inl rfl) (pe_op op_cat (pv 3) (pv 5))))))))
      (pss_one (ps_ret (pe_cmpR (op_eqD hr.units) (pe_callB cr_sortedI (by rfl) TS.sorted (by decide +kernel) (pa_cons (pv 3) pa_nil)) (pe_callB cr_sortedI (by rfl) TS.sorted (by decide +kernel) (pa_cons (pv 1) pa_nil)) (nomark _))))), ?_⟩
    refine ⟨(by show 0 ≤ sizeLine; exact Nat.zero_le _), fun fa0 hfa0 => ?_⟩
    refine ⟨_, rfl, _, rfl, (by omega), (by omega), for_range (lo := 0) (n := (t : Int).toNat)
      (fun i σ H2 => ∃ (x y z : Option V) (fo : List Int) (fa : Addr), σ = [some (.ref la), some (.ref ca), some (.int t), some (.ref fa), x, y, z, none] ∧ H2 fa = some (.lst (fo.map V.int)) ∧ fo.Perm (cs.filter fun c => decide ((c - (rec0 t w + 0)).fmod t < (i : Int))) ∧ Same H H2) ⟨_, _, _, [], fa0, rfl, upd_same, ?_, up1 hfa0⟩ ?_ ?_⟩
    · refine .of_eq (List.filter_eq_nil_iff.mpr fun c _ => ?_).symm
      have := Int.emod_nonneg (c - (rec0 t w + 0)) (show t ≠ 0 by omega)
      rw [Int.fmod_eq_emod_of_nonneg _ (by omega)]
      intro z
      have z := of_decide_eq_true z
      omega
    · rintro i σ H2 hi ⟨x, y, z, fo, fa, rfl, hf, pmf, s2⟩
      refine ⟨_, rfl, _, rfl, ca, _, rfl, .inl (SqL.of (s2 _ _ hc)), fun q hq => ⟨_, rfl, ?_⟩⟩
      have t1 := up1 (o := HO.lst (cs.map V.int)) hq
      have u1 : upd H2 q (HO.lst (cs.map V.int)) q = _ := upd_same
      generalize upd H2 q (HO.lst (cs.map V.int)) = H3 at t1 u1 ⊢
      have s3 := s2.trans t1
      refine ⟨la, t, w, r, q, cs, _, rfl, ⟨dx, s3 _ _ ha⟩, t0, u1, hz, fun H4 p ds pm asc hp e4 s4' => ?_⟩
      have s4 := s3.trans s4'
      refine ⟨_, rfl, ca, rfl, ⟨_, SqL.of (s4 _ _ hc)⟩, fun D hD => lc_list (K := K) (a := ca) (xs := cs.map V.int) (fun j H' => H' D = some (.lst (((cs.take j).filter fun c => decide ((c - (rec0 t w + 0)).fmod t = 0 + (i : Int))).map V.int)) ∧ Same H4 H') ⟨upd_same, up1 hD⟩ (fun j H' _ q => SqL.of (q.2 _ _ (s4 _ _ hc))) ?_ ?_⟩
      · rintro j x H' hj ⟨hD', s5⟩
        have hil : j < cs.length := by
          have := (List.getElem?_eq_some_iff.mp hj).1
          rw [List.length_map] at this
          exact this
        have hx : x = V.int cs[j] := by
          rw [List.getElem?_map, List.getElem?_eq_getElem hil] at hj
          exact (Option.some.inj hj).symm
        subst hx
        refine ⟨rfl, _, rfl, _, rfl, la, dx, _, rfl, s5 _ _ (s4 _ _ ha), rfl, la, t, w, r, 0, rfl, ⟨dx, s5 _ _ (s4 _ _ ha)⟩, _, _, rfl, rfl, _, rfl, _, _, rfl, rfl, (by omega), _, rfl, rfl, _, rfl, ?_⟩
        by_cases c : (cs[j] - (rec0 t w + 0)).fmod t = 0 + (i : Int)
        · rw [decide_eq_true (congrArg V.int c)]
          refine iteT ?_
          refine ⟨_, rfl, _, hD', ?_, ?_, fun b o e => by rw [upd_ne (ne_of_none e hD)]; exact s5 b o e⟩
          · rw [List.length_map]
            have := List.length_filter_le (fun c => decide ((c - (rec0 t w + 0)).fmod t = 0 + (i : Int))) (cs.take j)
            rw [List.length_take] at this
            omega
          · rw [upd_same, fil_t (p := fun c => decide ((c - (rec0 t w + 0)).fmod t = 0 + (i : Int))) hil (decide_eq_true c), List.map_append]
            rfl
        · have cn : ¬ (V.int ((cs[j] - (rec0 t w + 0)).fmod t) = V.int (0 + (i : Int))) := fun e => c (V.int.inj e)
          rw [decide_eq_false cn]
          refine iteF ⟨?_, s5⟩
          rw [fil_f (p := fun c => decide ((c - (rec0 t w + 0)).fmod t = 0 + (i : Int))) hil (decide_eq_false c)]
          exact hD'
      · rintro H' ⟨hD', s5⟩
        rw [List.length_map, List.take_length] at hD'
        refine ⟨D, _, rfl, SqL.of hD', fun ds2 p2 pm2 asc2 hp2 => ?_⟩
        have eds : ds2 = ds := asc_uniq (pm2.trans pm.symm) asc2 asc
        subst eds
        have s6 := s5.trans (up1 (o := HO.lst (ds2.map V.int)) hp2)
        have u6 : upd H' p2 (HO.lst (ds2.map V.int)) p2 = _ := upd_same
        generalize upd H' p2 (HO.lst (ds2.map V.int)) = H6 at s6 u6 ⊢
        refine ⟨_, rfl, _, rfl, _, _, dl (s6 _ _ e4), dl u6, sh_ints _, sh_ints _, _, rfl, iteC (by rw [eqv_sh (sh_ints _)]; rfl) ?_⟩
        have hf6 := s6 _ _ (s4' _ _ (t1 _ _ hf))
        refine ⟨_, rfl, _, rfl, fa, p, _, _, rfl, rfl, hf6, s6 _ _ e4, ?_, fun p7 hp7 => ?_⟩
        · rw [List.length_map, List.length_map, pmf.length_eq, pm.length_eq]
          have := List.length_filter_le (fun c => decide ((c - (rec0 t w + 0)).fmod t < (i : Int))) cs
          have := List.length_filter_le (fun c => decide ((c - (rec0 t w + 0)).fmod t = 0 + (i : Int))) cs
          omega
        · refine ⟨_, _, _, fo ++ ds2, p7, rfl, (by rw [upd_same, List.map_append]), ?_, (s4.trans s6).trans (up1 hp7)⟩
          have pp := part_perm (fun c => (c - (rec0 t w + 0)).fmod t) (i : Int) cs
          refine ((pmf.append pm).trans ?_)
          rw [show (0 : Int) + (i : Int) = (i : Int) by omega]
          exact pp
    · rintro σ H2 ⟨x, y, z, fo, fa, rfl, hf, pmf, s2⟩
      have efil : cs.filter (fun c => decide ((c - (rec0 t w + 0)).fmod t < ((t.toNat : Nat) : Int))) = cs := List.filter_eq_self.mpr fun c _ => by
        have := Int.emod_lt_of_pos (c - (rec0 t w + 0)) t0
        rw [Int.fmod_eq_emod_of_nonneg _ (by omega)]
        refine decide_eq_true ?_
        omega
      rw [efil] at pmf
      refine ⟨_, rfl, fa, fo, rfl, SqL.of hf, fun d1 p1 pm1 as1 hp1 => ?_⟩
      have s3 := s2.trans (up1 (o := HO.lst (d1.map V.int)) hp1)
      have u3 : upd H2 p1 (HO.lst (d1.map V.int)) p1 = _ := upd_same
      generalize upd H2 p1 (HO.lst (d1.map V.int)) = H3 at s3 u3 ⊢
      refine ⟨_, rfl, ca, cs, rfl, SqL.of (s3 _ _ hc), fun d2 p2 pm2 as2 hp2 => ?_⟩
      have e12 : d1 = d2 := asc_uniq (pm1.trans (pmf.trans pm2.symm)) as1 as2
      subst e12
      refine ⟨_, _, dl (up1 hp2 _ _ u3), dl upd_same, sh_ints _, sh_ints _, ?_⟩
      rw [eqv_sh (sh_ints _)]
      exact k _ (s3.trans (up1 hp2))
end
end Dk

set_option maxHeartbeats 16000000
/-! the law k07: its loop -/
namespace Dk
open PySem PySem.Spec PyProof.Rows L2 StX
abbrev sLaw : Stmt := top 17
structure LAt (S : Addr) (H : Hp) (st la tp ca ta ga fa wa oa : Addr) (th : Int) (ms cs tk fr out : List Int) : Prop where
  R : StAt S H st la th fa wa oa fr out
  tp : H tp = some (.lst (ms.map V.int))
  c : H ca = some (.lst (cs.map V.int))
  t : H ta = some (.lst (tk.map V.int))
  g : H ga = some (.lst (out.map V.int))
  pm : fr.Perm cs
  asc : Asc fr
  nd : (cs ++ tk).Nodup
  ln : cs.length + tk.length + out.length ≤ 300
section
variable {S : Addr} {H H' : Hp} {st la tp ca ta ga fa wa oa : Addr} {th : Int} {ms cs tk fr out : List Int}
theorem LAt.frl (L : LAt S H st la tp ca ta ga fa wa oa th ms cs tk fr out) : fr.length = cs.length := L.pm.length_eq
end
theorem inV_int (c : Int) : ∀ l : List Int, inV (.int c) (l.map V.int) = decide (c ∈ l)
  | [] => rfl
  | x :: l => by
    show (eqV (.int x) (.int c) || inV (.int c) (l.map V.int)) = _
    rw [inV_int c l]
    show ((x == c) || decide (c ∈ l)) = _
    by_cases h : x = c
    · subst h; simp
    · have h' : ¬ c = x := fun z => h z.symm
      simp [h, h']
theorem flat_ints : ∀ l : List Int, (l.map V.int).all flatV = true
  | [] => rfl
  | x :: l => by
    show (true && (l.map V.int).all flatV) = true
    rw [flat_ints l]
    rfl
theorem cut_no {ns : List Int} {n : Nat} (h : n ≤ ns.length) : cutV (ns.map V.int) none (some (n : Int)) = (ns.take n).map V.int := by
  unfold cutV
  rw [HT.sIx_none, HT.sIx_nat, List.drop_zero, List.length_map, List.map_take]
  congr 1
  omega
theorem drop_filter {fr cs : List Int} (n : Nat) (pm : fr.Perm cs) (nd : cs.Nodup) : (fr.drop n).Perm (cs.filter fun c => !decide (c ∈ fr.take n)) := by
  have nf : fr.Nodup := pm.nodup_iff.mpr nd
  have e : fr.filter (fun c => !decide (c ∈ fr.take n)) = fr.drop n := by
    have h := List.take_append_drop n fr
    have nf2 : (fr.take n ++ fr.drop n).Nodup := by rw [h]; exact nf
    obtain ⟨_, _, dis⟩ := List.nodup_append.mp nf2
    have : (fr.take n ++ fr.drop n).filter (fun c => !decide (c ∈ fr.take n)) = fr.drop n := by
      rw [List.filter_append, List.filter_eq_nil_iff.mpr (by intro c hc; simp [hc]), List.filter_eq_self.mpr, List.nil_append]
      intro c hc
      have : c ∉ fr.take n := fun z => dis c z c hc rfl
      simp [this]
    rw [h] at this
    exact this
  rw [← e]
  exact pm.filter _
theorem ite0 {c : Prop} [Decidable c] {A B : Prop} (hc : ¬ c) (h : B) : if decide c = true then A else B := iteND hc h
abbrev NLw : List Str := ["script", "tape", "threads", "words", "layout", "thread", "k", "some", "cells", "passed", "store", "taken", "out", "number", "pick", "count", "told", "due", "back", "gone", "cell"]
theorem scLaw : FnScope NLw ["script"] (defScope sLaw) := ⟨rfl, rfl, rfl, by decide +kernel, rfl, by decide +kernel, by decide +kernel⟩
section
variable {P : Program} {w : World} {K : PySem.W.Frag} {mg : Str → Option Value} {base : Heap} {C S : Addr}
theorem law_loop {f : Addr} {cdv : Value} {A : Around} {outer : List Env} {s : Shared} {Hs : Hp} {E : XK} {Q : VK} (hr : Room 6 (A.deeper (envOfC "law" (defScope sLaw) s.heap.objs.size f cdv))) (B : Bn mg) (T : STxt K mg S) (zn : mg "min" = none)
    (GTk : MO P w K mg base CX0 S 1 "take" ["self", "many"] (spTake S)) (GGb : MO P w K mg base CX0 S 1 "give_back" ["self", "cells"] (spGiveB S)) (GTo : MO P w K mg base CX0 S 1 "take_out" ["self", "cells"] (spTOut S))
    (GAt : GO P w K mg base CX0 1 "_law_at" ["tape", "k"] (spAt K)) (GS : GO P w K mg base CX0 2 "_law_same" ["store", "cells", "out"] (spSame S)) (kQ : ∀ H', Q (.bl true) H') :
    ∃ t2, PSs (cxOf CX0 P w K mg base NLw "law" (defScope sLaw) f cdv A outer s Hs E).nox ((defBody sLaw).drop 14) t2 ∧
      ∀ (a tp la st ca ta ga fa wa oa : Addr) (t wd th : Int) (ms cs fr : List Int) (H : Hp) (v6 v7 v9 v13 v14 v15 v16 v17 v18 v19 v20 : Option V), Small ms → ms.length < 10000 → LAt S H st la tp ca ta ga fa wa oa th ms cs [] fr [] →
        t2 { nx := fun _ H' => Q .non H', rt := Q } [some (.ref a), some (.ref tp), some (.int t), some (.int wd), some (.ref la), some (.int th), v6, v7, some (.ref ca), v9, some (.ref st), some (.ref ta), some (.ref ga), v13, v14, v15, v16, v17, v18, v19, v20] H := by
  have nd := scLaw.nd
  have hr1 : Room 1 _ := hr.mono (by decide)
  have hr2 : Room 2 _ := hr.mono (by decide)
  have hsl : sizeLine = 16777216 := sizeLine_eq
  refine ⟨_, (pss_cons (ps_for PassesOwn.never rfl (pi_range1 (by rfl) B.range (pa_cons (pe_callB (call_min2 rfl) (by rfl) zn (by decide +kernel) (pa_cons pe_int (pa_cons (pe_callB (call_max2 rfl) (by rfl) T.max (by decide +kernel) (pa_cons pe_int (pa_cons (pe_op op_fdiv (pe_op op_sub (pe_callB call_len_seq (by rfl) T.len PySem.boot_len (pa_cons (pv 1) pa_nil)) pe_int) pe_int) pa_nil))) pa_nil))) pa_nil)) (pg_name (i := 6) nd rfl (Or.inl rfl))
  (pss_cons (ps_set (i := 13) nd rfl (Or.inl rfl) (pc_ GAt hr1 (pa_cons (pv 1) (pa_cons (pe_op op_add (pe_op op_mul pe_int (pv 6)) pe_int) pa_nil))))
  (pss_cons (ps_set (i := 14) nd rfl (Or.inl rfl) (pc_ GAt hr1 (pa_cons (pv 1) (pa_cons (pe_op op_add (pe_op op_mul pe_int (pv 6)) pe_int) pa_nil))))
  (pss_cons (ps_if (pt_cmpR op_eq (pe_op op_mod (pv 13) pe_int) pe_int (nomark _))
  (pss_cons (ps_set (i := 15) nd rfl (Or.inl rfl) (pe_op op_mod (pv 14) pe_int))
  (pss_cons (ps_set (i := 16) nd rfl (Or.inl rfl) (pm_ GTk T.cl hr1 (pv 10) (pa_cons (pv 15) pa_nil)))
  (pss_one (ps_if (pt_cmpR op_gt (pv 15) (pe_callB call_len_seq (by rfl) T.len PySem.boot_len (pa_cons (pv 8) pa_nil)) (nomark _))
  (pss_one (ps_if (pt_cmpR op_notN (pv 16) pe_non (nomark _))
  (pss_one (ps_ret pe_bl))
  pss_nil))
  (pss_cons (ps_set (i := 17) nd rfl (Or.inr rfl) (pe_slice sl_list (pe_callB cr_sortedI (by rfl) T.sorted (by decide +kernel) (pa_cons (pv 8) pa_nil)) po_none (po_some (pv 15))))
  (pss_cons (ps_if (PW.pt (pw_or (pt_not (pt_val (pe_callB call_isi (by rfl) B.isi (by decide +kernel) (pa_cons (pv 16) (pa_cons (pe_bltn (v := .ty "list") (by rfl) B.list (by decide +kernel) rfl) pa_nil))))) (pw_or1 (pt_cmpR (op_neD hr.units) (pv 16) (pv 17) (nomark _)))))
  (pss_one (ps_ret pe_bl))
  pss_nil)
  (pss_cons (ps_setLc (i := 8) (own := [("cell", 20)]) (g := (gName 20)) (tt := tTest (tOp (rIn K true) (tVar 20) (tVar 17))) rfl nd rfl rfl (sw_true rfl rfl rfl (by decide +kernel)) (pi_list (pv 8)) (blkOk_by (N := NLw) (sc := defScope sLaw) (by decide +kernel)) (fun _ _ _ _ _ => (pg_name (i := 20) nd rfl (Or.inl rfl))) (fun _ _ _ _ _ => pts_one (pt_cmpR op_notIn_seq (pv 20) (pv 17) (by with_unfolding_all rfl))) (fun _ _ _ _ _ => (pv 20)))
  (pss_cons (ps_set (i := 11) nd rfl (Or.inl rfl) (pe_op op_cat (pv 11) (pv 17)))
  (pss_one (ps_expr (pe_bm PySem.F.plainAttrs_list PySem.F.slot_list_append PySem.F.type_list_append mt_append (pv 16) (pa_cons pe_int pa_nil))))))))))))
  (pss_one (ps_if (pt_cmpR op_eq (pe_op op_mod (pv 13) pe_int) pe_int (nomark _))
  (pss_cons (ps_set (i := 18) nd rfl (Or.inl rfl) (pe_slice sl_list (pv 11) po_none (po_some (pe_op op_modN (pv 14) (pe_op op_add (pe_callB call_len_seq (by rfl) T.len PySem.boot_len (pa_cons (pv 11) pa_nil)) pe_int)))))
  (pss_cons (ps_set (i := 9) nd rfl (Or.inl rfl) (pe_callTy call_list_of (by rfl) T.list (by decide +kernel) (pa_cons (pv 18) pa_nil)))
  (pss_cons (ps_expr (pm_ GGb T.cl hr1 (pv 10) (pa_cons (pv 9) pa_nil)))
  (pss_cons (ps_expr (pe_bm PySem.F.plainAttrs_list PySem.F.slot_list_append PySem.F.type_list_append mt_append (pv 9) (pa_cons pe_int pa_nil)))
  (pss_cons (ps_set (i := 11) nd rfl (Or.inl rfl) (pe_slice sl_list (pv 11) (po_some (pe_callB call_len_seq (by rfl) T.len PySem.boot_len (pa_cons (pv 18) pa_nil))) po_none))
  (pss_one (ps_set (i := 8) nd rfl (Or.inl rfl) (pe_op op_cat (pv 8) (pv 18)))))))))
  (pss_cons (ps_set (i := 19) nd rfl (Or.inl rfl) (pe_slice sl_list (pv 11) po_none (po_some (pe_op op_modN (pv 14) (pe_op op_add (pe_callB call_len_seq (by rfl) T.len PySem.boot_len (pa_cons (pv 11) pa_nil)) pe_int)))))
  (pss_cons (ps_set (i := 9) nd rfl (Or.inl rfl) (pe_callTy call_list_of (by rfl) T.list (by decide +kernel) (pa_cons (pv 19) pa_nil)))
  (pss_cons (ps_expr (pm_ GTo T.cl hr1 (pv 10) (pa_cons (pv 9) pa_nil)))
  (pss_cons (ps_expr (pe_bm PySem.F.plainAttrs_list PySem.F.slot_list_append PySem.F.type_list_append mt_append (pv 9) (pa_cons pe_int pa_nil)))
  (pss_cons (ps_set (i := 11) nd rfl (Or.inl rfl) (pe_slice sl_list (pv 11) (po_some (pe_callB call_len_seq (by rfl) T.len PySem.boot_len (pa_cons (pv 19) pa_nil))) po_none))
  (pss_one (ps_set (i := 12) nd rfl (Or.inl rfl) (pe_op op_cat (pv 12) (pv 19))))))))))))
  (pss_one (ps_if (pt_not (pt_val (pc_ GS hr2 (pa_cons (pv 10) (pa_cons (pv 8) (pa_cons (pv 12) pa_nil))))))
  (pss_one (ps_ret pe_bl))
  pss_nil))))))
  (pss_one (ps_ret pe_bl))), ?_⟩
  intro a tp la st ca0 ta0 ga0 fa0 wa oa0 t wd th ms cs0 fr0 H v6 v7 v9 v13 v14 v15 v16 v17 v18 v19 v20 sm hml L0
  refine ⟨_, rfl, tp, _, rfl, .inl (SqL.of L0.tp), _, _, rfl, rfl, _, _, rfl, rfl, ⟨by decide, by decide⟩, _, _, rfl, _, _, rfl, _, rfl, ?_⟩
  refine ⟨(by split <;> split <;> omega), (by split <;> split <;> omega), for_range (lo := 0) (n := _)
    (fun i σ H2 => ∃ (v6 v7 v9 v13 v14 v15 v16 v17 v18 v19 v20 : Option V) (ca ta ga fa oa : Addr) (cs tk fr out : List Int), σ = [some (.ref a), some (.ref tp), some (.int t), some (.int wd), some (.ref la), some (.int th), v6, v7, some (.ref ca), v9, some (.ref st), some (.ref ta), some (.ref ga), v13, v14, v15, v16, v17, v18, v19, v20] ∧ LAt S H2 st la tp ca ta ga fa wa oa th ms cs tk fr out)
    ⟨v6, v7, v9, v13, v14, v15, v16, v17, v18, v19, v20, ca0, ta0, ga0, fa0, oa0, cs0, [], fr0, [], rfl, L0⟩ ?_ (fun σ H2 _ => kQ H2)⟩
  rintro i σ H2 hi ⟨v6, v7, v9, v13, v14, v15, v16, v17, v18, v19, v20, ca, ta, ga, fa, oa, cs, tk, fr, out, rfl, L⟩
  obtain ⟨dx, hst⟩ := L.R.ob
  have ek4 : (2 * (0 + (i : Int)) + 4) = ((2 * i + 4 : Nat) : Int) := by omega
  have ek5 : (2 * (0 + (i : Int)) + 5) = ((2 * i + 5 : Nat) : Int) := by omega
  refine ⟨_, rfl, _, rfl, _, _, rfl, rfl, .inl ⟨by decide, by decide⟩, _, _, rfl, rfl, tp, ms, 2 * i + 4, (by show [V.ref tp, V.int (2 * (0 + (i : Int)) + 4)] = _; rw [ek4]), SqL.of L.tp, ?_⟩
  refine ⟨_, rfl, _, rfl, _, _, rfl, rfl, .inl ⟨by decide, by decide⟩, _, _, rfl, rfl, tp, ms, 2 * i + 5, (by show [V.ref tp, V.int (2 * (0 + (i : Int)) + 5)] = _; rw [ek5]), SqL.of L.tp, ?_⟩
  have pk := atD_small (k := 2 * i + 5) sm
  generalize atD ms (2 * i + 4) = num
  generalize atD ms (2 * i + 5) = pick at pk ⊢
  -- the end of a turn
  have fin : ∀ (v6 v7 v9 v13 v14 v15 v16 v17 v18 v19 v20 : Option V) (ca ta ga fa oa : Addr) (cs tk fr out : List Int) (H3 : Hp), LAt S H3 st la tp ca ta ga fa wa oa th ms cs tk fr out →
      tIfS (tNot (tB (tCall (spSame S) [] E0 (tCons (tVar 10) (tCons (tVar 8) (tCons (tVar 12) tNil)))))) (tRet (tC (.bl false))) tNext
        { nx := fun σ H' => ∃ (v6 v7 v9 v13 v14 v15 v16 v17 v18 v19 v20 : Option V) (ca ta ga fa oa : Addr) (cs tk fr out : List Int), σ = [some (.ref a), some (.ref tp), some (.int t), some (.int wd), some (.ref la), some (.int th), v6, v7, some (.ref ca), v9, some (.ref st), some (.ref ta), some (.ref ga), v13, v14, v15, v16, v17, v18, v19, v20] ∧ LAt S H' st la tp ca ta ga fa wa oa th ms cs tk fr out, rt := Q }
        [some (.ref a), some (.ref tp), some (.int t), some (.int wd), some (.ref la), some (.int th), v6, v7, some (.ref ca), v9, some (.ref st), some (.ref ta), some (.ref ga), v13, v14, v15, v16, v17, v18, v19, v20] H3 := by
    intro v6 v7 v9 v13 v14 v15 v16 v17 v18 v19 v20 ca ta ga fa oa cs tk fr out H3 L
    have z := L.frl
    have z2 := L.ln
    refine ⟨_, rfl, _, rfl, _, rfl, st, la, th, fa, wa, oa, fr, out, ca, ga, cs, rfl, L.R, L.c, L.g, L.pm, L.asc, by omega, by omega, fun H' s' => ⟨_, rfl, iteF ?_⟩⟩
    exact ⟨_, _, _, _, _, _, _, _, _, _, _, ca, ta, ga, fa, oa, cs, tk, fr, out, rfl, L.R.same s', s' _ _ L.tp, s' _ _ L.c, s' _ _ L.t, s' _ _ L.g, L.pm, L.asc, L.nd, L.ln⟩
  have na : ∀ {q : Addr} {l : List V}, H2 q = some (.lst l) → q ≠ st := fun {q l} e => ne_of e hst (by intro z; cases z)
  have z := L.frl
  have z2 := L.ln
  refine ⟨_, rfl, _, _, rfl, rfl, (by show (0 : Int) < 3; decide), rfl, _, rfl, ite2 (fun c3 => ?_) (fun c3 => ?_)⟩
  · -- take
    have hc0 : 0 ≤ pick % 10 := Int.emod_nonneg _ (by decide)
    have ec : pick % 10 = (((pick % 10).toNat : Nat) : Int) := by omega
    refine ⟨_, rfl, _, _, rfl, rfl, (by show (0 : Int) < 10; decide), ?_⟩
    dsimp only
    generalize (pick % 10).toNat = n at ec
    rw [ec]
    refine ⟨_, rfl, st, dx, _, rfl, hst, rfl, _, rfl, st, la, th, fa, wa, oa, fr, out, n, rfl, L.R, by omega, fun hlt => ?_, fun hle => ?_⟩
    · refine ⟨_, rfl, _, rfl, ca, _, rfl, .inl (SqL.of L.c), _, _, rfl, rfl, _, rfl, iteD (by rw [List.length_map]; omega) ?_⟩
      exact ⟨_, rfl, rfl, _, rfl, iteC rfl (fin _ _ _ _ _ _ _ _ _ _ _ ca ta ga fa oa cs tk fr out H2 L)⟩
    · intro H3 p fa' hp hfa' p_fa' e3 R3 kp3
      refine ⟨_, rfl, _, rfl, ca, _, rfl, .inl (SqL.of (kp3 _ _ L.c (na L.c))), _, _, rfl, rfl, _, rfl, iteND (by rw [List.length_map]; omega) ?_⟩
      have c3' := kp3 _ _ L.c (na L.c)
      have t3 := kp3 _ _ L.t (na L.t)
      have g3 := kp3 _ _ L.g (na L.g)
      have tp3 := kp3 _ _ L.tp (na L.tp)
      refine ⟨_, rfl, ca, cs, rfl, SqL.of c3', fun ds q pmd ascd hq => ?_⟩
      have eds : ds = fr := asc_uniq (pmd.trans L.pm.symm) ascd L.asc
      subst eds
      refine ⟨_, rfl, _, rfl, q, _, rfl, SqL.of upd_same, fun d hd => ?_⟩
      rw [cut_no hle]
      have u1 := up1 (o := HO.lst (ds.map V.int)) hq
      generalize upd H3 q (HO.lst (ds.map V.int)) = H4 at u1 hd ⊢
      have u2 := u1.trans (up1 (o := HO.lst ((ds.take n).map V.int)) hd)
      have e5 : upd H4 d (HO.lst ((ds.take n).map V.int)) d = _ := upd_same
      generalize upd H4 d (HO.lst ((ds.take n).map V.int)) = H5 at u2 e5 ⊢
      refine ⟨_, rfl, _, _, _, _, true, rfl, .ty "list", .base (.lst (u2 _ _ e3)), kit_ty (by decide +kernel), _, rfl, iteF ?_⟩
      refine ⟨_, rfl, _, rfl, _, _, dl (u2 _ _ e3), dl e5, sh_ints _, sh_ints _, _, rfl, iteC (by rw [eqv_sh (sh_ints _)]; rfl) ?_⟩
      refine ⟨_, rfl, ca, rfl, ⟨_, SqL.of (u2 _ _ c3')⟩, fun D hD => lc_list (K := K) (a := ca) (xs := cs.map V.int) (fun j H' => H' D = some (.lst (((cs.take j).filter fun c => !decide (c ∈ ds.take n)).map V.int)) ∧ Same H5 H') ⟨upd_same, up1 hD⟩ (fun j H' _ q => SqL.of (q.2 _ _ (u2 _ _ c3'))) ?_ ?_⟩
      · rintro j x H' hj ⟨hD', s5⟩
        have hil : j < cs.length := by
          have := (List.getElem?_eq_some_iff.mp hj).1
          rw [List.length_map] at this
          exact this
        have hx : x = V.int cs[j] := by
          rw [List.getElem?_map, List.getElem?_eq_getElem hil] at hj
          exact (Option.some.inj hj).symm
        subst hx
        refine ⟨rfl, _, rfl, _, rfl, d, _, rfl, .inl (SqL.of (s5 _ _ e5)), rfl, flat_ints _, _, rfl, ?_⟩
        show if (!inV (.int cs[j]) ((ds.take n).map V.int)) = true then _ else _
        rw [inV_int]
        by_cases c : cs[j] ∈ ds.take n
        · rw [decide_eq_true c]
          refine iteF ⟨?_, s5⟩
          rw [fil_f (p := fun c => !decide (c ∈ ds.take n)) hil (by simp [c])]
          exact hD'
        · rw [decide_eq_false c]
          refine iteT ?_
          refine ⟨_, rfl, _, hD', ?_, ?_, fun b o e => by rw [upd_ne (ne_of_none e hD)]; exact s5 b o e⟩
          · rw [List.length_map]
            have := List.length_filter_le (fun c => !decide (c ∈ ds.take n)) (cs.take j)
            rw [List.length_take] at this
            omega
          · rw [upd_same, fil_t (p := fun c => !decide (c ∈ ds.take n)) hil (by simp [c]), List.map_append]
            rfl
      · rintro H6 ⟨hD6, s6⟩
        rw [List.length_map, List.take_length] at hD6
        have s36 : Same H3 H6 := u2.trans s6
        refine ⟨_, rfl, _, rfl, ta, d, _, _, rfl, rfl, s36 _ _ t3, s6 _ _ e5, (by rw [List.length_map, List.length_map, List.length_take]; omega), fun t' ht' => ?_⟩
        have hp6 := s36 _ _ e3
        have s7 := up1 (o := HO.lst (tk.map V.int ++ (ds.take n).map V.int)) ht'
        have e7 : upd H6 t' (HO.lst (tk.map V.int ++ (ds.take n).map V.int)) t' = _ := upd_same
        generalize upd H6 t' (HO.lst (tk.map V.int ++ (ds.take n).map V.int)) = H7 at s7 e7 ⊢
        have s37 : Same H3 H7 := s36.trans s7
        have hp7 := s7 _ _ hp6
        refine ⟨_, rfl, .inl ⟨rfl, _, SqL.of hp7⟩, p, _, _, rfl, rfl, hp7, (by rw [List.length_map, List.length_take]; omega), ?_⟩
        -- p is none of the others
        have npH : ∀ {b : Addr} {o : HO}, H2 b = some o → b ≠ p := fun e => ne_of_none e hp
        have D_p : D ≠ p := (ne_of_none (u2 _ _ e3) hD).symm
        have t'_p : t' ≠ p := (ne_of_none hp6 ht').symm
        have st_p : st ≠ p := npH hst
        have R7 := R3.same s37
        obtain ⟨dx3, hst3⟩ := R7.ob
        refine fin _ _ _ _ _ _ _ _ _ _ _ D t' ga fa' oa (cs.filter fun c => !decide (c ∈ ds.take n)) (tk ++ ds.take n) (ds.drop n) out _ ⟨⟨⟨dx3, by rw [upd_ne st_p]; exact hst3⟩, ?_, ?_, ?_⟩, ?_, ?_, ?_, ?_, drop_filter n L.pm (List.nodup_append.mp L.nd).1, ?_, ?_, ?_⟩
        · rw [upd_ne p_fa'.symm]; exact R7.f
        · rw [upd_ne (npH L.R.w)]; exact R7.w
        · rw [upd_ne (npH L.R.o)]; exact R7.o
        · rw [upd_ne (npH L.tp)]; exact s37 _ _ tp3
        · rw [upd_ne D_p]; exact s7 _ _ hD6
        · rw [upd_ne t'_p, e7, List.map_append]
        · rw [upd_ne (npH L.g)]; exact s37 _ _ g3
        · exact L.asc.drop
        · have p1 := (drop_filter n L.pm (List.nodup_append.mp L.nd).1).symm
          have p2 : ((cs.filter fun c => !decide (c ∈ ds.take n)) ++ (tk ++ ds.take n)).Perm (cs ++ tk) := by
            refine ((p1.append (.refl _)).trans ?_)
            have q1 : (ds.drop n ++ (tk ++ ds.take n)).Perm ((tk ++ ds.take n) ++ ds.drop n) := List.perm_append_comm
            refine q1.trans ?_
            rw [List.append_assoc, List.take_append_drop]
            exact List.perm_append_comm.trans (L.pm.append (.refl _))
          exact p2.nodup_iff.mpr L.nd
        · have p1 := (drop_filter n L.pm (List.nodup_append.mp L.nd).1).symm.length_eq
          rw [p1, List.length_append, List.length_take, List.length_drop]
          omega
  · have hc0 : 0 ≤ pick.fmod ((tk.length : Int) + 1) := by
      rw [Int.fmod_eq_emod_of_nonneg _ (by omega)]
      exact Int.emod_nonneg _ (by omega)
    have hc1 : pick.fmod ((tk.length : Int) + 1) < (tk.length : Int) + 1 := by
      rw [Int.fmod_eq_emod_of_nonneg _ (by omega)]
      exact Int.emod_lt_of_pos _ (by omega)
    obtain ⟨n, ec⟩ : ∃ n : Nat, pick.fmod ((tk.length : Int) + 1) = (n : Int) := ⟨(pick.fmod ((tk.length : Int) + 1)).toNat, by omega⟩
    have hle : n ≤ tk.length := by omega
    have elm : ((tk.map V.int).length : Int) = (tk.length : Int) := by rw [List.length_map]
    have htk := List.take_append_drop n tk
    refine ⟨_, rfl, _, _, rfl, rfl, (by show (0 : Int) < 3; decide), rfl, _, rfl, ite2 (fun c4 => ?_) (fun c4 => ?_)⟩
    · -- give back
      refine ⟨_, rfl, _, rfl, _, rfl, ta, _, rfl, .inl (SqL.of L.t), _, _, rfl, rfl, _, _, rfl, rfl, (by rw [elm]; omega), ?_⟩
      dsimp only
      rw [elm, ec]
      refine ⟨_, rfl, ta, _, rfl, SqL.of L.t, fun b hb => ?_⟩
      rw [cut_no hle]
      have u1 := up1 (o := HO.lst ((tk.take n).map V.int)) hb
      have e1 : upd H2 b (HO.lst ((tk.take n).map V.int)) b = _ := upd_same
      generalize upd H2 b (HO.lst ((tk.take n).map V.int)) = H3 at u1 e1 ⊢
      refine ⟨_, rfl, b, _, rfl, .inl (SqL.of e1), fun p hp => ?_⟩
      have u2 := u1.trans (up1 (o := HO.lst ((tk.take n).map V.int)) hp)
      have e2 : upd H3 p (HO.lst ((tk.take n).map V.int)) p = _ := upd_same
      have e1' := up1 (o := HO.lst ((tk.take n).map V.int)) hp _ _ e1
      generalize upd H3 p (HO.lst ((tk.take n).map V.int)) = H4 at u2 e2 e1' ⊢
      refine ⟨_, rfl, st, dx, _, rfl, u2 _ _ hst, rfl, _, rfl, st, la, th, fa, wa, oa, fr, out, p, _, rfl, L.R.same u2, e2, (by rw [List.length_take]; omega), fun H5 fa' fr' pm' asc' hfa' R5 kp5 => ?_⟩
      have na4 : ∀ {q : Addr} {l : List V}, H4 q = some (.lst l) → q ≠ st := fun {q l} e => ne_of e (u2 _ _ hst) (by intro z; cases z)
      have k5 : ∀ {q : Addr} {l : List V}, H4 q = some (.lst l) → H5 q = some (.lst l) := fun e => kp5 _ _ e (na4 e)
      have hp5 := k5 e2
      refine ⟨_, rfl, .inl ⟨rfl, _, SqL.of hp5⟩, p, _, _, rfl, rfl, hp5, (by rw [List.length_map, List.length_take]; omega), ?_⟩
      have npH : ∀ {b : Addr} {o : HO}, H2 b = some o → b ≠ p := fun e => ne_of_none (u1 _ _ e) hp
      have b_p : b ≠ p := ne_of_none e1 hp
      have fa'_p : fa' ≠ p := (ne_of_none e2 hfa').symm
      obtain ⟨dx5, hst5⟩ := R5.ob
      have S5 : ∀ {q : Addr} {l : List V}, H5 q = some (.lst l) → q ≠ p → upd H5 p (.lst ((tk.take n).map V.int ++ [.int 9])) q = some (.lst l) := fun e h => by rw [upd_ne h]; exact e
      have hst6 : upd H5 p (.lst ((tk.take n).map V.int ++ [.int 9])) st = some (.ins S dx5 (sfs la th fa' wa oa)) := by rw [upd_ne (npH hst)]; exact hst5
      have R6 : StAt S (upd H5 p (.lst ((tk.take n).map V.int ++ [.int 9]))) st la th fa' wa oa fr' out := ⟨⟨dx5, hst6⟩, S5 R5.f fa'_p, S5 R5.w (npH L.R.w), S5 R5.o (npH L.R.o)⟩
      have tp6 := S5 (k5 (u2 _ _ L.tp)) (npH L.tp)
      have c6 := S5 (k5 (u2 _ _ L.c)) (npH L.c)
      have t6 := S5 (k5 (u2 _ _ L.t)) (npH L.t)
      have g6 := S5 (k5 (u2 _ _ L.g)) (npH L.g)
      have b6 := S5 (k5 e1') b_p
      generalize upd H5 p (.lst ((tk.take n).map V.int ++ [.int 9])) = H6 at R6 tp6 c6 t6 g6 b6 ⊢
      refine ⟨_, rfl, _, rfl, b, _, rfl, .inl (SqL.of b6), _, rfl, ta, _, rfl, SqL.of t6, fun t' ht' => ?_⟩
      have eln : (((tk.take n).map V.int).length : Int) = (n : Int) := by rw [List.length_map, List.length_take]; omega
      rw [eln, cut_from hle]
      have s7 := up1 (o := HO.lst ((tk.drop n).map V.int)) ht'
      have e7 : upd H6 t' (HO.lst ((tk.drop n).map V.int)) t' = _ := upd_same
      generalize upd H6 t' (HO.lst ((tk.drop n).map V.int)) = H7 at s7 e7 ⊢
      refine ⟨_, rfl, _, rfl, ca, b, _, _, rfl, rfl, s7 _ _ c6, s7 _ _ b6, (by rw [List.length_map, List.length_map, List.length_take]; omega), fun c' hc' => ?_⟩
      have s8 := up1 (o := HO.lst (cs.map V.int ++ (tk.take n).map V.int)) hc'
      have s68 := s7.trans s8
      refine fin _ _ _ _ _ _ _ _ _ _ _ c' t' ga fa' oa (cs ++ tk.take n) (tk.drop n) fr' out _ ⟨R6.same s68, s68 _ _ tp6, (by rw [upd_same, List.map_append]), s8 _ _ e7, s68 _ _ g6, pm'.trans (L.pm.append (.refl _)), asc', ?_, ?_⟩
      · rw [List.append_assoc, htk]
        exact L.nd
      · rw [List.length_append, List.length_take, List.length_drop]
        omega
    · -- take out
      refine ⟨_, rfl, _, rfl, _, rfl, ta, _, rfl, .inl (SqL.of L.t), _, _, rfl, rfl, _, _, rfl, rfl, (by rw [elm]; omega), ?_⟩
      dsimp only
      rw [elm, ec]
      refine ⟨_, rfl, ta, _, rfl, SqL.of L.t, fun b hb => ?_⟩
      rw [cut_no hle]
      have u1 := up1 (o := HO.lst ((tk.take n).map V.int)) hb
      have e1 : upd H2 b (HO.lst ((tk.take n).map V.int)) b = _ := upd_same
      generalize upd H2 b (HO.lst ((tk.take n).map V.int)) = H3 at u1 e1 ⊢
      refine ⟨_, rfl, b, _, rfl, .inl (SqL.of e1), fun p hp => ?_⟩
      have u2 := u1.trans (up1 (o := HO.lst ((tk.take n).map V.int)) hp)
      have e2 : upd H3 p (HO.lst ((tk.take n).map V.int)) p = _ := upd_same
      have e1' := up1 (o := HO.lst ((tk.take n).map V.int)) hp _ _ e1
      generalize upd H3 p (HO.lst ((tk.take n).map V.int)) = H4 at u2 e2 e1' ⊢
      refine ⟨_, rfl, st, dx, _, rfl, u2 _ _ hst, rfl, _, rfl, st, la, th, fa, wa, oa, fr, out, p, _, rfl, L.R.same u2, e2, (by rw [List.length_take]; omega), fun H5 oa' hoa' R5 kp5 => ?_⟩
      have na4 : ∀ {q : Addr} {l : List V}, H4 q = some (.lst l) → q ≠ st := fun {q l} e => ne_of e (u2 _ _ hst) (by intro z; cases z)
      have k5 : ∀ {q : Addr} {l : List V}, H4 q = some (.lst l) → H5 q = some (.lst l) := fun e => kp5 _ _ e (na4 e)
      have hp5 := k5 e2
      refine ⟨_, rfl, .inl ⟨rfl, _, SqL.of hp5⟩, p, _, _, rfl, rfl, hp5, (by rw [List.length_map, List.length_take]; omega), ?_⟩
      have npH : ∀ {b : Addr} {o : HO}, H2 b = some o → b ≠ p := fun e => ne_of_none (u1 _ _ e) hp
      have b_p : b ≠ p := ne_of_none e1 hp
      have oa'_p : oa' ≠ p := (ne_of_none e2 hoa').symm
      obtain ⟨dx5, hst5⟩ := R5.ob
      have S5 : ∀ {q : Addr} {l : List V}, H5 q = some (.lst l) → q ≠ p → upd H5 p (.lst ((tk.take n).map V.int ++ [.int 9])) q = some (.lst l) := fun e h => by rw [upd_ne h]; exact e
      have hst6 : upd H5 p (.lst ((tk.take n).map V.int ++ [.int 9])) st = some (.ins S dx5 (sfs la th fa wa oa')) := by rw [upd_ne (npH hst)]; exact hst5
      have R6 : StAt S (upd H5 p (.lst ((tk.take n).map V.int ++ [.int 9]))) st la th fa wa oa' fr (out ++ tk.take n) := ⟨⟨dx5, hst6⟩, S5 R5.f (npH L.R.f), S5 R5.w (npH L.R.w), S5 R5.o oa'_p⟩
      have tp6 := S5 (k5 (u2 _ _ L.tp)) (npH L.tp)
      have c6 := S5 (k5 (u2 _ _ L.c)) (npH L.c)
      have t6 := S5 (k5 (u2 _ _ L.t)) (npH L.t)
      have g6 := S5 (k5 (u2 _ _ L.g)) (npH L.g)
      have b6 := S5 (k5 e1') b_p
      generalize upd H5 p (.lst ((tk.take n).map V.int ++ [.int 9])) = H6 at R6 tp6 c6 t6 g6 b6 ⊢
      refine ⟨_, rfl, _, rfl, b, _, rfl, .inl (SqL.of b6), _, rfl, ta, _, rfl, SqL.of t6, fun t' ht' => ?_⟩
      have eln : (((tk.take n).map V.int).length : Int) = (n : Int) := by rw [List.length_map, List.length_take]; omega
      rw [eln, cut_from hle]
      have s7 := up1 (o := HO.lst ((tk.drop n).map V.int)) ht'
      have e7 : upd H6 t' (HO.lst ((tk.drop n).map V.int)) t' = _ := upd_same
      generalize upd H6 t' (HO.lst ((tk.drop n).map V.int)) = H7 at s7 e7 ⊢
      refine ⟨_, rfl, _, rfl, ga, b, _, _, rfl, rfl, s7 _ _ g6, s7 _ _ b6, (by rw [List.length_map, List.length_map, List.length_take]; omega), fun g' hg' => ?_⟩
      have s8 := up1 (o := HO.lst (out.map V.int ++ (tk.take n).map V.int)) hg'
      have s68 := s7.trans s8
      refine fin _ _ _ _ _ _ _ _ _ _ _ ca t' g' fa oa' cs (tk.drop n) fr (out ++ tk.take n) _ ⟨R6.same s68, s68 _ _ tp6, s68 _ _ c6, s8 _ _ e7, (by rw [upd_same, List.map_append]), L.pm, L.asc, ?_, ?_⟩
      · have h := L.nd
        rw [← htk] at h
        exact h.sublist ((List.Sublist.refl _).append (List.sublist_append_right _ _))
      · rw [List.length_append, List.length_take, List.length_drop]
        omega
end
end Dk

set_option maxHeartbeats 16000000
/-! the law k07: its head -/
namespace Dk
open PySem PySem.Spec PyProof.Rows L2 StX
def spLaw (K : PySem.W.Frag) : Sp := fun vs H Q _ => ∃ (a : Addr) (ns : List Int), vs = [.ref a] ∧ SqL K H a (ns.map V.int) ∧ ns.length ≤ 63 ∧ ∀ H', Q (.bl true) H'
def recs (lo : Int) (n : Nat) : List Int := (List.range n).map fun (j : Nat) => lo + (j : Int)
theorem recs_nd (lo : Int) (n : Nat) : (recs lo n).Nodup := by
  unfold recs List.Nodup
  rw [List.pairwise_map]
  exact (List.nodup_range (n := n)).imp fun {a b} h z => h (by omega)
theorem recs_succ (lo : Int) (n : Nat) : recs lo (n + 1) = recs lo n ++ [lo + (n : Int)] := by
  unfold recs
  rw [List.range_succ, List.map_append]
  rfl
theorem recs_len (lo : Int) (n : Nat) : (recs lo n).length = n := by
  unfold recs
  rw [List.length_map, List.length_range]
section
variable {P : Program} {w : World} {K : PySem.W.Frag} {mg : Str → Option Value} {base : Heap} {C S NV LE : Addr}
theorem ok_law {f fS fL : Addr} {fd fdS fdL : FuncData} (F : Fun K "law" "law" sLaw f fd) (B : Bn mg) (TL : LTxt K mg C) (T : STxt K mg S) (zn : mg "min" = none)
    (gC : mg "Layout" = some (.ref C)) (ML : Mk K C fL) (FL : FnOk P w K mg base (L2.CX P w) 3 fL fdL ["self", "threads", "words", "records"] (spLInit C NV)) (bL : Binds K fdL ["self", "threads", "words", "records"] [])
    (gS : mg "Store" = some (.ref S)) (MS : Mk K S fS) (FS : FnOk P w K mg base CX0 1 fS fdS ["self", "layout", "thread", "cells"] (spSInit S)) (bS : Binds K fdS ["self", "layout", "thread", "cells"] [])
    (Gre : MO P w K mg base CX0 C 4 "record" ["self", "index"] (spL1 C fun t w _ i => .int (rec0 t w + i)))
    (GTk : MO P w K mg base CX0 S 1 "take" ["self", "many"] (spTake S)) (GGb : MO P w K mg base CX0 S 1 "give_back" ["self", "cells"] (spGiveB S)) (GTo : MO P w K mg base CX0 S 1 "take_out" ["self", "cells"] (spTOut S))
    (GD : GO P w K mg base CX0 5 "divided" ["layout", "cells", "thread"] (spDivided C)) (GDv : GO P w K mg base CX0 6 "_law_divided" ["layout", "cells", "threads"] (spDivd C))
    (GTp : GO P w K mg base CX0 1 "_law_tape" ["script"] (spTape K)) (GAt : GO P w K mg base CX0 1 "_law_at" ["tape", "k"] (spAt K)) (GS : GO P w K mg base CX0 2 "_law_same" ["store", "cells", "out"] (spSame S)) : FnOk P w K mg base CX0 7 f fd ["script"] (spLaw K) := by
  refine F.ok scLaw (fun vs H Q E h => ?_) (fun cdv A outer s H vs Q E hr h => ?_)
  · obtain ⟨a, ns, rfl, _⟩ := h
    rfl
  · obtain ⟨a, ns, rfl, hS, hlen, kQ⟩ := h
    have nd := scLaw.nd
    have hr1 : Room 1 _ := hr.mono (by decide)
    have hr2 : Room 2 _ := hr.mono (by decide)
    have hr4 : Room 4 _ := hr.mono (by decide)
    have hr5 : Room 5 _ := hr.mono (by decide)
    have hsl : sizeLine = 16777216 := sizeLine_eq
    obtain ⟨t2, hp2, r2⟩ := law_loop (f := f) (cdv := cdv) (A := A) (outer := outer) (s := s) (Hs := H) (E := E) (Q := Q) hr B T zn GTk GGb GTo GAt GS kQ
    refine ⟨_, (pss_cons (ps_set (i := 1) nd rfl (Or.inr rfl) (pc_ GTp hr1 (pa_cons (pv 0) pa_nil)))
  (pss_cons (ps_set (i := 2) nd rfl (Or.inl rfl) (pe_op op_add pe_int (pe_op op_mod (pc_ GAt hr1 (pa_cons (pv 1) (pa_cons pe_int pa_nil))) pe_int)))
  (pss_cons (ps_set (i := 3) nd rfl (Or.inl rfl) (pe_op op_add pe_int (pe_op op_mod (pc_ GAt hr1 (pa_cons (pv 1) (pa_cons pe_int pa_nil))) pe_int)))
  (pss_cons (ps_set (i := 4) nd rfl (Or.inr rfl) (pe_make ML FL (hr.mono (by decide)) rfl gC bL .nil passL (pa_cons (pv 2) (pa_cons (pv 3) (pa_cons (pe_op op_add pe_int (pe_op op_mod (pc_ GAt hr1 (pa_cons (pv 1) (pa_cons pe_int pa_nil))) pe_int)) pa_nil)))))
  (pss_cons (ps_set (i := 5) nd rfl (Or.inl rfl) (pe_op op_modN (pc_ GAt hr1 (pa_cons (pv 1) (pa_cons pe_int pa_nil))) (pv 2)))
  (pss_cons (ps_setLc (i := 7) (own := [("k", 6)]) (g := (gName 6)) (tt := tTest (tOp (rI0 fun i j => .bl (decide (j < i))) (tOp (rI (fun _ j => 0 < j) fun i j => .int (i % j)) (tOp (rI0 fun i j => .int (i + j)) (tOp (rI CMul fun i j => .int (i * j)) (tVar 6) (tC (.int 7))) (tCall (spAt K) [] E0 (tCons (tVar 1) (tCons (tC (.int 3)) tNil)))) (tC (.int 5))) (tC (.int 0)))) rfl nd rfl rfl (sw_true rfl rfl rfl (by decide +kernel)) (pi_range1 (by rfl) B.range (pa_cons (pe_fld (pv 4) rfl) pa_nil)) (blkOk_by (N := NLw) (sc := defScope sLaw) (by decide +kernel)) (fun _ _ _ _ _ => (pg_name (i := 6) nd rfl (Or.inl rfl))) (fun _ _ _ _ _ => pts_one (pt_cmpR op_gt (pe_op op_mod (pe_op op_add (pe_op op_mul (pv 6) pe_int) (pc_ GAt hr1 (pa_cons (pv 1) (pa_cons pe_int pa_nil)))) pe_int) pe_int (nomark _))) (fun _ _ _ _ _ => (pm_ Gre TL.cl hr4 (pv 4) (pa_cons (pv 6) pa_nil))))
  (pss_cons (ps_if (pt_not (pt_val (pc_ GDv hr (pa_cons (pv 4) (pa_cons (pv 7) (pa_cons (pv 2) pa_nil))))))
  (pss_one (ps_ret pe_bl))
  pss_nil)
  (pss_cons (ps_set (i := 8) nd rfl (Or.inl rfl) (pc_ GD hr5 (pa_cons (pv 4) (pa_cons (pe_lc (own := [("k", 6)]) (g := (gName 6)) (tt := tYes) rfl nd (pi_range2 (by rfl) B.range (pa_cons (pv 3) (pa_cons (pe_fld (pv 4) rfl) pa_nil))) (blkOk_by (N := NLw) (sc := defScope sLaw) (by decide +kernel)) (fun _ _ _ _ _ => (pg_name (i := 6) nd rfl (Or.inl rfl))) (fun _ _ _ _ _ => pts_nil) (fun _ _ _ _ _ => (pm_ Gre TL.cl hr4 (pv 4) (pa_cons (pv 6) pa_nil)))) (pa_cons (pv 5) pa_nil)))))
  (pss_cons (ps_set (i := 9) nd rfl (Or.inl rfl) (pe_callTy call_list_of (by rfl) T.list (by decide +kernel) (pa_cons (pv 8) pa_nil)))
  (pss_cons (ps_set (i := 10) nd rfl (Or.inl rfl) (pe_make MS FS (hr.mono (by decide)) rfl gS bS .nil pass0 (pa_cons (pv 4) (pa_cons (pv 5) (pa_cons (pv 9) pa_nil)))))
  (pss_cons (ps_expr (pe_bm PySem.F.plainAttrs_list PySem.F.slot_list_append PySem.F.type_list_append mt_append (pv 9) (pa_cons pe_int pa_nil)))
  (pss_cons (ps_set (i := 11) nd rfl (Or.inl rfl) (pe_lst pa_nil))
  (pss_cons (ps_set (i := 12) nd rfl (Or.inl rfl) (pe_lst pa_nil))
  (pss_cons (ps_if (PW.pt (pw_or (pt_cmpR op_ne (pe_fld (pv 10) rfl) (pv 5) (nomark _)) (pw_or1 (pt_not (pt_val (pc_ GS hr2 (pa_cons (pv 10) (pa_cons (pv 8) (pa_cons (pv 12) pa_nil)))))))))
  (pss_one (ps_ret pe_bl))
  pss_nil)
  hp2)))))))))))))), ?_⟩
    refine ⟨_, rfl, a, ns, rfl, hS, hlen, fun tp ms H1 _ htp sm hml s1 => ?_⟩
    -- threads, words
    refine ⟨_, rfl, tp, ms, 0, rfl, SqL.of htp, _, _, rfl, rfl, (by show (0 : Int) < 3; decide), _, _, rfl, rfl, ?_⟩
    refine ⟨_, rfl, tp, ms, 1, rfl, SqL.of htp, _, _, rfl, rfl, (by show (0 : Int) < 4; decide), _, _, rfl, rfl, ?_⟩
    have ht0 : 1 ≤ 1 + atD ms 0 % 3 ∧ 1 + atD ms 0 % 3 ≤ 3 := by omega
    have hw0 : 1 ≤ 1 + atD ms 1 % 4 ∧ 1 + atD ms 1 % 4 ≤ 4 := by omega
    have hc0 : 4 ≤ 4 + atD ms 2 % 57 ∧ 4 + atD ms 2 % 57 ≤ 60 := by omega
    refine ⟨_, rfl, _, rfl, _, rfl, tp, ms, 2, rfl, SqL.of htp, _, _, rfl, rfl, (by show (0 : Int) < 57; decide), _, _, rfl, rfl, ?_⟩
    dsimp only [rI, rI0]
    generalize 1 + atD ms 0 % 3 = t at ht0 ⊢
    generalize 1 + atD ms 1 % 4 = wd at hw0 ⊢
    generalize 4 + atD ms 2 % 57 = rc at hc0 ⊢
    obtain ⟨t1, t3⟩ := ht0
    obtain ⟨w1, w4⟩ := hw0
    obtain ⟨c4, c60⟩ := hc0
    have hok : lok t wd rc = true := lok_iff.mpr ⟨t1, t3, w1, w4, c4, by omega⟩
    -- layout = Layout(..)
    intro la dx nla ndx ne
    refine ⟨la, dx, t, wd, rc, rfl, upd_same, (fun _ H2 lay kp2 => ⟨rfl, ?_⟩), fun h => absurd (h.symm.trans hok) (by decide)⟩
    have s2 : Same H1 H2 := fun b o e => by
      have b1 : b ≠ la := ne_of_none e nla
      refine kp2 b o ?_ b1
      rw [upd_ne b1, upd_ne (ne_of_none e ndx)]
      exact e
    obtain ⟨da, hla⟩ := lay
    have htp2 := s2 _ _ htp
    -- thread
    refine ⟨_, rfl, tp, ms, 3, rfl, SqL.of htp2, _, rfl, _, _, rfl, rfl, (by omega), ?_⟩
    have hth0 : 0 ≤ (atD ms 3).fmod t := by
      rw [Int.fmod_eq_emod_of_nonneg _ (by omega)]
      exact Int.emod_nonneg _ (by omega)
    dsimp only
    generalize (atD ms 3).fmod t = th at hth0 ⊢
    -- some
    refine ⟨_, rfl, la, C, da, _, _, rfl, hla, TL.cl, TL.nR, rfl, _, rfl, (by omega), (by omega), fun D hD => lc_range (lo := 0) (n := rc.toNat) (fun i H' => ∃ l : List Int, H' D = some (.lst (l.map V.int)) ∧ l.length ≤ i ∧ Same H2 H') ⟨[], upd_same, Nat.le_refl _, up1 hD⟩ ?_ ?_⟩
    · rintro i H3 hi ⟨l, hl, len, s3⟩
      refine ⟨rfl, _, rfl, _, _, rfl, rfl, .inr ⟨by decide, by decide⟩, _, rfl, tp, ms, 3, rfl, SqL.of (s3 _ _ htp2), _, _, rfl, rfl, _, _, rfl, rfl, (by show (0 : Int) < 5; decide), _, _, rfl, rfl, _, rfl, ite2 (fun c => ?_) (fun c => ?_)⟩
      · refine ⟨_, rfl, la, da, _, rfl, s3 _ _ hla, rfl, _, rfl, la, t, wd, rc, _, rfl, ⟨da, s3 _ _ hla⟩, _, hl, (by rw [List.length_map]; omega), l ++ [rec0 t wd + (0 + (i : Int))], (by rw [upd_same, List.map_append]; rfl), (by rw [List.length_append, List.length_singleton]; omega), fun b o e => by rw [upd_ne (ne_of_none e hD)]; exact s3 b o e⟩
      · exact ⟨l, hl, by omega, s3⟩
    rintro H3 ⟨so, hso, hsn, s3⟩
    have hla3 := s3 _ _ hla
    have htp3 := s3 _ _ htp2
    refine ⟨_, rfl, _, rfl, _, rfl, la, t, wd, rc, D, so, rfl, ⟨da, hla3⟩, by omega, by omega, hso, by omega, fun H4 s4 => ⟨_, rfl, iteF ?_⟩⟩
    have hla4 := s4 _ _ hla3
    -- cells = divided(..)
    refine ⟨_, rfl, _, rfl, _, rfl, la, C, da, _, _, rfl, hla4, TL.cl, TL.nR, rfl, _, _, rfl, (by omega), fun D2 hD2 => lc_range (lo := wd) (n := (rc - wd).toNat) (fun i H' => H' D2 = some (.lst ((recs (rec0 t wd + wd) i).map V.int)) ∧ Same H4 H') ⟨upd_same, up1 hD2⟩ ?_ ?_⟩
    · rintro i H5 hi ⟨hl, s5⟩
      refine ⟨rfl, _, rfl, la, da, _, rfl, s5 _ _ hla4, rfl, _, rfl, la, t, wd, rc, _, rfl, ⟨da, s5 _ _ hla4⟩, _, hl, (by rw [List.length_map, recs_len]; omega), ?_, fun b o e => by rw [upd_ne (ne_of_none e hD2)]; exact s5 b o e⟩
      rw [upd_same, recs_succ, List.map_append, show rec0 t wd + wd + (i : Int) = rec0 t wd + (wd + (i : Int)) by omega]
      rfl
    rintro H5 ⟨hD5, s5⟩
    refine ⟨_, rfl, la, t, wd, rc, D2, _, _, rfl, ⟨da, s5 _ _ hla4⟩, by omega, hD5, (by rw [recs_len]; omega), fun H6 ca ds pm asc hca hds s6 => ?_⟩
    have dnd : ds.Nodup := pm.nodup_iff.mpr ((recs_nd _ _).filter _)
    have dln : ds.length ≤ 60 := by
      rw [pm.length_eq]
      refine Nat.le_trans (List.length_filter_le _ _) ?_
      rw [recs_len]
      omega
    have s26 : Same H2 H6 := s3.trans (s4.trans (s5.trans s6))
    have htp6 := s26 _ _ htp2
    have hla6 := s26 _ _ hla
    -- passed = list(cells)
    refine ⟨_, rfl, ca, _, rfl, .inl (SqL.of hds), fun p hp => ?_⟩
    have s7 := up1 (o := HO.lst (ds.map V.int)) hp
    have e7 : upd H6 p (HO.lst (ds.map V.int)) p = _ := upd_same
    have ca_p : ca ≠ p := ne_of_none hds hp
    have tp_p : tp ≠ p := ne_of_none htp6 hp
    generalize upd H6 p (HO.lst (ds.map V.int)) = H7 at s7 e7 ⊢
    have htp7 := s7 _ _ htp6
    have hds7 := s7 _ _ hds
    -- store = Store(layout, thread, passed)
    refine ⟨_, rfl, _, rfl, _, rfl, fun st dx2 nst ndx2 ne2 => ?_⟩
    have u8 : Same H7 (upd (upd H7 dx2 (.own st)) st (.ins S dx2 [])) := fun b o e => by rw [upd_ne (ne_of_none e nst), upd_ne (ne_of_none e ndx2)]; exact e
    refine ⟨st, dx2, la, th, p, ds, rfl, upd_same, u8 _ _ e7, fun H8 fa wa oa fr pmf ascf R nfa nwa noa kp => ⟨rfl, ?_⟩⟩
    have k8 : ∀ {b : Addr} {o : HO}, H7 b = some o → H8 b = some o := fun {b o} e => kp b o (u8 _ _ e) (ne_of_none e nst)
    have p8 := k8 e7
    -- passed.append(1)
    refine ⟨_, rfl, .inl ⟨rfl, _, SqL.of p8⟩, p, _, _, rfl, rfl, p8, (by rw [List.length_map]; omega), ?_⟩
    obtain ⟨dx8, hst8⟩ := R.ob
    have st_p : st ≠ p := (ne_of_none e7 nst).symm
    have fa_p : fa ≠ p := (ne_of_none (u8 _ _ e7) nfa).symm
    have wa_p : wa ≠ p := (ne_of_none (u8 _ _ e7) nwa).symm
    have oa_p : oa ≠ p := (ne_of_none (u8 _ _ e7) noa).symm
    have R9 : StAt S (upd H8 p (.lst (ds.map V.int ++ [.int 1]))) st la th fa wa oa fr [] := ⟨⟨dx8, by rw [upd_ne st_p]; exact hst8⟩, by rw [upd_ne fa_p]; exact R.f, by rw [upd_ne wa_p]; exact R.w, by rw [upd_ne oa_p]; exact R.o⟩
    have tp9 : upd H8 p (.lst (ds.map V.int ++ [.int 1])) tp = some (.lst (ms.map V.int)) := by rw [upd_ne tp_p]; exact k8 htp7
    have c9 : upd H8 p (.lst (ds.map V.int ++ [.int 1])) ca = some (.lst (ds.map V.int)) := by rw [upd_ne ca_p]; exact k8 hds7
    generalize upd H8 p (.lst (ds.map V.int ++ [.int 1])) = H9 at R9 tp9 c9 ⊢
    -- taken, out
    refine ⟨(by show 0 ≤ sizeLine; exact Nat.zero_le _), fun ta hta => ?_⟩
    have s10 := up1 (o := HO.lst []) hta
    have e10 : upd H9 ta (HO.lst []) ta = _ := upd_same
    generalize upd H9 ta (HO.lst []) = H10 at s10 e10 ⊢
    refine ⟨(by show 0 ≤ sizeLine; exact Nat.zero_le _), fun ga hga => ?_⟩
    have s11 := up1 (o := HO.lst []) hga
    have e11 : upd H10 ga (HO.lst []) ga = _ := upd_same
    generalize upd H10 ga (HO.lst []) = H11 at s11 e11 ⊢
    have s911 := s10.trans s11
    have R11 := R9.same s911
    obtain ⟨dx11, hst11⟩ := R11.ob
    refine ⟨_, rfl, st, S, dx11, _, _, rfl, hst11, T.cl, T.nT, rfl, _, rfl, rfl, _, rfl, iteNS rfl ?_⟩
    refine ⟨_, rfl, _, rfl, _, rfl, st, la, th, fa, wa, oa, fr, [], ca, ga, ds, rfl, R11, s911 _ _ c9, e11, pmf, ascf, (by rw [pmf.length_eq]; omega), (by show 0 < 1000; decide), fun H12 s12 => ⟨_, rfl, iteF ?_⟩⟩
    have s912 := s911.trans s12
    exact r2 a tp la st ca ta ga fa wa oa t wd th ms ds fr H12 none (some (.ref D)) (some (.ref p)) none none none none none none none none sm (by omega) ⟨R9.same s912, s912 _ _ tp9, s912 _ _ c9, s12 _ _ (s11 _ _ e10), s12 _ _ e11, pmf, ascf, (by rw [List.append_nil]; exact dnd), (by simp; omega)⟩
end
end Dk

set_option maxHeartbeats 8000000
namespace Dk
open PySem PySem.Spec PyProof.Rows L2
theorem kit_self {K : PySem.W.Frag} {N : Addr} : PySem.W.kitOne K (.ref N) (.ref N) = some true := by
  unfold PySem.W.kitOne
  rw [if_pos (beq_self_eq_true _)]
theorem all_mk {l : PySem.W.OpenLaw} {w : World} {K : PySem.W.Frag} {h : Heap} {mg : Str → Option Value} {fa C S NV LE f1 f2 f3 f4 f5 f6 f7 f8 f9 f10 f11 f12 f13 f14 f15 f16 f17 f18 f19 : Addr} (X : K.In h) (G : h.Ns mainGlobals mg) (hfa : mg "law" = some (.ref fa))
    {od1 an1 : Option Addr} {sl1 : Array (Option Value)} {oc1 kV1 dc1 pm1 cd1 ct1 : Value}
    {od2 an2 : Option Addr} {sl2 : Array (Option Value)} {oc2 kV2 dc2 pm2 cd2 ct2 : Value}
    {od3 an3 : Option Addr} {sl3 : Array (Option Value)} {oc3 kV3 dc3 pm3 cd3 ct3 : Value}
    {od4 an4 : Option Addr} {sl4 : Array (Option Value)} {oc4 kV4 dc4 pm4 cd4 ct4 : Value}
    {od5 an5 : Option Addr} {sl5 : Array (Option Value)} {oc5 kV5 dc5 pm5 cd5 ct5 : Value}
    {od6 an6 : Option Addr} {sl6 : Array (Option Value)} {oc6 kV6 dc6 pm6 cd6 ct6 : Value}
    {od7 an7 : Option Addr} {sl7 : Array (Option Value)} {oc7 kV7 dc7 pm7 cd7 ct7 : Value}
    {od8 an8 : Option Addr} {sl8 : Array (Option Value)} {oc8 kV8 dc8 pm8 cd8 ct8 : Value}
    {od9 an9 : Option Addr} {sl9 : Array (Option Value)} {oc9 kV9 dc9 pm9 cd9 ct9 : Value}
    {od10 an10 : Option Addr} {sl10 : Array (Option Value)} {oc10 kV10 dc10 pm10 cd10 ct10 : Value}
    {od11 an11 : Option Addr} {sl11 : Array (Option Value)} {oc11 kV11 dc11 pm11 cd11 ct11 : Value}
    {od12 an12 : Option Addr} {sl12 : Array (Option Value)} {oc12 kV12 dc12 pm12 cd12 ct12 : Value}
    {od13 an13 : Option Addr} {sl13 : Array (Option Value)} {oc13 kV13 dc13 pm13 cd13 ct13 : Value}
    {od14 an14 : Option Addr} {sl14 : Array (Option Value)} {oc14 kV14 dc14 pm14 cd14 ct14 : Value}
    {od15 an15 : Option Addr} {sl15 : Array (Option Value)} {oc15 kV15 dc15 pm15 cd15 ct15 : Value}
    {od16 an16 : Option Addr} {sl16 : Array (Option Value)} {oc16 kV16 dc16 pm16 cd16 ct16 : Value}
    {od17 an17 : Option Addr} {sl17 : Array (Option Value)} {oc17 kV17 dc17 pm17 cd17 ct17 : Value}
    {od18 an18 : Option Addr} {sl18 : Array (Option Value)} {oc18 kV18 dc18 pm18 cd18 ct18 : Value}
    {od19 an19 : Option Addr} {sl19 : Array (Option Value)} {oc19 kV19 dc19 pm19 cd19 ct19 : Value}
    (gC : PySem.W.nsIn K mainGlobals "Layout" = some (some (.ref C)))
    (gS : PySem.W.nsIn K mainGlobals "Store" = some (some (.ref S)))
    (gNV : PySem.W.nsIn K mainGlobals "NotValid" = some (some (.ref NV)))
    (gLE : PySem.W.nsIn K mainGlobals "LineError" = some (some (.ref LE)))
    (a1 : PySem.W.nsIn K mainGlobals "is_whole" = some (some (.ref f1)))
    (l1 : K.lookup f1 = some ⟨oc1, od1, .func (PySem.W.fnOf "is_whole" "is_whole" (defArgs sWhole) (defBody sWhole) (defScope sWhole) .none kV1 dc1 pm1 an1 cd1 ct1), sl1⟩)
    (c1 : PySem.W.codeIn K cd1 "is_whole" = true)
    (k1 : PySem.W.keepIn K (.ref f1) = true)
    (a2 : PySem.W.nsIn K mainGlobals "is_within" = some (some (.ref f2)))
    (l2 : K.lookup f2 = some ⟨oc2, od2, .func (PySem.W.fnOf "is_within" "is_within" (defArgs sWithin) (defBody sWithin) (defScope sWithin) .none kV2 dc2 pm2 an2 cd2 ct2), sl2⟩)
    (c2 : PySem.W.codeIn K cd2 "is_within" = true)
    (k2 : PySem.W.keepIn K (.ref f2) = true)
    (a3 : PySem.W.nsIn K mainGlobals "divided" = some (some (.ref f3)))
    (l3 : K.lookup f3 = some ⟨oc3, od3, .func (PySem.W.fnOf "divided" "divided" (defArgs sDivided) (defBody sDivided) (defScope sDivided) .none kV3 dc3 pm3 an3 cd3 ct3), sl3⟩)
    (c3 : PySem.W.codeIn K cd3 "divided" = true)
    (k3 : PySem.W.keepIn K (.ref f3) = true)
    (a4 : PySem.W.nsIn K mainGlobals "_law_tape" = some (some (.ref f4)))
    (l4 : K.lookup f4 = some ⟨oc4, od4, .func (PySem.W.fnOf "_law_tape" "_law_tape" (defArgs sTape) (defBody sTape) (defScope sTape) .none kV4 dc4 pm4 an4 cd4 ct4), sl4⟩)
    (c4 : PySem.W.codeIn K cd4 "_law_tape" = true)
    (k4 : PySem.W.keepIn K (.ref f4) = true)
    (a5 : PySem.W.nsIn K mainGlobals "_law_at" = some (some (.ref f5)))
    (l5 : K.lookup f5 = some ⟨oc5, od5, .func (PySem.W.fnOf "_law_at" "_law_at" (defArgs sAt) (defBody sAt) (defScope sAt) .none kV5 dc5 pm5 an5 cd5 ct5), sl5⟩)
    (c5 : PySem.W.codeIn K cd5 "_law_at" = true)
    (k5 : PySem.W.keepIn K (.ref f5) = true)
    (a6 : PySem.W.nsIn K mainGlobals "_law_same" = some (some (.ref f6)))
    (l6 : K.lookup f6 = some ⟨oc6, od6, .func (PySem.W.fnOf "_law_same" "_law_same" (defArgs sSame) (defBody sSame) (defScope sSame) .none kV6 dc6 pm6 an6 cd6 ct6), sl6⟩)
    (c6 : PySem.W.codeIn K cd6 "_law_same" = true)
    (k6 : PySem.W.keepIn K (.ref f6) = true)
    (a7 : PySem.W.nsIn K mainGlobals "_law_divided" = some (some (.ref f7)))
    (l7 : K.lookup f7 = some ⟨oc7, od7, .func (PySem.W.fnOf "_law_divided" "_law_divided" (defArgs sDivd) (defBody sDivd) (defScope sDivd) .none kV7 dc7 pm7 an7 cd7 ct7), sl7⟩)
    (c7 : PySem.W.codeIn K cd7 "_law_divided" = true)
    (k7 : PySem.W.keepIn K (.ref f7) = true)
    (a8 : PySem.W.nsIn K mainGlobals "law" = some (some (.ref f8)))
    (l8 : K.lookup f8 = some ⟨oc8, od8, .func (PySem.W.fnOf "law" "law" (defArgs sLaw) (defBody sLaw) (defScope sLaw) .none kV8 dc8 pm8 an8 cd8 ct8), sl8⟩)
    (c8 : PySem.W.codeIn K cd8 "law" = true)
    (k8 : PySem.W.keepIn K (.ref f8) = true)
    (a9 : PySem.W.findIn K (.ref C) "__init__" = some (some (.ref f9)))
    (i9 : PySem.W.isFn K (.ref f9) = true)
    (l9 : K.lookup f9 = some ⟨oc9, od9, .func (PySem.W.fnOf "__init__" "Layout.__init__" (defArgs sLInit) (defBody sLInit) (defScope sLInit) .none kV9 dc9 pm9 an9 cd9 ct9), sl9⟩)
    (c9 : PySem.W.codeIn K cd9 "Layout.__init__" = true)
    (k9 : PySem.W.keepIn K (.ref f9) = true)
    (a10 : PySem.W.findIn K (.ref C) "epoch_slot" = some (some (.ref f10)))
    (i10 : PySem.W.isFn K (.ref f10) = true)
    (l10 : K.lookup f10 = some ⟨oc10, od10, .func (PySem.W.fnOf "epoch_slot" "Layout.epoch_slot" (defArgs sESlot) (defBody sESlot) (defScope sESlot) .none kV10 dc10 pm10 an10 cd10 ct10), sl10⟩)
    (c10 : PySem.W.codeIn K cd10 "Layout.epoch_slot" = true)
    (k10 : PySem.W.keepIn K (.ref f10) = true)
    (a11 : PySem.W.findIn K (.ref C) "call_slot" = some (some (.ref f11)))
    (i11 : PySem.W.isFn K (.ref f11) = true)
    (l11 : K.lookup f11 = some ⟨oc11, od11, .func (PySem.W.fnOf "call_slot" "Layout.call_slot" (defArgs sCSlot) (defBody sCSlot) (defScope sCSlot) .none kV11 dc11 pm11 an11 cd11 ct11), sl11⟩)
    (c11 : PySem.W.codeIn K cd11 "Layout.call_slot" = true)
    (k11 : PySem.W.keepIn K (.ref f11) = true)
    (a12 : PySem.W.findIn K (.ref C) "word" = some (some (.ref f12)))
    (i12 : PySem.W.isFn K (.ref f12) = true)
    (l12 : K.lookup f12 = some ⟨oc12, od12, .func (PySem.W.fnOf "word" "Layout.word" (defArgs sWord) (defBody sWord) (defScope sWord) .none kV12 dc12 pm12 an12 cd12 ct12), sl12⟩)
    (c12 : PySem.W.codeIn K cd12 "Layout.word" = true)
    (k12 : PySem.W.keepIn K (.ref f12) = true)
    (a13 : PySem.W.findIn K (.ref C) "record" = some (some (.ref f13)))
    (i13 : PySem.W.isFn K (.ref f13) = true)
    (l13 : K.lookup f13 = some ⟨oc13, od13, .func (PySem.W.fnOf "record" "Layout.record" (defArgs sRecord) (defBody sRecord) (defScope sRecord) .none kV13 dc13 pm13 an13 cd13 ct13), sl13⟩)
    (c13 : PySem.W.codeIn K cd13 "Layout.record" = true)
    (k13 : PySem.W.keepIn K (.ref f13) = true)
    (a14 : PySem.W.findIn K (.ref S) "__init__" = some (some (.ref f14)))
    (i14 : PySem.W.isFn K (.ref f14) = true)
    (l14 : K.lookup f14 = some ⟨oc14, od14, .func (PySem.W.fnOf "__init__" "Store.__init__" (defArgs sSInit) (defBody sSInit) (defScope sSInit) .none kV14 dc14 pm14 an14 cd14 ct14), sl14⟩)
    (c14 : PySem.W.codeIn K cd14 "Store.__init__" = true)
    (k14 : PySem.W.keepIn K (.ref f14) = true)
    (a15 : PySem.W.findIn K (.ref S) "take" = some (some (.ref f15)))
    (i15 : PySem.W.isFn K (.ref f15) = true)
    (l15 : K.lookup f15 = some ⟨oc15, od15, .func (PySem.W.fnOf "take" "Store.take" (defArgs sTake) (defBody sTake) (defScope sTake) .none kV15 dc15 pm15 an15 cd15 ct15), sl15⟩)
    (c15 : PySem.W.codeIn K cd15 "Store.take" = true)
    (k15 : PySem.W.keepIn K (.ref f15) = true)
    (a16 : PySem.W.findIn K (.ref S) "give_back" = some (some (.ref f16)))
    (i16 : PySem.W.isFn K (.ref f16) = true)
    (l16 : K.lookup f16 = some ⟨oc16, od16, .func (PySem.W.fnOf "give_back" "Store.give_back" (defArgs sGiveB) (defBody sGiveB) (defScope sGiveB) .none kV16 dc16 pm16 an16 cd16 ct16), sl16⟩)
    (c16 : PySem.W.codeIn K cd16 "Store.give_back" = true)
    (k16 : PySem.W.keepIn K (.ref f16) = true)
    (a17 : PySem.W.findIn K (.ref S) "take_out" = some (some (.ref f17)))
    (i17 : PySem.W.isFn K (.ref f17) = true)
    (l17 : K.lookup f17 = some ⟨oc17, od17, .func (PySem.W.fnOf "take_out" "Store.take_out" (defArgs sTOut) (defBody sTOut) (defScope sTOut) .none kV17 dc17 pm17 an17 cd17 ct17), sl17⟩)
    (c17 : PySem.W.codeIn K cd17 "Store.take_out" = true)
    (k17 : PySem.W.keepIn K (.ref f17) = true)
    (a18 : PySem.W.findIn K (.ref S) "free_cells" = some (some (.ref f18)))
    (i18 : PySem.W.isFn K (.ref f18) = true)
    (l18 : K.lookup f18 = some ⟨oc18, od18, .func (PySem.W.fnOf "free_cells" "Store.free_cells" (defArgs sFreeC) (defBody sFreeC) (defScope sFreeC) .none kV18 dc18 pm18 an18 cd18 ct18), sl18⟩)
    (c18 : PySem.W.codeIn K cd18 "Store.free_cells" = true)
    (k18 : PySem.W.keepIn K (.ref f18) = true)
    (a19 : PySem.W.findIn K (.ref S) "waiting" = some (some (.ref f19)))
    (i19 : PySem.W.isFn K (.ref f19) = true)
    (l19 : K.lookup f19 = some ⟨oc19, od19, .func (PySem.W.fnOf "waiting" "Store.waiting" (defArgs sWait) (defBody sWait) (defScope sWait) .none kV19 dc19 pm19 an19 cd19 ct19), sl19⟩)
    (c19 : PySem.W.codeIn K cd19 "Store.waiting" = true)
    (k19 : PySem.W.keepIn K (.ref f19) = true)
    (pgC : PySem.W.plainGet K C Str.empty = true)
    (hdC : PySem.W.hasDictIn K C = true)
    (poC : PySem.W.plainOver K C = true)
    (saC : PySem.W.findIn K (.ref C) "__setattr__" = some (some (.builtin "object.__setattr__")))
    (mkC : PySem.W.makesIn K C = true)
    (kcC : PySem.W.keepIn K (.ref C) = true)
    (pgS : PySem.W.plainGet K S Str.empty = true)
    (hdS : PySem.W.hasDictIn K S = true)
    (poS : PySem.W.plainOver K S = true)
    (saS : PySem.W.findIn K (.ref S) "__setattr__" = some (some (.builtin "object.__setattr__")))
    (mkS : PySem.W.makesIn K S = true)
    (kcS : PySem.W.keepIn K (.ref S) = true)
    (CnT : PySem.W.findIn K (.ref C) "threads" = some none)
    (CnW : PySem.W.findIn K (.ref C) "words" = some none)
    (CnR : PySem.W.findIn K (.ref C) "records" = some none)
    (SnL : PySem.W.findIn K (.ref S) "layout" = some none)
    (SnT : PySem.W.findIn K (.ref S) "thread" = some none)
    (SnF : PySem.W.findIn K (.ref S) "_free" = some none)
    (SnW : PySem.W.findIn K (.ref S) "_waiting" = some none)
    (SnO : PySem.W.findIn K (.ref S) "_out" = some none)
    (hn : PySem.W.specialIn K (.builtin "object.__class__") "__get__" = some (some (.builtin "getset_descriptor.__get__")))
    (ht : PySem.W.takesIn K (.builtin "object.__class__") = some true)
    (xN : PySem.W.excIn K NV bmVE "ValueError.__new__" = true)
    (kN : PySem.W.keepIn K (.ref NV) = true)
    (sN : PySem.W.subIn K (.ref NV) (.type "BaseException") = some true)
    (tN : PySem.W.typeIn K (.ref NV) = some (.type "type"))
    (sL : PySem.W.subIn K (.ref LE) (.type "BaseException") = some true)
    (dL : PySem.W.hasDictIn K LE = true)
    (tL : PySem.W.typeIn K (.ref LE) = some (.type "type"))
    (sNL : PySem.W.subIn K (.ref NV) (.ref LE) = some true)
    (Ng : PySem.W.findIn K (.ref NV) "__getattribute__" = some (some (.builtin "BaseException.__getattribute__")))
    (Nk : PySem.W.findIn K (.ref NV) "__getattr__" = some none)
    (Nd : PySem.W.hasDictIn K NV = true)
    (Na : PySem.W.findIn K (.ref NV) "__class__" = some (some (.builtin "object.__class__")))
    (Nm : PySem.W.mroIn K NV (.type "object") = some true)
    (z_isinstance : PySem.W.nsIn K mainGlobals "isinstance" = some none)
    (z_int : PySem.W.nsIn K mainGlobals "int" = some none)
    (z_bool : PySem.W.nsIn K mainGlobals "bool" = some none)
    (z_str : PySem.W.nsIn K mainGlobals "str" = some none)
    (z_tuple : PySem.W.nsIn K mainGlobals "tuple" = some none)
    (z_list : PySem.W.nsIn K mainGlobals "list" = some none)
    (z_range : PySem.W.nsIn K mainGlobals "range" = some none)
    (z_len : PySem.W.nsIn K mainGlobals "len" = some none)
    (z_abs : PySem.W.nsIn K mainGlobals "abs" = some none)
    (z_max : PySem.W.nsIn K mainGlobals "max" = some none)
    (z_min : PySem.W.nsIn K mainGlobals "min" = some none)
    (z_sorted : PySem.W.nsIn K mainGlobals "sorted" = some none)
    : ∃ fd : FuncData, (∀ (s : Shared) (v : Value), BindsTo s fd ⟨[v], []⟩ [("script", v)]) ∧ ∀ base : Heap, K.In base → base.Ns mainGlobals mg → FnOk l.prog w K mg base CX0 7 fa fd ["script"] (spLaw K) := by
  have e := hfa.symm.trans (PySem.W.mg_of X G a8)
  cases e
  have F1 := fun_mk (st := sWhole) l1 c1 k1
  have b1 := F1.binds (ps := ["value"]) fun _ _ _ _ _ _ us hl => match us, hl with | [_], _ => rfl
  have T_is_whole : GT K mg "is_whole" sWhole ["value"] := ⟨_, _, F1, PySem.W.mg_of X G a1, b1⟩
  have F2 := fun_mk (st := sWithin) l2 c2 k2
  have b2 := F2.binds (ps := ["value", "low", "high"]) fun _ _ _ _ _ _ us hl => match us, hl with | [_, _, _], _ => rfl
  have T_is_within : GT K mg "is_within" sWithin ["value", "low", "high"] := ⟨_, _, F2, PySem.W.mg_of X G a2, b2⟩
  have F3 := fun_mk (st := sDivided) l3 c3 k3
  have b3 := F3.binds (ps := ["layout", "cells", "thread"]) fun _ _ _ _ _ _ us hl => match us, hl with | [_, _, _], _ => rfl
  have T_divided : GT K mg "divided" sDivided ["layout", "cells", "thread"] := ⟨_, _, F3, PySem.W.mg_of X G a3, b3⟩
  have F4 := fun_mk (st := sTape) l4 c4 k4
  have b4 := F4.binds (ps := ["script"]) fun _ _ _ _ _ _ us hl => match us, hl with | [_], _ => rfl
  have T__law_tape : GT K mg "_law_tape" sTape ["script"] := ⟨_, _, F4, PySem.W.mg_of X G a4, b4⟩
  have F5 := fun_mk (st := sAt) l5 c5 k5
  have b5 := F5.binds (ps := ["tape", "k"]) fun _ _ _ _ _ _ us hl => match us, hl with | [_, _], _ => rfl
  have T__law_at : GT K mg "_law_at" sAt ["tape", "k"] := ⟨_, _, F5, PySem.W.mg_of X G a5, b5⟩
  have F6 := fun_mk (st := sSame) l6 c6 k6
  have b6 := F6.binds (ps := ["store", "cells", "out"]) fun _ _ _ _ _ _ us hl => match us, hl with | [_, _, _], _ => rfl
  have T__law_same : GT K mg "_law_same" sSame ["store", "cells", "out"] := ⟨_, _, F6, PySem.W.mg_of X G a6, b6⟩
  have F7 := fun_mk (st := sDivd) l7 c7 k7
  have b7 := F7.binds (ps := ["layout", "cells", "threads"]) fun _ _ _ _ _ _ us hl => match us, hl with | [_, _, _], _ => rfl
  have T__law_divided : GT K mg "_law_divided" sDivd ["layout", "cells", "threads"] := ⟨_, _, F7, PySem.W.mg_of X G a7, b7⟩
  have F8 := fun_mk (st := sLaw) l8 c8 k8
  have F9 := fun_mk (st := sLInit) l9 c9 k9
  have b9 := F9.binds (ps := ["self", "threads", "words", "records"]) fun _ _ _ _ _ _ us hl => match us, hl with | [_, _, _, _], _ => rfl
  have Mk_Layout : Mk K C f9 := ⟨mkC, a9, i9, kcC⟩
  have FI_Layout := F9
  have bI_Layout := b9
  have F10 := fun_mk (st := sESlot) l10 c10 k10
  have b10 := F10.binds (ps := ["self", "thread"]) fun _ _ _ _ _ _ us hl => match us, hl with | [_, _], _ => rfl
  have T_Layout_epoch_slot : MT K C "epoch_slot" "Layout.epoch_slot" sESlot ["self", "thread"] := ⟨_, _, F10, ⟨a10, i10, k10⟩, b10⟩
  have F11 := fun_mk (st := sCSlot) l11 c11 k11
  have b11 := F11.binds (ps := ["self", "thread"]) fun _ _ _ _ _ _ us hl => match us, hl with | [_, _], _ => rfl
  have T_Layout_call_slot : MT K C "call_slot" "Layout.call_slot" sCSlot ["self", "thread"] := ⟨_, _, F11, ⟨a11, i11, k11⟩, b11⟩
  have F12 := fun_mk (st := sWord) l12 c12 k12
  have b12 := F12.binds (ps := ["self", "index"]) fun _ _ _ _ _ _ us hl => match us, hl with | [_, _], _ => rfl
  have T_Layout_word : MT K C "word" "Layout.word" sWord ["self", "index"] := ⟨_, _, F12, ⟨a12, i12, k12⟩, b12⟩
  have F13 := fun_mk (st := sRecord) l13 c13 k13
  have b13 := F13.binds (ps := ["self", "index"]) fun _ _ _ _ _ _ us hl => match us, hl with | [_, _], _ => rfl
  have T_Layout_record : MT K C "record" "Layout.record" sRecord ["self", "index"] := ⟨_, _, F13, ⟨a13, i13, k13⟩, b13⟩
  have F14 := fun_mk (st := sSInit) l14 c14 k14
  have b14 := F14.binds (ps := ["self", "layout", "thread", "cells"]) fun _ _ _ _ _ _ us hl => match us, hl with | [_, _, _, _], _ => rfl
  have Mk_Store : Mk K S f14 := ⟨mkS, a14, i14, kcS⟩
  have FI_Store := F14
  have bI_Store := b14
  have F15 := fun_mk (st := sTake) l15 c15 k15
  have b15 := F15.binds (ps := ["self", "many"]) fun _ _ _ _ _ _ us hl => match us, hl with | [_, _], _ => rfl
  have T_Store_take : MT K S "take" "Store.take" sTake ["self", "many"] := ⟨_, _, F15, ⟨a15, i15, k15⟩, b15⟩
  have F16 := fun_mk (st := sGiveB) l16 c16 k16
  have b16 := F16.binds (ps := ["self", "cells"]) fun _ _ _ _ _ _ us hl => match us, hl with | [_, _], _ => rfl
  have T_Store_give_back : MT K S "give_back" "Store.give_back" sGiveB ["self", "cells"] := ⟨_, _, F16, ⟨a16, i16, k16⟩, b16⟩
  have F17 := fun_mk (st := sTOut) l17 c17 k17
  have b17 := F17.binds (ps := ["self", "cells"]) fun _ _ _ _ _ _ us hl => match us, hl with | [_, _], _ => rfl
  have T_Store_take_out : MT K S "take_out" "Store.take_out" sTOut ["self", "cells"] := ⟨_, _, F17, ⟨a17, i17, k17⟩, b17⟩
  have F18 := fun_mk (st := sFreeC) l18 c18 k18
  have b18 := F18.binds (ps := ["self"]) fun _ _ _ _ _ _ us hl => match us, hl with | [_], _ => rfl
  have T_Store_free_cells : MT K S "free_cells" "Store.free_cells" sFreeC ["self"] := ⟨_, _, F18, ⟨a18, i18, k18⟩, b18⟩
  have F19 := fun_mk (st := sWait) l19 c19 k19
  have b19 := F19.binds (ps := ["self"]) fun _ _ _ _ _ _ us hl => match us, hl with | [_], _ => rfl
  have T_Store_waiting : MT K S "waiting" "Store.waiting" sWait ["self"] := ⟨_, _, F19, ⟨a19, i19, k19⟩, b19⟩
  have Bn0 : Bn mg := ⟨PySem.W.mg_none_of X G z_isinstance, PySem.W.mg_none_of X G z_int, PySem.W.mg_none_of X G z_bool, PySem.W.mg_none_of X G z_str, PySem.W.mg_none_of X G z_tuple, PySem.W.mg_none_of X G z_list, PySem.W.mg_none_of X G z_range, PySem.W.mg_none_of X G z_len, PySem.W.mg_none_of X G z_abs⟩
  have T : LTxt K mg C := ⟨Bn0, ⟨pgC, hdC, poC, saC⟩, CnT, CnW, CnR⟩
  have TS : STxt K mg S := ⟨⟨pgS, hdS, poS, saS⟩, SnL, SnT, SnF, SnW, SnO, (PySem.W.mg_none_of X G z_sorted), (PySem.W.mg_none_of X G z_max), (PySem.W.mg_none_of X G z_len), (PySem.W.mg_none_of X G z_list)⟩
  have X0 : XTxt K mg NV LE := ⟨PySem.W.mg_of X G gNV, PySem.W.mg_of X G gLE, xN, kN, sN, tN, PySem.W.exm_ref sL dL tL sNL, ⟨Ng, Nk, sN, Nd, Na, hn, ht, Nm⟩, kit_self⟩
  refine ⟨PySem.W.fnOf "law" "law" (defArgs sLaw) (defBody sLaw) (defScope sLaw) .none kV8 dc8 pm8 an8 cd8 ct8, fun s v => .of_eq rfl, fun base _ _ => ?_⟩
  have Gwh := go_whole (P := l.prog) (w := w) (base := base) T_is_whole Bn0
  have Gwi := go_within T_is_within Gwh
  have Ges := mo_eslot (P := l.prog) (w := w) (mg := mg) (base := base) T_Layout_epoch_slot
  have Gcs := mo_cslot T_Layout_call_slot T Ges
  have Gwo := mo_word T_Layout_word T Gcs
  have Gre := mo_record T_Layout_record T Gwo
  have Gli := ok_linit FI_Layout T X0 Gwi
  have Gsi := ok_sinit (P := l.prog) (w := w) (base := base) FI_Store TS
  have Gtk := mo_take (P := l.prog) (w := w) (base := base) T_Store_take TS
  have Ggb := mo_giveB (P := l.prog) (w := w) (base := base) T_Store_give_back TS
  have Gto := mo_tout (P := l.prog) (w := w) (base := base) T_Store_take_out TS
  have Gfc := mo_freeC (P := l.prog) (w := w) (base := base) T_Store_free_cells TS
  have Gwt := mo_wait (P := l.prog) (w := w) (base := base) T_Store_waiting TS
  have Gdv := go_divided T_divided T TS Gre
  have Gtp := go_tape (P := l.prog) (w := w) (base := base) T__law_tape Bn0
  have Gat := go_at (P := l.prog) (w := w) (base := base) T__law_at Bn0
  have Gsm := go_same T__law_same Bn0 TS Gfc Gwt
  have Gdd := go_divd T__law_divided Bn0 T TS Gre Gdv
  exact ok_law F8 Bn0 T TS (PySem.W.mg_none_of X G z_min) (PySem.W.mg_of X G gC) Mk_Layout Gli bI_Layout (PySem.W.mg_of X G gS) Mk_Store Gsi bI_Store Gre Gtk Ggb Gto Gdv Gdd Gtp Gat Gsm
theorem walk {l : PySem.W.OpenLaw} {q : Program} {loose : List Str} {XP : (Str → Option Value) → Heap → Prop} {YP : World → Heap → Prop} {d : DefRec} {K : Params → PySem.W.Frag} (hn : l.most = some 63) (hdf : d.params.defaults = [])
    (hY : ∀ (w : World) (h : Heap), YP w h → (K w.params).In h)
    (F : ∀ (w : World) (mg : Str → Option Value) (fa : Addr) (h : Heap), (K w.params).In h → h.Ns mainGlobals mg → mg d.name = some (.ref fa) →
      ∃ fd : FuncData, (∀ (s : Shared) (u : Value), BindsTo s fd ⟨[u], []⟩ [("script", u)]) ∧ ∀ base : Heap, (K w.params).In base → base.Ns mainGlobals mg → FnOk l.prog w (K w.params) mg base CX0 7 fa fd ["script"] (spLaw (K w.params))) :
    PySem.W.WalkO q loose XP YP l.row.toRowW d [] (fun f vs => PySem.call f vs) :=
  L2.walk_of (n := 63) (k := 7) (x := "script") (CX := fun _ => CX0) (sp := fun w => spLaw (K w.params)) hn (by decide) hdf ⟨rfl, by decide, by decide⟩ hY F (fun _ _ a ns hl _ hS => ⟨a, ns, rfl, hS, hl, fun _ => rfl⟩) fun _ _ _ _ _ z => z
end Dk
open PySem PySem.W PyProof.Rows
set_option maxRecDepth 100000 in
set_option maxHeartbeats 0 in
theorem PySem.Challenge.cw_driftkept_k07_stores_holds : PySem.Challenge.rw_driftkept_k07_stores.Holds := by
  w_on; o_law; k_head; (case hw => w_witness2)
  k_fill
  refine Dk.walk (l := PySem.Challenge.rw_driftkept_k07_stores) rfl rfl (fun w h Y => PySem.W.kIn_of Y) ?F
  case F =>
    intro w mg fa h KX G hmg
    refine' Dk.all_mk KX G hmg ?gC ?gS ?gNV ?gLE ?a1 ?l1 ?c1 ?k1 ?a2 ?l2 ?c2 ?k2 ?a3 ?l3 ?c3 ?k3 ?a4 ?l4 ?c4 ?k4 ?a5 ?l5 ?c5 ?k5 ?a6 ?l6 ?c6 ?k6 ?a7 ?l7 ?c7 ?k7 ?a8 ?l8 ?c8 ?k8 ?a9 ?i9 ?l9 ?c9 ?k9 ?a10 ?i10 ?l10 ?c10 ?k10 ?a11 ?i11 ?l11 ?c11 ?k11 ?a12 ?i12 ?l12 ?c12 ?k12 ?a13 ?i13 ?l13 ?c13 ?k13 ?a14 ?i14 ?l14 ?c14 ?k14 ?a15 ?i15 ?l15 ?c15 ?k15 ?a16 ?i16 ?l16 ?c16 ?k16 ?a17 ?i17 ?l17 ?c17 ?k17 ?a18 ?i18 ?l18 ?c18 ?k18 ?a19 ?i19 ?l19 ?c19 ?k19 ?pgC ?hdC ?poC ?saC ?mkC ?kcC ?pgS ?hdS ?poS ?saS ?mkS ?kcS ?CnT ?CnW ?CnR ?SnL ?SnT ?SnF ?SnW ?SnO ?hn ?ht ?xN ?kN ?sN ?tN ?sL ?dL ?tL ?sNL ?Ng ?Nk ?Nd ?Na ?Nm ?z_isinstance ?z_int ?z_bool ?z_str ?z_tuple ?z_list ?z_range ?z_len ?z_abs ?z_max ?z_min ?z_sorted
    (case gC => k_is)
    (case gS => k_is)
    (case gNV => k_is)
    (case gLE => k_is)
    (case a1 => k_is)
    (case l1 => k_is)
    (case c1 => k_is)
    (case k1 => k_is)
    (case a2 => k_is)
    (case l2 => k_is)
    (case c2 => k_is)
    (case k2 => k_is)
    (case a3 => k_is)
    (case l3 => k_is)
    (case c3 => k_is)
    (case k3 => k_is)
    (case a4 => k_is)
    (case l4 => k_is)
    (case c4 => k_is)
    (case k4 => k_is)
    (case a5 => k_is)
    (case l5 => k_is)
    (case c5 => k_is)
    (case k5 => k_is)
    (case a6 => k_is)
    (case l6 => k_is)
    (case c6 => k_is)
    (case k6 => k_is)
    (case a7 => k_is)
    (case l7 => k_is)
    (case c7 => k_is)
    (case k7 => k_is)
    (case a8 => k_is)
    (case l8 => k_is)
    (case c8 => k_is)
    (case k8 => k_is)
    (case a9 => k_is)
    (case i9 => k_is)
    (case l9 => k_is)
    (case c9 => k_is)
    (case k9 => k_is)
    (case a10 => k_is)
    (case i10 => k_is)
    (case l10 => k_is)
    (case c10 => k_is)
    (case k10 => k_is)
    (case a11 => k_is)
    (case i11 => k_is)
    (case l11 => k_is)
    (case c11 => k_is)
    (case k11 => k_is)
    (case a12 => k_is)
    (case i12 => k_is)
    (case l12 => k_is)
    (case c12 => k_is)
    (case k12 => k_is)
    (case a13 => k_is)
    (case i13 => k_is)
    (case l13 => k_is)
    (case c13 => k_is)
    (case k13 => k_is)
    (case a14 => k_is)
    (case i14 => k_is)
    (case l14 => k_is)
    (case c14 => k_is)
    (case k14 => k_is)
    (case a15 => k_is)
    (case i15 => k_is)
    (case l15 => k_is)
    (case c15 => k_is)
    (case k15 => k_is)
    (case a16 => k_is)
    (case i16 => k_is)
    (case l16 => k_is)
    (case c16 => k_is)
    (case k16 => k_is)
    (case a17 => k_is)
    (case i17 => k_is)
    (case l17 => k_is)
    (case c17 => k_is)
    (case k17 => k_is)
    (case a18 => k_is)
    (case i18 => k_is)
    (case l18 => k_is)
    (case c18 => k_is)
    (case k18 => k_is)
    (case a19 => k_is)
    (case i19 => k_is)
    (case l19 => k_is)
    (case c19 => k_is)
    (case k19 => k_is)
    (case pgC => k_is)
    (case hdC => k_is)
    (case poC => k_is)
    (case saC => k_is)
    (case mkC => k_is)
    (case kcC => k_is)
    (case pgS => k_is)
    (case hdS => k_is)
    (case poS => k_is)
    (case saS => k_is)
    (case mkS => k_is)
    (case kcS => k_is)
    (case CnT => k_is)
    (case CnW => k_is)
    (case CnR => k_is)
    (case SnL => k_is)
    (case SnT => k_is)
    (case SnF => k_is)
    (case SnW => k_is)
    (case SnO => k_is)
    (case hn => k_is)
    (case ht => k_is)
    (case xN => k_exc)
    (case kN => k_is)
    (case sN => k_is)
    (case tN => k_is)
    (case sL => k_is)
    (case dL => k_is)
    (case tL => k_is)
    (case sNL => k_is)
    (case Ng => k_is)
    (case Nk => k_is)
    (case Nd => k_is)
    (case Na => k_is)
    (case Nm => k_is)
    (case z_isinstance => k_is)
    (case z_int => k_is)
    (case z_bool => k_is)
    (case z_str => k_is)
    (case z_tuple => k_is)
    (case z_list => k_is)
    (case z_range => k_is)
    (case z_len => k_is)
    (case z_abs => k_is)
    (case z_max => k_is)
    (case z_min => k_is)
    (case z_sorted => k_is)

