import PyProof.Rows.All
import Wide.All
import OpenK.AllK
import Wide.FinOn
import HandS.ForMost
import HandS.ForExc
import HandS.IsInst
import HandS.ExcIs
import HandS.DictComp
import HandS.Style
import HandS.Walk
import HandS.SortInts
import HandS.Star
import HandS.More
import HandS.ClsMeth
import HandS.Codes
import HandS.Zip
import PySem.Challenge.RW_driftkept_k01_layouts
set_option Elab.async false
set_option linter.all false
set_option maxRecDepth 100000
set_option maxHeartbeats 4000000
/-! general rules -/
namespace Dk
open PySem PySem.Spec PyProof.Rows L2
/-- a def of the top keeps a promise -/
def GO (P : Program) (w : World) (K : PySem.W.Frag) (mg : Str → Option Value) (base : Heap) (CX : CXT) (k : Nat) (x : Str) (ps : List Str) (sp : Sp) : Prop :=
  ∃ f fd, FnOk P w K mg base CX k f fd ps sp ∧ mg x = some (.ref f) ∧ PySem.W.keepIn K (.ref f) = true ∧ Binds K fd ps []
def MO (P : Program) (w : World) (K : PySem.W.Frag) (mg : Str → Option Value) (base : Heap) (CX : CXT) (C : Addr) (k : Nat) (m : Str) (ps : List Str) (sp : Sp) : Prop :=
  ∃ f fd, FnOk P w K mg base CX k f fd ps sp ∧ Meth K C m f ∧ Binds K fd ps []
/-- where a def of the top, a method stands -/
def GT (K : PySem.W.Frag) (mg : Str → Option Value) (x : Str) (st : Stmt) (ps : List Str) : Prop := ∃ f fd, Fun K x x st f fd ∧ mg x = some (.ref f) ∧ Binds K fd ps []
def MT (K : PySem.W.Frag) (C : Addr) (m qual : Str) (st : Stmt) (ps : List Str) : Prop := ∃ f fd, Fun K m qual st f fd ∧ Meth K C m f ∧ Binds K fd ps []
section
variable {X : Cx} {CX : CXT} {k : Nat} {f C : Addr} {fd : FuncData} {ps : List Str} {sp : Sp} {x m : Str} {p pos apos : Pos} {e o : Expr} {es : List Expr} {ta : TE} {t : TA}
theorem pc_ (G : GO X.prog X.w X.K X.mg X.base CX0 k x ps sp) (hr : Room k X.A) (ha : PA X (e :: es) t) (hg : Gl X x := by rfl) (hdb : (x == ("__debug__" : Str)) = false := by decide)
    (he : starEach (e :: es) X.env = (false, eval e X.env) :: starEach es X.env := by rfl) (hpl : (backTo pos (starEach es X.env)).any (·.1) = false := by rfl) : PE X (.Call (.Name x p) (e :: es) [] pos) (tCall sp [] E0 t) := by
  obtain ⟨f, fd, F, hm, hk, hb⟩ := G
  exact pe_call F hr hg hm hk hb .nil pass0 ha hdb he hpl
theorem pm_ {pl : Sem Bool} (G : MO X.prog X.w X.K X.mg X.base CX0 C k m ps sp) (c : Cls X.K C) (hr : Room k X.A) (he : PE X o ta) (ha : PA X (e :: es) t)
    (hst : starEach (e :: es) X.env = (false, eval e X.env) :: starEach es X.env := by rfl) (hpl : (backTo pos (starEach es X.env)).any (·.1) = false := by rfl)
    (ht : eval (.Call (.Attribute o m apos) (e :: es) [] pos) X.env = (do
      let ov ← eval o X.env
      standAt apos.atName
      let (f, first) ← holding [ov] (getMethod ov m pl)
      callWith pos f first (backTo pos (starEach (e :: es) X.env)) (backToKw pos (keywordEach [] X.env))) := by rfl) : PE X (.Call (.Attribute o m apos) (e :: es) [] pos) (tMeth C m sp [] E0 ta t) := by
  obtain ⟨f, fd, F, hm, hb⟩ := G
  exact pe_meth he c hm F hr hb .nil pass0 ha hst hpl ht
theorem pm0_ {pl : Sem Bool} (G : MO X.prog X.w X.K X.mg X.base CX0 C k m ps sp) (c : Cls X.K C) (hr : Room k X.A) (he : PE X o ta)
    (ht : eval (.Call (.Attribute o m apos) [] [] pos) X.env = (do
      let ov ← eval o X.env
      standAt apos.atName
      let (f, first) ← holding [ov] (getMethod ov m pl)
      callWith pos f first (backTo pos (starEach [] X.env)) (backToKw pos (keywordEach [] X.env))) := by rfl) : PE X (.Call (.Attribute o m apos) [] [] pos) (tMeth C m sp [] E0 ta tNil) := by
  obtain ⟨f, fd, F, hm, hb⟩ := G
  exact pe_meth0 he c hm F hr hb .nil pass0 ht
/-- a method that may raise, called at the slots -/
def tMethE (C : Addr) (m : Str) (sp : Sp) (E : L2.St → XK) (ta : TE) (t : TA) : TE := fun σ H Q => ta σ H fun x H1 => ∃ a dx fs, x = .ref a ∧ H1 a = some (.ins C dx fs) ∧ fs.lookup m = none ∧
  t σ H1 fun vs H2 => sp (x :: vs) H2 Q (E σ)
theorem pmE_ {pl : Sem Bool} {E : L2.St → XK} (G : MO X.prog X.w X.K X.mg X.base CX C k m ps sp) (c : Cls X.K C) (hr : Room k X.A) (hx : ∀ σ, PassesAt CX X σ (E σ)) (he : PE X o ta) (ha : PA X (e :: es) t)
    (hst : starEach (e :: es) X.env = (false, eval e X.env) :: starEach es X.env := by rfl) (hpl : (backTo pos (starEach es X.env)).any (·.1) = false := by rfl)
    (ht : eval (.Call (.Attribute o m apos) (e :: es) [] pos) X.env = (do
      let ov ← eval o X.env
      standAt apos.atName
      let (f, first) ← holding [ov] (getMethod ov m pl)
      callWith pos f first (backTo pos (starEach (e :: es) X.env)) (backToKw pos (keywordEach [] X.env))) := by rfl) : PE X (.Call (.Attribute o m apos) (e :: es) [] pos) (tMethE C m sp E ta t) := by
  obtain ⟨f, fd, F, hm, hb⟩ := G
  refine ⟨fun pins s σ H Q I h => ?_⟩
  refine PySem.W.methodCall_KW (pl := pl) (thn (he.run pins s σ H _ I h) fun u s1 ⟨x, H1, I1, rx, a, dx, fs, ex, ea, l, q⟩ => ?_) ht
  subst ex
  obtain rfl : u = Value.ref a := rx
  refine getmeth_ok I1 ea c hm l ?_
  refine PySem.W.callWith_K (first := [.ref a]) (h₀ := X.base) I.ok.mod.kin hm.kp (thn (ha.run pos pins s1 σ H1 _ I1 q) fun us s2 ⟨vs, H2, I2, r, q2⟩ => ⟨I2.kIn, ?_⟩) hst hpl
  exact run_fnS (us := .ref a :: us) (vs := .ref a :: vs) F hr hb (hx σ) I2 (.cons rfl r) q2
/-- C(e, ..) where __init__ may raise, at the slots -/
def tMakeE (C : Addr) (sp : Sp) (E : L2.St → XK) (t : TA) : TE := fun σ H Q => t σ H fun vs H1 => ∀ x dx, H1 x = none → H1 dx = none → dx ≠ x →
  sp (.ref x :: vs) (upd (upd H1 dx (.own x)) x (.ins C dx [])) (fun v H2 => v = .non ∧ Q (.ref x) H2) (fun cls d H2 => E σ cls d H2)
theorem run_makeE {pins : List (Addr × Obj)} {σ : L2.St} {H : Hp} {s : Shared} {Q : VK} {E : XK} {us : List Value} {vs : List V} (M : Mk X.K C f) (F : FnOk X.prog X.w X.K X.mg X.base CX k f fd ps sp) (hr : Room (k + 1) X.A) (hb : Binds X.K fd ps [])
    (hx : PassesAt CX X σ E) (I : Inv X pins σ H s) (r : Vals vs us)
    (h : ∀ x dx, H x = none → H dx = none → dx ≠ x → sp (.ref x :: vs) (upd (upd H dx (.own x)) x (.ins C dx [])) (fun v H2 => v = .non ∧ Q (.ref x) H2) E) :
    wpAny (model X.prog X.w) X.A (call (.ref C) us) (EP X pins σ Q) X.xe s := by
  have hq := h (s.heap.objs.size + 1) s.heap.objs.size (I.hok.fresh (Nat.le_succ _)) (I.hok.fresh (Nat.le_refl _)) (Nat.ne_of_lt (Nat.lt_succ_self _))
  have I2 := Inv.made (C := C) I
  have r2 : Vals (V.ref (s.heap.objs.size + 1) :: vs) (Value.ref (s.heap.objs.size + 1) :: us) := .cons rfl r
  have hl : (Value.ref (s.heap.objs.size + 1) :: us ++ []).length = ps.length := by
    have e := r2.length
    rw [F.len _ _ _ _ hq] at e
    rw [List.append_nil]
    exact e.symm
  have b := hb _ (Value.ref (s.heap.objs.size + 1) :: us) I2.kIn hl
  rw [List.append_nil] at b
  refine wpAny_call (make_map (f := f) I.kIn M.makes M.init (beq_iff_eq.mp M.fn) (codeAny_mono (F.run _ X.stack _ _ ⟨Value.ref (s.heap.objs.size + 1) :: us, []⟩ (Value.ref (s.heap.objs.size + 1) :: us) _ _ E (hr.make C us [])
    (I2.env0.make C us []) b r2 hq) fun r s' hq' => ?_))
  cases r with
  | error e => exact hx pins _ _ e s' I2 hq'
  | ok fl =>
    cases fl with
    | ret u =>
      obtain ⟨v, H', I3, rv, ev, q3⟩ := I2.after hq'
      subst ev
      exact ⟨rv, ⟨V.ref (s.heap.objs.size + 1), H', I3, rfl, q3⟩⟩
    | next => exact False.elim hq'
    | brk => exact False.elim hq'
    | cont => exact False.elim hq'
theorem pe_makeE {E : L2.St → XK} (M : Mk X.K C f) (F : FnOk X.prog X.w X.K X.mg X.base CX k f fd ps sp) (hr : Room (k + 1) X.A) (hg : Gl X x) (hm : X.mg x = some (.ref C)) (hb : Binds X.K fd ps []) (hx : ∀ σ, PassesAt CX X σ (E σ))
    (ha : PA X (e :: es) t) (hdb : (x == ("__debug__" : Str)) = false := by decide) (he : starEach (e :: es) X.env = (false, eval e X.env) :: starEach es X.env := by rfl) (hpl : (backTo pos (starEach es X.env)).any (·.1) = false := by rfl) :
    PE X (.Call (.Name x p) (e :: es) [] pos) (tMakeE C sp E t) := by
  refine ⟨fun pins s σ H Q I h => ?_⟩
  refine wpAny_Call_Name_kw (ld_glob I hg hm ?_ hdb)
  refine PySem.W.callWith_K (h₀ := X.base) I.ok.mod.kin M.kp (thn (ha.run pos pins s σ H _ I h) fun us s1 ⟨vs, H1, I1, r, q⟩ => ⟨I1.kIn, ?_⟩) he hpl
  exact run_makeE M F hr hb (hx σ) I1 r q
end
section
variable {X : Cx} {C : Addr} {bmB : List Value} {B newId initId : String}
/-- X() -/
theorem pmk_own0 {x : Str} {p pos : Pos} (F : ExcBaseFacts B newId initId bmB) (q : PySem.W.excIn X.K C bmB newId = true) (gC : X.mg x = some (.ref C)) (kC : PySem.W.keepIn X.K (.ref C) = true) (r : Raises X (.ref C)) (hg : Gl X x)
    (hdb : (x == ("__debug__" : Str)) = false := by decide) : PMk X (.Call (.Name x p) [] [] pos) (fun _ H Q => Q (.ref C) none H) := by
  intro pins s σ H Q I h
  refine wpAny_Call_Name_kw (ld_glob I hg gC ?_ hdb)
  refine PySem.W.callWith_K0 I.kIn kC ?_
  show wpAny _ _ (call (.ref C) []) _ _ _
  obtain ⟨bm, N, nm, qn, bs, hdct, sn, sub, ab, col, dd, k0, k1, k2, k3, k5, mN, hC, hN, hni, T⟩ := exc_obj I.kIn q
  refine wpAny_call_exc_subT F T hC hN hni (fun h' e hm => ?_) (by show 0 ≤ sizeLine; exact Nat.zero_le _)
  exact mk_of I hm r h (I.hok.gone hm.new)
end
/-- a dict comprehension over a walk -/
theorem dc_it {J : It} {n : Nat} {G : Hp → Prop} {Y : Nat → Hp → V → Hp → Prop} (w : Walk J n G Y) {g : TG} {tt : TT} {tk tv : TE} {vs : List Nat} {σ : L2.St} {H1 : Hp} {D : Addr} {Qd : Hp → Prop} (Pv : Nat → Hp → Prop) (h0 : Pv 0 (upd H1 D (.dK []))) (hG : ∀ i H, i ≤ n → Pv i H → G H)
    (hs : ∀ i x H H', i < n → Pv i H → Y i H x H' → g x (wipe σ vs) H' fun σ2 H2 => wipe σ2 vs = wipe σ vs ∧ tt σ2 H2 fun b H3 =>
      if b = true then tk σ2 H3 fun y H4 => tv σ2 H4 fun z H5 => ∃ kvs k, y = kV k ∧ H5 D = some (.dK kvs) ∧ kvs.length < sizeLine ∧ Pv (i + 1) (upd H5 D (.dK (putK kvs k z))) else Pv (i + 1) H3) (hd : ∀ H, Pv n H → Qd H) :
    ∃ W : Nat → Nat → Hp → Prop, (∃ m, W 0 m (upd H1 D (.dK []))) ∧ ∀ i m H, W i m H →
      (J.stop i H ∧ Qd H) ∨ (J.go i H ∧ ∃ Nx : Hp → Prop, (∀ H', Nx H' → ∃ m', m' < m ∧ W (i + 1) m' H') ∧ ∀ x H', J.yld i H x H' → g x (wipe σ vs) H' fun σ2 H2 => wipe σ2 vs = wipe σ vs ∧ tt σ2 H2 fun b H3 =>
        if b = true then tk σ2 H3 fun y H4 => tv σ2 H4 fun z H5 => ∃ kvs k, y = kV k ∧ H5 D = some (.dK kvs) ∧ kvs.length < sizeLine ∧ Nx (upd H5 D (.dK (putK kvs k z))) else Nx H3) := by
  refine ⟨fun i m H => m = n - i ∧ i ≤ n ∧ Pv i H, ⟨n, by simp, Nat.zero_le _, h0⟩, ?_⟩
  rintro i m H ⟨rfl, hi, p⟩
  have q := hG i H hi p
  by_cases hlt : i < n
  · refine .inr ⟨w.goes i H hlt q, Pv (i + 1), fun H' p' => ⟨n - (i + 1), by omega, rfl, hlt, p'⟩, fun x H' y => hs i x H H' hlt p (w.yields i H x H' hlt q y)⟩
  · have e : i = n := by omega
    subst e
    exact .inl ⟨w.stops H q, hd H p⟩
end Dk

set_option maxHeartbeats 4000000
/-! values and layouts -/
namespace Dk
open PySem PySem.Spec PyProof.Rows L2
def top (i : Nat) : Stmt := PySem.Challenge.pw_driftkept_k01_layouts.main.body.getD i (.Pass ⟨0, 0, 0, 0⟩)
abbrev sWhole : Stmt := top 5
abbrev sWithin : Stmt := top 6
abbrev sLInit : Stmt := inClass (top 11) 0
abbrev sEpoch : Stmt := inClass (top 11) 1
abbrev sESlot : Stmt := inClass (top 11) 2
abbrev sCSlot : Stmt := inClass (top 11) 3
abbrev sWord : Stmt := inClass (top 11) 4
abbrev sRecord : Stmt := inClass (top 11) 5
abbrev sCells : Stmt := inClass (top 11) 6
abbrev sIsCell : Stmt := inClass (top 11) 7
abbrev sIsLast : Stmt := inClass (top 11) 8
abbrev sHasT : Stmt := inClass (top 11) 10
/-- the type of a value that is no object -/
def vty : V → Option String
  | .non => some "NoneType"
  | .bl _ => some "bool"
  | .int _ => some "int"
  | .str _ => some "str"
  | _ => none
theorem ty_of {K : PySem.W.Frag} {H : Hp} : ∀ {v : V} {t : String}, vty v = some t → TyX K H v (.type t)
  | .non, _, h => by cases h; exact .base .non
  | .bl b, _, h => by cases h; exact .base (.bl b)
  | .int i, _, h => by cases h; exact .base (.int i)
  | .str x, _, h => by cases h; exact .base (.str x)
def isI : V → Bool
  | .int _ => true
  | _ => false
/-- an integer within lo .. hi -/
def inW (lo hi : Int) : V → Bool
  | .int i => decide (lo ≤ i) && decide (i ≤ hi)
  | _ => false
theorem inW_int {lo hi i : Int} : inW lo hi (.int i) = true ↔ lo ≤ i ∧ i ≤ hi := by
  show (decide (lo ≤ i) && decide (i ≤ hi)) = true ↔ _
  simp
/-- the built-in names as they are -/
structure Bn (mg : Str → Option Value) : Prop where
  isi : mg "isinstance" = none
  int : mg "int" = none
  bool : mg "bool" = none
  str : mg "str" = none
  tuple : mg "tuple" = none
  list : mg "list" = none
  range : mg "range" = none
  len : mg "len" = none
  abs : mg "abs" = none
def lf (t w r : Int) : List (Str × V) := [("threads", .int t), ("words", .int w), ("records", .int r)]
/-- a layout stands at a -/
def LayAt (C : Addr) (H : Hp) (a : Addr) (t w r : Int) : Prop := ∃ dx, H a = some (.ins C dx (lf t w r))
structure LTxt (K : PySem.W.Frag) (mg : Str → Option Value) (C : Addr) : Prop where
  bn : Bn mg
  cl : Cls K C
  nT : NoAttr K C "threads"
  nW : NoAttr K C "words"
  nR : NoAttr K C "records"
def spWhole : Sp := fun vs H Q _ => ∃ v t, vs = [v] ∧ vty v = some t ∧ Q (.bl (isI v)) H
def spWithin : Sp := fun vs H Q _ => ∃ v t lo hi, vs = [v, .int lo, .int hi] ∧ vty v = some t ∧ Q (.bl (inW lo hi v)) H
def spL0 (C : Addr) (g : Int → Int → Int → V) : Sp := fun vs H Q _ => ∃ a t w r, vs = [.ref a] ∧ LayAt C H a t w r ∧ Q (g t w r) H
def spL1 (C : Addr) (g : Int → Int → Int → Int → V) : Sp := fun vs H Q _ => ∃ a t w r i, vs = [.ref a, .int i] ∧ LayAt C H a t w r ∧ Q (g t w r i) H
def spLV (C : Addr) (g : Int → Int → Int → V → V) : Sp := fun vs H Q _ => ∃ a t w r v ty, vs = [.ref a, v] ∧ vty v = some ty ∧ LayAt C H a t w r ∧ Q (g t w r v) H
/-- the cells -/
def cells (t w r : Int) : Int := 1 + t + t + w + r
def first (t : Int) : Int := 1 + t
def rec0 (t w : Int) : Int := 1 + t + t + w
def geB (x : Int) : V → Bool
  | .int i => decide (x ≤ i)
  | _ => false
def lastB (t w r : Int) (v : V) : Bool := inW 0 (cells t w r - 1) v && geB (first t + 0) v
def recB (t w r : Int) (v : V) : Bool := inW 0 (cells t w r - 1) v && geB (rec0 t w + 0) v
section
variable {P : Program} {w : World} {K : PySem.W.Frag} {mg : Str → Option Value} {base : Heap} {C : Addr}
theorem scWhole : FnScope ["value"] ["value"] (defScope sWhole) := ⟨rfl, rfl, rfl, by decide +kernel, rfl, by decide +kernel, by decide +kernel⟩
theorem go_whole (F : GT K mg "is_whole" sWhole ["value"]) (T : Bn mg) : GO P w K mg base CX0 1 "is_whole" ["value"] spWhole := by
  obtain ⟨f, fd, F, hm, hb⟩ := F
  refine ⟨f, fd, ?_, hm, F.kp, hb⟩
  refine F.ok scWhole (fun vs H Q E h => ?_) (fun cdv A outer s H vs Q E hr h => ?_)
  · obtain ⟨v, t, rfl, _⟩ := h
    rfl
  · obtain ⟨v, t, rfl, ht, k⟩ := h
    refine ⟨_, pss_one (ps_ret (pe_and (pe_callB call_isi (by rfl) T.isi (by decide +kernel) (pa_cons (pv 0) (pa_cons (pe_bltn (v := .ty "int") (by rfl) T.int (by decide +kernel) rfl) pa_nil)))
      (pe_one (pe_not (pe_callB call_isi (by rfl) T.isi (by decide +kernel) (pa_cons (pv 0) (pa_cons (pe_bltn (v := .ty "bool") (by rfl) T.bool (by decide +kernel) rfl) pa_nil))))))), ?_⟩
    have ty := ty_of (K := K) (H := H) ht
    cases v <;> cases ht
    · exact ⟨_, rfl, _, _, _, _, false, rfl, .ty "int", ty, kit_ty (by decide +kernel), false, rfl, k⟩
    · refine ⟨_, rfl, _, _, _, _, true, rfl, .ty "int", ty, kit_ty (by decide +kernel), true, rfl, ?_⟩
      exact iteT ⟨_, rfl, _, _, _, _, true, rfl, .ty "bool", ty, kit_ty (by decide +kernel), true, rfl, k⟩
    · refine ⟨_, rfl, _, _, _, _, true, rfl, .ty "int", ty, kit_ty (by decide +kernel), true, rfl, ?_⟩
      exact iteT ⟨_, rfl, _, _, _, _, false, rfl, .ty "bool", ty, kit_ty (by decide +kernel), false, rfl, k⟩
    · exact ⟨_, rfl, _, _, _, _, false, rfl, .ty "int", ty, kit_ty (by decide +kernel), false, rfl, k⟩
theorem scWithin : FnScope ["value", "low", "high"] ["value", "low", "high"] (defScope sWithin) := ⟨rfl, rfl, rfl, by decide +kernel, rfl, by decide +kernel, by decide +kernel⟩
theorem go_within (F : GT K mg "is_within" sWithin ["value", "low", "high"]) (G : GO P w K mg base CX0 1 "is_whole" ["value"] spWhole) : GO P w K mg base CX0 2 "is_within" ["value", "low", "high"] spWithin := by
  obtain ⟨f, fd, F, hm, hb⟩ := F
  refine ⟨f, fd, ?_, hm, F.kp, hb⟩
  refine F.ok scWithin (fun vs H Q E h => ?_) (fun cdv A outer s H vs Q E hr h => ?_)
  · obtain ⟨v, t, lo, hi, rfl, _⟩ := h
    rfl
  · obtain ⟨v, t, lo, hi, rfl, ht, k⟩ := h
    refine ⟨_, pss_one (ps_ret (pe_and (pc_ G hr (pa_cons (pv 0) pa_nil)) (pe_one (pe_chain op_le op_le (pv 1) (pv 0) (pv 2))))), ?_⟩
    refine ⟨_, rfl, v, t, rfl, ht, _, rfl, ?_⟩
    cases v <;> cases ht
    · exact iteF k
    · exact iteF k
    · rename_i i
      refine iteT ⟨_, rfl, _, rfl, _, _, rfl, rfl, _, rfl, ?_⟩
      have e : inW lo hi (.int i) = (decide (lo ≤ i) && decide (i ≤ hi)) := rfl
      rw [e] at k
      cases h1 : decide (lo ≤ i) with
      | true =>
        rw [h1] at k
        exact iteT ⟨_, rfl, _, _, rfl, rfl, by simpa using k⟩
      | false =>
        rw [h1] at k
        exact iteF (by simpa using k)
    · exact iteF k
theorem scEpoch : FnScope ["self"] ["self"] (defScope sEpoch) := ⟨rfl, rfl, rfl, by decide +kernel, rfl, by decide +kernel, by decide +kernel⟩
theorem mo_epoch (F : MT K C "epoch" "Layout.epoch" sEpoch ["self"]) : MO P w K mg base CX0 C 1 "epoch" ["self"] (spL0 C fun _ _ _ => .int 0) := by
  obtain ⟨f, fd, F, hm, hb⟩ := F
  refine ⟨f, fd, ?_, hm, hb⟩
  refine F.ok scEpoch (fun vs H Q E h => ?_) (fun cdv A outer s H vs Q E hr h => ?_)
  · obtain ⟨a, t, w, r, rfl, _⟩ := h
    rfl
  · obtain ⟨a, t, w, r, rfl, _, k⟩ := h
    exact ⟨_, pss_one (ps_ret pe_int), k⟩
theorem scESlot : FnScope ["self", "thread"] ["self", "thread"] (defScope sESlot) := ⟨rfl, rfl, rfl, by decide +kernel, rfl, by decide +kernel, by decide +kernel⟩
theorem mo_eslot (F : MT K C "epoch_slot" "Layout.epoch_slot" sESlot ["self", "thread"]) : MO P w K mg base CX0 C 1 "epoch_slot" ["self", "thread"] (spL1 C fun _ _ _ i => .int (1 + i)) := by
  obtain ⟨f, fd, F, hm, hb⟩ := F
  refine ⟨f, fd, ?_, hm, hb⟩
  refine F.ok scESlot (fun vs H Q E h => ?_) (fun cdv A outer s H vs Q E hr h => ?_)
  · obtain ⟨a, t, w, r, i, rfl, _⟩ := h
    rfl
  · obtain ⟨a, t, w, r, i, rfl, _, k⟩ := h
    exact ⟨_, pss_one (ps_ret (pe_op op_add pe_int (pv 1))), _, rfl, _, _, rfl, rfl, k⟩
theorem scCSlot : FnScope ["self", "thread"] ["self", "thread"] (defScope sCSlot) := ⟨rfl, rfl, rfl, by decide +kernel, rfl, by decide +kernel, by decide +kernel⟩
theorem mo_cslot (F : MT K C "call_slot" "Layout.call_slot" sCSlot ["self", "thread"]) (T : LTxt K mg C) (G : MO P w K mg base CX0 C 1 "epoch_slot" ["self", "thread"] (spL1 C fun _ _ _ i => .int (1 + i))) :
    MO P w K mg base CX0 C 2 "call_slot" ["self", "thread"] (spL1 C fun t _ _ i => .int (first t + i)) := by
  obtain ⟨f, fd, F, hm, hb⟩ := F
  refine ⟨f, fd, ?_, hm, hb⟩
  refine F.ok scCSlot (fun vs H Q E h => ?_) (fun cdv A outer s H vs Q E hr h => ?_)
  · obtain ⟨a, t, w, r, i, rfl, _⟩ := h
    rfl
  · obtain ⟨a, t, w, r, i, rfl, L, k⟩ := h
    obtain ⟨dx, h1⟩ := id L
    refine ⟨_, pss_one (ps_ret (pe_op op_add (pm_ G T.cl hr (pv 0) (pa_cons (pe_fld (pv 0) rfl) pa_nil)) (pv 1))), ?_⟩
    exact ⟨_, rfl, a, dx, _, rfl, h1, rfl, _, rfl, a, C, dx, _, _, rfl, h1, T.cl, T.nT, rfl, a, t, w, r, t, rfl, L, _, rfl, _, _, rfl, rfl, k⟩
theorem scWord : FnScope ["self", "index"] ["self", "index"] (defScope sWord) := ⟨rfl, rfl, rfl, by decide +kernel, rfl, by decide +kernel, by decide +kernel⟩
theorem mo_word (F : MT K C "word" "Layout.word" sWord ["self", "index"]) (T : LTxt K mg C) (G : MO P w K mg base CX0 C 2 "call_slot" ["self", "thread"] (spL1 C fun t _ _ i => .int (first t + i))) :
    MO P w K mg base CX0 C 3 "word" ["self", "index"] (spL1 C fun t _ _ i => .int (first t + t + i)) := by
  obtain ⟨f, fd, F, hm, hb⟩ := F
  refine ⟨f, fd, ?_, hm, hb⟩
  refine F.ok scWord (fun vs H Q E h => ?_) (fun cdv A outer s H vs Q E hr h => ?_)
  · obtain ⟨a, t, w, r, i, rfl, _⟩ := h
    rfl
  · obtain ⟨a, t, w, r, i, rfl, L, k⟩ := h
    obtain ⟨dx, h1⟩ := id L
    refine ⟨_, pss_one (ps_ret (pe_op op_add (pm_ G T.cl hr (pv 0) (pa_cons (pe_fld (pv 0) rfl) pa_nil)) (pv 1))), ?_⟩
    exact ⟨_, rfl, a, dx, _, rfl, h1, rfl, _, rfl, a, C, dx, _, _, rfl, h1, T.cl, T.nT, rfl, a, t, w, r, t, rfl, L, _, rfl, _, _, rfl, rfl, k⟩
theorem scRecord : FnScope ["self", "index"] ["self", "index"] (defScope sRecord) := ⟨rfl, rfl, rfl, by decide +kernel, rfl, by decide +kernel, by decide +kernel⟩
theorem mo_record (F : MT K C "record" "Layout.record" sRecord ["self", "index"]) (T : LTxt K mg C) (G : MO P w K mg base CX0 C 3 "word" ["self", "index"] (spL1 C fun t _ _ i => .int (first t + t + i))) :
    MO P w K mg base CX0 C 4 "record" ["self", "index"] (spL1 C fun t w _ i => .int (rec0 t w + i)) := by
  obtain ⟨f, fd, F, hm, hb⟩ := F
  refine ⟨f, fd, ?_, hm, hb⟩
  refine F.ok scRecord (fun vs H Q E h => ?_) (fun cdv A outer s H vs Q E hr h => ?_)
  · obtain ⟨a, t, w, r, i, rfl, _⟩ := h
    rfl
  · obtain ⟨a, t, w, r, i, rfl, L, k⟩ := h
    obtain ⟨dx, h1⟩ := id L
    refine ⟨_, pss_one (ps_ret (pe_op op_add (pm_ G T.cl hr (pv 0) (pa_cons (pe_fld (pv 0) rfl) pa_nil)) (pv 1))), ?_⟩
    exact ⟨_, rfl, a, dx, _, rfl, h1, rfl, _, rfl, a, C, dx, _, _, rfl, h1, T.cl, T.nW, rfl, a, t, w, r, w, rfl, L, _, rfl, _, _, rfl, rfl, k⟩
theorem scCells : FnScope ["self"] ["self"] (defScope sCells) := ⟨rfl, rfl, rfl, by decide +kernel, rfl, by decide +kernel, by decide +kernel⟩
theorem mo_cells (F : MT K C "cells" "Layout.cells" sCells ["self"]) (T : LTxt K mg C) (G : MO P w K mg base CX0 C 4 "record" ["self", "index"] (spL1 C fun t w _ i => .int (rec0 t w + i))) :
    MO P w K mg base CX0 C 5 "cells" ["self"] (spL0 C fun t w r => .int (cells t w r)) := by
  obtain ⟨f, fd, F, hm, hb⟩ := F
  refine ⟨f, fd, ?_, hm, hb⟩
  refine F.ok scCells (fun vs H Q E h => ?_) (fun cdv A outer s H vs Q E hr h => ?_)
  · obtain ⟨a, t, w, r, rfl, _⟩ := h
    rfl
  · obtain ⟨a, t, w, r, rfl, L, k⟩ := h
    obtain ⟨dx, h1⟩ := id L
    refine ⟨_, pss_one (ps_ret (pm_ G T.cl hr (pv 0) (pa_cons (pe_fld (pv 0) rfl) pa_nil))), ?_⟩
    exact ⟨_, rfl, a, dx, _, rfl, h1, rfl, _, rfl, a, C, dx, _, _, rfl, h1, T.cl, T.nR, rfl, a, t, w, r, r, rfl, L, k⟩
theorem scIsCell : FnScope ["self", "cell"] ["self", "cell"] (defScope sIsCell) := ⟨rfl, rfl, rfl, by decide +kernel, rfl, by decide +kernel, by decide +kernel⟩
theorem mo_iscell (F : MT K C "is_cell" "Layout.is_cell" sIsCell ["self", "cell"]) (T : LTxt K mg C) (G : MO P w K mg base CX0 C 5 "cells" ["self"] (spL0 C fun t w r => .int (cells t w r)))
    (GW : GO P w K mg base CX0 2 "is_within" ["value", "low", "high"] spWithin) : MO P w K mg base CX0 C 6 "is_cell" ["self", "cell"] (spLV C fun t w r v => .bl (inW 0 (cells t w r - 1) v)) := by
  obtain ⟨f, fd, F, hm, hb⟩ := F
  refine ⟨f, fd, ?_, hm, hb⟩
  refine F.ok scIsCell (fun vs H Q E h => ?_) (fun cdv A outer s H vs Q E hr h => ?_)
  · obtain ⟨a, t, w, r, v, ty, rfl, _⟩ := h
    rfl
  · obtain ⟨a, t, w, r, v, ty, rfl, hv, L, k⟩ := h
    obtain ⟨dx, h1⟩ := id L
    refine ⟨_, pss_one (ps_ret (pc_ GW (hr.mono (by decide)) (pa_cons (pv 1) (pa_cons pe_int (pa_cons (pe_op op_sub (pm0_ G T.cl hr (pv 0)) pe_int) pa_nil))))), ?_⟩
    exact ⟨_, rfl, _, rfl, a, dx, _, rfl, h1, rfl, a, t, w, r, rfl, L, _, _, rfl, rfl, v, ty, _, _, rfl, hv, k⟩
theorem scIsLast : FnScope ["self", "cell"] ["self", "cell"] (defScope sIsLast) := ⟨rfl, rfl, rfl, by decide +kernel, rfl, by decide +kernel, by decide +kernel⟩
theorem mo_islast (F : MT K C "is_lasting" "Layout.is_lasting" sIsLast ["self", "cell"]) (T : LTxt K mg C) (G : MO P w K mg base CX0 C 6 "is_cell" ["self", "cell"] (spLV C fun t w r v => .bl (inW 0 (cells t w r - 1) v)))
    (GC : MO P w K mg base CX0 C 2 "call_slot" ["self", "thread"] (spL1 C fun t _ _ i => .int (first t + i))) : MO P w K mg base CX0 C 7 "is_lasting" ["self", "cell"] (spLV C fun t w r v => .bl (lastB t w r v)) := by
  obtain ⟨f, fd, F, hm, hb⟩ := F
  refine ⟨f, fd, ?_, hm, hb⟩
  refine F.ok scIsLast (fun vs H Q E h => ?_) (fun cdv A outer s H vs Q E hr h => ?_)
  · obtain ⟨a, t, w, r, v, ty, rfl, _⟩ := h
    rfl
  · obtain ⟨a, t, w, r, v, ty, rfl, hv, L, k⟩ := h
    obtain ⟨dx, h1⟩ := id L
    refine ⟨_, pss_one (ps_ret (pe_and (pm_ G T.cl hr (pv 0) (pa_cons (pv 1) pa_nil)) (pe_one (pe_cmpR op_ge (pv 1) (pm_ GC T.cl (hr.mono (by decide)) (pv 0) (pa_cons pe_int pa_nil)) (nomark _))))), ?_⟩
    refine ⟨_, rfl, a, dx, _, rfl, h1, rfl, _, rfl, a, t, w, r, v, ty, rfl, hv, L, _, rfl, ?_⟩
    simp only [lastB] at k
    cases v <;> cases hv
    · exact iteF k
    · exact iteF k
    · rename_i i
      cases h2 : inW 0 (cells t w r - 1) (.int i) with
      | true =>
        rw [h2] at k
        exact iteT ⟨_, rfl, _, rfl, a, dx, _, rfl, h1, rfl, a, t, w, r, _, rfl, L, _, _, rfl, rfl, (by rw [Bool.true_and] at k; exact k)⟩
      | false =>
        rw [h2] at k
        exact iteF (by rw [Bool.false_and] at k; exact k)
    · exact iteF k
end
end Dk

set_option maxHeartbeats 4000000
/-! the refusals; a layout is made -/
namespace Dk
open PySem PySem.Spec PyProof.Rows L2
abbrev sPass : Stmt := top 13
abbrev bmVE : List Value := [.type "ValueError", .type "Exception", .type "BaseException", .type "object"]
/-- what the top has written of the refusals: NotValid at NV, LineError at LE -/
structure XTxt (K : PySem.W.Frag) (mg : Str → Option Value) (NV LE : Addr) : Prop where
  gN : mg "NotValid" = some (.ref NV)
  gL : mg "LineError" = some (.ref LE)
  xN : PySem.W.excIn K NV bmVE "ValueError.__new__" = true
  kN : PySem.W.keepIn K (.ref NV) = true
  sN : PySem.W.subIn K (.ref NV) (.type "BaseException") = some true
  tN : PySem.W.typeIn K (.ref NV) = some (.type "type")
  eN : PySem.W.exmOne K (.ref NV) (.ref LE) = some true
  eC : ExcC K NV
  kit : PySem.W.kitOne K (.ref NV) (.ref NV) = some true
def lok (t w r : Int) : Bool := inW 1 3 (.int t) && (inW 1 4 (.int w) && inW 4 200 (.int r))
structure LOk (t w r : Int) : Prop where
  t1 : 1 ≤ t
  t3 : t ≤ 3
  w1 : 1 ≤ w
  w4 : w ≤ 4
  r4 : 4 ≤ r
  r200 : r ≤ 200
theorem lok_iff {t w r : Int} : lok t w r = true ↔ LOk t w r := by
  unfold lok
  rw [Bool.and_eq_true, Bool.and_eq_true, inW_int, inW_int, inW_int]
  exact ⟨fun ⟨⟨a, b⟩, ⟨c, d⟩, e, f⟩ => ⟨a, b, c, d, e, f⟩, fun ⟨a, b, c, d, e, f⟩ => ⟨⟨a, b⟩, ⟨c, d⟩, e, f⟩⟩
def spLInit (C NV : Addr) : Sp := fun vs H Q E => ∃ p dx t w r, vs = [.ref p, .int t, .int w, .int r] ∧ H p = some (.ins C dx []) ∧
  (lok t w r = true → ∀ H', LayAt C H' p t w r → (∀ b o, H b = some o → b ≠ p → H' b = some o) → Q .non H') ∧ (lok t w r = false → E (.ref NV) none H)
def spTold (C : Addr) : Sp := fun vs H Q _ => ∃ t w r, vs = [.int t, .int w, .int r] ∧
  (lok t w r = true → ∀ p H', H p = none → LayAt C H' p t w r → Same H H' → Q (.ref p) H') ∧ (lok t w r = false → ∀ p H', H' p = some (.lst [.bl true]) → Same H H' → Q (.ref p) H')
def rIsE' (K : PySem.W.Frag) (D a : Addr) (cls : Value) (d : Option Addr) : List V → Hp → VK → Prop := fun xs H Q => cls = .ref D ∧ d = none ∧ rIsE K D a xs H Q
theorem call_isE' {X : Cx} {a D : Addr} {oe : Obj} {cls : Value} {d : Option Addr} {pn : List (Addr × Obj)} (C : ExcC X.K D) (hz : Zc cls d oe) (hf : ∃ vs, oe.data = .fields vs) :
    CallR (X.suite a ((a, oe) :: pn)) (.builtin "isinstance") (rIsE' X.K D a cls d) := by
  intro pins s σ H xs us Q I r h
  obtain ⟨rfl, rfl, h⟩ := h
  exact call_isE C hz hf pins s σ H xs us Q I r h
section
variable {P : Program} {w : World} {K : PySem.W.Frag} {mg : Str → Option Value} {base : Heap} {C NV LE : Addr}
theorem scLInit : FnScope ["self", "threads", "words", "records"] ["self", "threads", "words", "records"] (defScope sLInit) := ⟨rfl, rfl, rfl, by decide +kernel, rfl, by decide +kernel, by decide +kernel⟩
theorem ok_linit {f : Addr} {fd : FuncData} (F : Fun K "__init__" "Layout.__init__" sLInit f fd) (T : LTxt K mg C) (X0 : XTxt K mg NV LE) (G : GO P w K mg base CX0 2 "is_within" ["value", "low", "high"] spWithin) :
    FnOk P w K mg base (L2.CX P w) 3 f fd ["self", "threads", "words", "records"] (spLInit C NV) := by
  refine F.okX scLInit (fun vs H Q E h => ?_) (fun cdv A outer s H vs Q E hr h => ?_)
  · obtain ⟨p, dx, t, w, r, rfl, _⟩ := h
    rfl
  · obtain ⟨p, dx, t, w, r, rfl, hp, k1, k2⟩ := h
    refine ⟨_, pss_cons (ps_if (pt_not (PW.pt (pw_and (pt_val (pc_ G hr (pa_cons (pv 1) (pa_cons pe_int (pa_cons pe_int pa_nil))))) (pw_and (pt_val (pc_ G hr (pa_cons (pv 2) (pa_cons pe_int (pa_cons pe_int pa_nil)))))
        (pw_and1 (pt_val (pc_ G hr (pa_cons (pv 3) (pa_cons pe_int (pa_cons pe_int pa_nil))))))))))
        (pss_one (ps_raise rfl (takes_of rfl rfl rfl rfl) (pmk_own0 PySem.F.excBase_ValueError X0.xN X0.gN X0.kN (raises_own X0.sN X0.tN) rfl))) pss_nil)
      (pss_cons (ps_fld (pv 0) (pv 1) rfl) (pss_cons (ps_fld (pv 0) (pv 2) rfl) (pss_one (ps_fld (pv 0) (pv 3) rfl)))), ?_⟩
    have fin : lok t w r = true → tSeq (sFld K (tVar 0) (tVar 1) "threads") (tSeq (sFld K (tVar 0) (tVar 2) "words") (sFld K (tVar 0) (tVar 3) "records")) { nx := fun _ H' => Q .non H', rt := Q } (L2.start ["self", "threads", "words", "records"] [.ref p, .int t, .int w, .int r]) H := fun q => by
      refine ⟨_, rfl, _, rfl, p, C, dx, [], rfl, hp, T.cl, T.nT, (by show 0 < 1000; decide), _, rfl, _, rfl, p, C, dx, _, rfl, upd_same, T.cl, T.nW, (by show 1 < 1000; decide), _, rfl, _, rfl, p, C, dx, _, rfl, upd_same, T.cl, T.nR, (by show 2 < 1000; decide), ?_⟩
      exact k1 q _ ⟨dx, upd_same⟩ fun b o e hb => by rw [upd_ne hb, upd_ne hb, upd_ne hb]; exact e
    refine ⟨_, rfl, _, _, _, _, rfl, rfl, _, rfl, ?_⟩
    cases h1 : inW 1 3 (V.int t) with
    | false => exact iteF (iteT (k2 (by unfold lok; rw [h1]; rfl)))
    | true =>
      refine iteT ⟨_, rfl, _, _, _, _, rfl, rfl, _, rfl, ?_⟩
      cases h2 : inW 1 4 (V.int w) with
      | false => exact iteF (iteT (k2 (by unfold lok; rw [h1, h2]; rfl)))
      | true =>
        refine iteT ⟨_, rfl, _, _, _, _, rfl, rfl, _, rfl, ?_⟩
        cases h3 : inW 4 200 (V.int r) with
        | false => exact (iteT (k2 (by unfold lok; rw [h1, h2, h3]; rfl)))
        | true => exact (iteF (fin (by unfold lok; rw [h1, h2, h3]; rfl)))
/-- passing_values -/
def spPass (C : Addr) : Sp := fun vs H Q _ => ∃ a t w r, vs = [.ref a] ∧ LayAt C H a t w r ∧ LOk t w r ∧ ∀ p H', H p = none → H' p = some (.lst (.int 0 :: List.replicate t.toNat .non)) → Same H H' → Q (.ref p) H'
theorem flat1 : ∀ n : Nat, (List.replicate n [V.non]).flatten = List.replicate n V.non
  | 0 => rfl
  | n + 1 => by
    rw [List.replicate_succ, List.flatten_cons, flat1 n]
    rfl
theorem scPass : FnScope ["layout"] ["layout"] (defScope sPass) := ⟨rfl, rfl, rfl, by decide +kernel, rfl, by decide +kernel, by decide +kernel⟩
theorem go_pass (F : GT K mg "passing_values" sPass ["layout"]) (T : LTxt K mg C) : GO P w K mg base CX0 1 "passing_values" ["layout"] (spPass C) := by
  obtain ⟨f, fd, F, hm, hb⟩ := F
  refine ⟨f, fd, ?_, hm, F.kp, hb⟩
  refine F.ok scPass (fun vs H Q E h => ?_) (fun cdv A outer s H vs Q E hr h => ?_)
  · obtain ⟨a, t, w, r, rfl, _⟩ := h
    rfl
  · obtain ⟨a, t, w, r, rfl, ⟨dx, h1⟩, ok, k⟩ := h
    have q1 := ok.t1
    have q3 := ok.t3
    refine ⟨_, pss_one (ps_ret (pe_op op_cat (pe_lst (pa_cons pe_int pa_nil)) (pe_op op_rep (pe_lst (pa_cons pe_non pa_nil)) (pe_fld (pv 0) rfl)))), ?_⟩
    refine ⟨(by show 1 ≤ sizeLine; decide), fun p1 n1 => ⟨(by show 1 ≤ sizeLine; decide), fun p2 n2 => ?_⟩⟩
    have a1 : a ≠ p1 := ne_of_none h1 n1
    have e1 : upd H p1 (HO.lst [V.int 0]) a = some (.ins C dx (lf t w r)) := by rw [upd_ne a1]; exact h1
    have a2 : a ≠ p2 := ne_of_none e1 n2
    have p12 : p1 ≠ p2 := ne_of_none (upd_same (H := H) (a := p1) (o := HO.lst [V.int 0])) n2
    have hs : [V.non].length * t.toNat ≤ sizeLine := by
      have : sizeLine = 16777216 := sizeLine_eq
      simp only [List.length_singleton]
      omega
    refine ⟨_, rfl, a, C, dx, _, _, rfl, (by rw [upd_ne a2]; exact e1), T.cl, T.nT, rfl, _, _, _, rfl, rfl, upd_same, (by omega), (by omega), hs, fun p3 n3 => ?_⟩
    have p13 : p1 ≠ p3 := ne_of_none (by rw [upd_ne p12]; exact upd_same) n3
    refine ⟨p1, p3, _, _, rfl, rfl, (by rw [upd_ne p13, upd_ne p12]; exact upd_same), upd_same, ?_, fun p4 n4 => ?_⟩
    · rw [flat1, List.length_replicate]
      have : sizeLine = 16777216 := sizeLine_eq
      simp only [List.length_singleton]
      omega
    · have sm : Same H (upd (upd (upd H p1 (HO.lst [V.int 0])) p2 (HO.lst [V.non])) p3 (HO.lst (List.replicate t.toNat [V.non]).flatten)) := fun b o e => by
        have b1 := ne_of_none e n1
        have e' : upd H p1 (HO.lst [V.int 0]) b = some o := by rw [upd_ne b1]; exact e
        have b2 := ne_of_none e' n2
        have e'' : upd (upd H p1 (HO.lst [V.int 0])) p2 (HO.lst [V.non]) b = some o := by rw [upd_ne b2]; exact e'
        rw [upd_ne (ne_of_none e'' n3)]
        exact e''
      refine k p4 _ (sm.free n4) (by rw [upd_same, flat1]; rfl) fun b o e => ?_
      rw [upd_ne (ne_of_none (sm b o e) n4)]
      exact sm b o e
end
end Dk

set_option maxHeartbeats 4000000
/-! dicts over cells; the rule of a name = {k: v for ..} -/
namespace Dk
open PySem PySem.Spec PyProof.Rows L2
section
variable {X : Cx}
theorem ps_setDc {i : Nat} {y : Str} {py : Pos} {kx vx tg iter : Expr} {ifs : List Expr} {scope : Scope} {own : List (Str × Nat)} {pos spos : Pos} {wi : TI} {g : TG} {tt : TT} {tk tv : TE} (hc : X.calm = true) (hN : X.N.Nodup) (hy : X.N[i]? = some y) (hyl : X.env.scope.names.lookup y = some .local)
    (hsw : swapsWith (.DictComp kx vx [⟨tg, iter, ifs, 0⟩] scope pos) (some (.Name y py)) spos.line X.env = pure true) (hi : PI X tg iter wi) (ok : BlkOk X.N X.env.scope scope own)
    (hg : ∀ (s : Shared) (H : Hp) (C : Addr) (cl : List (Str × Addr)) (fp : List Addr), PG (X.blk s H scope (compEnvC scope cl C X.env) fp) tg g) (ht : ∀ (s : Shared) (H : Hp) (C : Addr) (cl : List (Str × Addr)) (fp : List Addr), PTs (X.blk s H scope (compEnvC scope cl C X.env) fp) ifs tt)
    (hk : ∀ (s : Shared) (H : Hp) (C : Addr) (cl : List (Str × Addr)) (fp : List Addr), PE (X.blk s H scope (compEnvC scope cl C X.env) fp) kx tk)
    (he : ∀ (s : Shared) (H : Hp) (C : Addr) (cl : List (Str × Addr)) (fp : List Addr), PE (X.blk s H scope (compEnvC scope cl C X.env) fp) vx tv) (hs : ∀ x, foldedSetIterable iter X.env x = pure x := by intro _; rfl) :
    PS X (.Assign [.Name y py] (.DictComp kx vx [⟨tg, iter, ifs, 0⟩] scope pos) spos) (tAsg (tDc wi g tt tk tv (own.map (·.2))) (gName i)) := by
  refine ⟨fun pins s σ H D I h => ?_⟩
  rw [exec_Assign_Name_used _ _ _ _ hsw]
  refine wpAny_bind (wpAny_standAt (wpAny_bind ?_))
  show wpAny _ X.A (do let _ ← comprehension (.DictComp kx vx [⟨tg, iter, ifs, 0⟩] scope pos) scope X.env (firstIterPos [⟨tg, iter, ifs, 0⟩] pos) newDict false (eval iter X.env) (some (assign (.Name y py) X.env))) _ _ s
  have h : tDc wi g tt tk tv (own.map (·.2)) σ H (fun x H1 => gName i x σ H1 D.nx) := h
  refine wpAny_bind (thn (dc_core (Qf := fun _ s' => SP X pins D .next s') hc hN I hi ok hg ht hk he hs h fun L C s' m H' I' q hn f => ?_) fun _ s' hq => wpAny_pure (wpAny_pure hq))
  show wpAny _ _ (assign (.Name y py) X.env (.ref L)) _ _ _
  refine wpAny_assign_Name (store_ok2 (v := V.ref L) I' hN hy (.inl hyl) rfl (fun s2 I2 ⟨a, sb, ha⟩ => ?_) (.inr hyl))
  obtain ⟨f0, f1, f2, f3, f4, f5⟩ := f
  have haC : C ≠ a := by
    rcases ha with z | z
    · rw [z]; exact f1
    · exact fun e => f4 y a z e.symm
  refine ⟨m, hn.sameBut sb haC, fun h3 sb3 => ?_⟩
  exact ⟨_, H', I2.turned (t' := s2.toks) (fun b o hb e => (sb3.2 b hb).trans e) f0 f1 f3 f4 f5, q⟩
theorem sw_trueD {kx vx : Expr} {gs : List Comprehension} {scope : Scope} {pos py : Pos} {y : Str} {l : Nat} {env : Env} (hk : env.scope.kind = .function) (hy : env.scope.names.lookup y = some .local) (hl : (py.line == pos.line) = true)
    (ha : (scope.names.any fun (n, k) => n == y && (k == .local || k == .cell)) = false) : swapsWith (.DictComp kx vx gs scope pos) (some (.Name y py)) l env = pure true := by
  have ky : env.kindOf y = some .local := hy
  have hb : env.blockKind = .function := by unfold Env.blockKind; rw [hk]; rfl
  unfold swapsWith
  simp only [hb, ky, ha, Expr.pos, hl]
  rfl
end
/-! ### a dict whose keys are f, f + 1, .. -/
def kv (f : Int) (n : Nat) (g : Nat → V) : List (Key × V) := (List.range n).map fun (j : Nat) => ((Sum.inl (f + (j : Int)) : Key), g j)
def setf (g : Nat → V) (j : Nat) (v : V) : Nat → V := fun i => if i = j then v else g i
theorem kv_len (f : Int) (n : Nat) (g : Nat → V) : (kv f n g).length = n := by unfold kv; rw [List.length_map, List.length_range]
theorem kv_congr {f : Int} {n : Nat} {g h : Nat → V} (e : ∀ j, j < n → g j = h j) : kv f n g = kv f n h := by
  unfold kv
  exact List.map_congr_left fun (j : Nat) hj => by rw [e j (List.mem_range.mp hj)]
theorem kv_succ (f : Int) (n : Nat) (g : Nat → V) : kv f (n + 1) g = kv f n g ++ [((Sum.inl (f + (n : Int)) : Key), g n)] := by
  unfold kv
  rw [List.range_succ, List.map_append]
  rfl
theorem kv_no (f : Int) (g : Nat → V) (i : Int) : ∀ n : Nat, (∀ j : Nat, j < n → f + (j : Int) ≠ i) → valV (kv f n g) (Sum.inl i : Key) = none
  | 0, _ => rfl
  | n + 1, h => by
    have ih := kv_no f g i n fun j hj => h j (by omega)
    rw [kv_succ, valV_snoc _ _ _ _ (kv_no f g (f + (n : Int)) n fun j hj e => by omega), if_neg (fun e => h n (by omega) (Sum.inl.inj e).symm)]
    exact ih
theorem kv_val (f : Int) (g : Nat → V) (j : Nat) : ∀ n : Nat, j < n → valV (kv f n g) (Sum.inl (f + (j : Int)) : Key) = some (g j)
  | 0, h => by omega
  | n + 1, h => by
    rw [kv_succ, valV_snoc _ _ _ _ (kv_no f g (f + (n : Int)) n fun j hj e => by omega)]
    by_cases e : j = n
    · subst e
      rw [if_pos rfl]
    · rw [if_neg (fun q => e (by have := Sum.inl.inj q; omega))]
      exact kv_val f g j n (by omega)
theorem kv_new (f : Int) (n : Nat) (g : Nat → V) (v : V) : putK (kv f n g) (Sum.inl (f + (n : Int)) : Key) v = kv f (n + 1) (setf g n v) := by
  rw [putK_new v (kv_no f g (f + (n : Int)) n fun j hj e => by omega), kv_succ]
  rw [kv_congr (h := setf g n v) (n := n) (fun j hj => by unfold setf; rw [if_neg (by omega)])]
  unfold setf
  rw [if_pos rfl]
theorem kv_put (f : Int) (n : Nat) (g : Nat → V) (j : Nat) (v : V) (hj : j < n) : putK (kv f n g) (Sum.inl (f + (j : Int)) : Key) v = kv f n (setf g j v) := by
  unfold putK
  rw [valV_any, kv_val f g j n hj, if_pos (by rfl)]
  unfold kv
  rw [List.map_map]
  refine List.map_congr_left fun i hi => ?_
  show (if (Sum.inl (f + (i : Int)) : Key) = Sum.inl (f + (j : Int)) then _ else _) = _
  by_cases e : i = j
  · subst e
    rw [if_pos rfl]
    unfold setf
    rw [if_pos rfl]
  · rw [if_neg (fun q => e (by have := Sum.inl.inj q; omega))]
    unfold setf
    rw [if_neg e]
theorem kv_at {f : Int} {n : Nat} {g : Nat → V} {i : Nat} {k : Key} {v : V} (h : (kv f n g)[i]? = some (k, v)) : i < n ∧ k = Sum.inl (f + (i : Int)) ∧ v = g i := by
  unfold kv at h
  rw [List.getElem?_map] at h
  cases e : (List.range n)[i]? with
  | none => rw [e] at h; cases h
  | some j =>
    rw [e] at h
    have hi : i < n := by
      have := (List.getElem?_eq_some_iff.mp e).1
      rwa [List.length_range] at this
    rw [List.getElem?_range hi] at e
    have ej : i = j := Option.some.inj e
    subst ej
    have := Option.some.inj h
    exact ⟨hi, (congrArg Prod.fst this).symm, (congrArg Prod.snd this).symm⟩
end Dk

set_option maxHeartbeats 4000000
/-! the trails and the notes of a new memory -/
namespace Dk
open PySem PySem.Spec PyProof.Rows L2
abbrev sTrails : Stmt := top 14
abbrev sNotes : Stmt := top 15
/-- the value of the j-th lasting cell, behind k words; the empty record is at E0 -/
def Init (E0 : Addr) (t w r : Nat) (k j : Nat) (v : V) : Prop :=
  if t ≤ j ∧ j < t + k then v = .int ((1 + t + j + w : Nat) : Int)
  else if t + w ≤ j ∧ j < t + w + k then v = .ref E0
  else v = .non
def seta (tl : Nat → Addr) (i : Nat) (p : Addr) : Nat → Addr := fun j => if j = i then p else tl j
theorem seta_same {tl : Nat → Addr} {i : Nat} {p : Addr} : seta tl i p i = p := if_pos rfl
theorem seta_ne {tl : Nat → Addr} {i j : Nat} {p : Addr} (h : j ≠ i) : seta tl i p j = tl j := if_neg h
theorem setf_same {g : Nat → V} {i : Nat} {v : V} : setf g i v i = v := if_pos rfl
theorem setf_ne {g : Nat → V} {i j : Nat} {v : V} (h : j ≠ i) : setf g i v j = g j := if_neg h
def sett (tr : Nat → List V) (i : Nat) (l : List V) : Nat → List V := fun j => if j = i then l else tr j
theorem sett_same {tr : Nat → List V} {i : Nat} {l : List V} : sett tr i l i = l := if_pos rfl
theorem sett_ne {tr : Nat → List V} {i j : Nat} {l : List V} (h : j ≠ i) : sett tr i l j = tr j := if_neg h
theorem setf_ref (tl : Nat → Addr) (i : Nat) (p : Addr) : setf (fun j => .ref (tl j)) i (.ref p) = fun j => .ref (seta tl i p j) := by
  funext j
  unfold setf seta
  by_cases c : j = i
  · rw [if_pos c, if_pos c]
  · rw [if_neg c, if_neg c]
/-- the dict of the trails at D: the key f + j has the list at tl j, which holds tr j -/
structure TrG (H : Hp) (D : Addr) (f : Int) (n : Nat) (tl : Nat → Addr) (tr : Nat → List V) : Prop where
  d : H D = some (.dK (kv f n fun j => .ref (tl j)))
  l : ∀ j, j < n → H (tl j) = some (.lst (tr j))
  inj : ∀ i j, i < n → j < n → tl i = tl j → i = j
theorem TrG.same {H H' : Hp} {D : Addr} {f : Int} {n : Nat} {tl : Nat → Addr} {tr : Nat → List V} (R : TrG H D f n tl tr) (s : Same H H') : TrG H' D f n tl tr := ⟨s _ _ R.d, fun j hj => s _ _ (R.l j hj), R.inj⟩
/-- a new list p is put in the place of the i-th -/
theorem TrG.put {H H1 : Hp} {D p : Addr} {f : Int} {n i : Nat} {tl : Nat → Addr} {tr : Nat → List V} {l : List V} (R : TrG H D f n tl tr) (s : Same H H1) (hp : H p = none) (h1 : H1 p = some (.lst l)) (hi : i < n) :
    TrG (upd H1 D (.dK (putK (kv f n fun j => .ref (tl j)) (Sum.inl (f + (i : Int)) : Key) (.ref p)))) D f n (seta tl i p) (sett tr i l) := by
  have nD : p ≠ D := (ne_of_none R.d hp).symm
  refine ⟨?_, fun j hj => ?_, fun j l hj hl e => ?_⟩
  · rw [upd_same, kv_put _ _ _ _ _ hi, setf_ref]
  · by_cases c : j = i
    · rw [c, seta_same, sett_same, upd_ne nD]
      exact h1
    · rw [seta_ne c, sett_ne c]
      have e1 := s _ _ (R.l j hj)
      rw [upd_ne (ne_of (s _ _ (R.l j hj)) (s _ _ R.d) (by intro z; cases z))]
      exact e1
  · have np : ∀ j, j < n → tl j ≠ p := fun j hj => ne_of_none (R.l j hj) hp
    by_cases c : j = i
    · by_cases c2 : l = i
      · omega
      · rw [c, seta_same, seta_ne c2] at e
        exact absurd e.symm (np l hl)
    · by_cases c2 : l = i
      · rw [seta_ne c, c2, seta_same] at e
        exact absurd e (np j hj)
      · rw [seta_ne c, seta_ne c2] at e
        exact R.inj j l hj hl e
/-- a new list p comes for the key behind the last -/
theorem TrG.snoc {H H1 : Hp} {D p : Addr} {f : Int} {n : Nat} {tl : Nat → Addr} {tr : Nat → List V} {l : List V} (R : TrG H D f n tl tr) (s : Same H H1) (hp : H p = none) (h1 : H1 p = some (.lst l)) :
    TrG (upd H1 D (.dK (putK (kv f n fun j => .ref (tl j)) (Sum.inl (f + (n : Int)) : Key) (.ref p)))) D f (n + 1) (seta tl n p) (sett tr n l) := by
  have nD : p ≠ D := (ne_of_none R.d hp).symm
  refine ⟨?_, fun j hj => ?_, fun j l hj hl e => ?_⟩
  · rw [upd_same, kv_new, setf_ref]
  · by_cases c : j = n
    · rw [c, seta_same, sett_same, upd_ne nD]
      exact h1
    · rw [seta_ne c, sett_ne c]
      have e1 := s _ _ (R.l j (by omega))
      rw [upd_ne (ne_of e1 (s _ _ R.d) (by intro z; cases z))]
      exact e1
  · have np : ∀ j, j < n → tl j ≠ p := fun j hj => ne_of_none (R.l j hj) hp
    by_cases c : j = n
    · by_cases c2 : l = n
      · omega
      · rw [c, seta_same, seta_ne c2] at e
        exact absurd e.symm (np l (by omega))
    · by_cases c2 : l = n
      · rw [seta_ne c, c2, seta_same] at e
        exact absurd e (np j (by omega))
      · rw [seta_ne c, seta_ne c2] at e
        exact R.inj j l (by omega) (by omega) e
/-- the trails of a new memory behind k words -/
structure TrAt (E0 : Addr) (H : Hp) (D : Addr) (t w r : Nat) (tl : Nat → Addr) (tr : Nat → List V) (k : Nat) (H0 : Hp) : Prop where
  g : TrG H D ((1 + t : Nat) : Int) (t + w + r) tl tr
  ini : ∀ j, j < t + w + r → ∃ v, tr j = [v] ∧ Init E0 t w r k j v
  new : ∀ j, j < t + w + r → H0 (tl j) = none
  nD : H0 D = none
structure NOk (t w r : Nat) : Prop where
  t1 : 1 ≤ t
  t3 : t ≤ 3
  w1 : 1 ≤ w
  w4 : w ≤ 4
  r4 : 4 ≤ r
  r200 : r ≤ 200
theorem NOk.lok {t w r : Nat} (h : NOk t w r) : LOk (t : Int) w r := ⟨by have := h.t1; omega, by have := h.t3; omega, by have := h.w1; omega, by have := h.w4; omega, by have := h.r4; omega, by have := h.r200; omega⟩
theorem first_n (t : Nat) : first (t : Int) + 0 = ((1 + t : Nat) : Int) := by unfold first; omega
theorem cells_n (t w r : Nat) : cells (t : Int) w r = ((1 + t + (t + w + r) : Nat) : Int) := by unfold cells; omega
def spTrails (C E0 : Addr) : Sp := fun vs H Q _ => ∃ (a : Addr) (t w r : Nat), vs = [.ref a] ∧ LayAt C H a t w r ∧ NOk t w r ∧
  ∀ (D : Addr) (tl : Nat → Addr) (tr : Nat → List V) (H' : Hp), TrAt E0 H' D t w r tl tr w H → Same H H' → Q (.ref D) H'
def spNotes (C : Addr) : Sp := fun vs H Q _ => ∃ (a : Addr) (t w r : Nat), vs = [.ref a] ∧ LayAt C H a t w r ∧ NOk t w r ∧
  ∀ (D : Addr) (na : List Addr) (H' : Hp), H' D = some (.lst (na.map V.ref)) → na.length = t → na.Nodup → (∀ a, a ∈ na → H' a = some (.dK []) ∧ H a = none) → H D = none → Same H H' → Q (.ref D) H'
section
variable {P : Program} {w : World} {K : PySem.W.Frag} {mg : Str → Option Value} {base : Heap} {C E0 : Addr}
theorem scTrails : FnScope ["layout", "trails", "index", "cell"] ["layout"] (defScope sTrails) := ⟨rfl, rfl, rfl, by decide +kernel, rfl, by decide +kernel, by decide +kernel⟩
theorem go_trails (F : GT K mg "first_trails" sTrails ["layout"]) (T : LTxt K mg C) (gEm : mg "EMPTY" = some (.ref E0)) (GS : MO P w K mg base CX0 C 2 "call_slot" ["self", "thread"] (spL1 C fun t _ _ i => .int (first t + i)))
    (GW : MO P w K mg base CX0 C 3 "word" ["self", "index"] (spL1 C fun t _ _ i => .int (first t + t + i))) (GR : MO P w K mg base CX0 C 4 "record" ["self", "index"] (spL1 C fun t w _ i => .int (rec0 t w + i)))
    (GC : MO P w K mg base CX0 C 5 "cells" ["self"] (spL0 C fun t w r => .int (cells t w r))) : GO P w K mg base CX0 6 "first_trails" ["layout"] (spTrails C E0) := by
  obtain ⟨f, fd, F, hm, hb⟩ := F
  refine ⟨f, fd, ?_, hm, F.kp, hb⟩
  refine F.ok scTrails (fun vs H Q E h => ?_) (fun cdv A outer s H vs Q E hr h => ?_)
  · obtain ⟨a, t, w, r, rfl, _⟩ := h
    rfl
  · obtain ⟨a, t, w, r, rfl, L, ok, k⟩ := h
    obtain ⟨dx, h1⟩ := id L
    have hu := hu_of hr
    have hr2 : Room 2 _ := hr.mono (by decide)
    have hr3 : Room 3 _ := hr.mono (by decide)
    have hr4 : Room 4 _ := hr.mono (by decide)
    refine ⟨_, pss_cons (ps_setDc (i := 1) (own := [("cell", 3)]) (g := gName 3) (tt := tYes) rfl scTrails.nd rfl rfl (sw_trueD rfl rfl rfl (by decide +kernel))
        (pi_range2 rfl T.bn.range (pa_cons (pm_ GS T.cl hr2 (pv 0) (pa_cons pe_int pa_nil)) (pa_cons (pm0_ GC T.cl hr (pv 0)) pa_nil)))
        (blkOk_by (N := ["layout", "trails", "index", "cell"]) (sc := defScope sTrails) (by decide +kernel)) (fun _ _ _ _ _ => pg_name (i := 3) scTrails.nd rfl (Or.inl rfl)) (fun _ _ _ _ _ => pts_nil) (fun _ _ _ _ _ => pv 3) (fun _ _ _ _ _ => pe_lst (pa_cons pe_non pa_nil)))
      (pss_cons (ps_for PassesOwn.never rfl (pi_range1 rfl T.bn.range (pa_cons (pe_fld (pv 0) rfl) pa_nil)) (pg_name (i := 2) scTrails.nd rfl (Or.inl rfl))
        (pss_cons (ps_dput hu (pv 1) (pm_ GW T.cl hr3 (pv 0) (pa_cons (pv 2) pa_nil)) (pe_lst (pa_cons (pm_ GR T.cl hr4 (pv 0) (pa_cons (pv 2) pa_nil)) pa_nil)) rfl)
        (pss_one (ps_dput hu (pv 1) (pm_ GR T.cl hr4 (pv 0) (pa_cons (pv 2) pa_nil)) (pe_lst (pa_cons (pe_glob (v := .ref E0) rfl gEm rfl) pa_nil)) rfl))))
      (pss_one (ps_ret (pv 1)))), ?_⟩
    have hsl : sizeLine = 16777216 := sizeLine_eq
    have q1 := ok.t1
    have q2 := ok.t3
    have q3 := ok.w1
    have q4 := ok.w4
    have q5 := ok.r4
    have q6 := ok.r200
    have hf := first_n t
    have hc := cells_n t w r
    refine ⟨_, rfl, a, dx, _, rfl, h1, rfl, a, t, w, r, 0, rfl, L, _, rfl, a, dx, _, rfl, h1, rfl, a, t, w, r, rfl, L, _, _, rfl, ⟨by omega, by omega, by omega, by omega⟩, fun D hD => ?_⟩
    rw [hf, hc]
    have en : (((1 + t + (t + w + r) : Nat) : Int) - ((1 + t : Nat) : Int)).toNat = t + w + r := by omega
    rw [en]
    refine dc_it walk_range (fun i H' => ∃ (tl : Nat → Addr) (tr : Nat → List V), TrG H' D ((1 + t : Nat) : Int) i tl tr ∧ (∀ j, j < i → tr j = [.non] ∧ H (tl j) = none) ∧ Same H H')
      ⟨fun _ => 0, fun _ => [], ⟨upd_same, fun j h => by omega, fun j l h => by omega⟩, fun j h => by omega, fun b o e => by rw [upd_ne (ne_of_none e hD)]; exact e⟩ (fun _ _ _ _ => trivial) ?_ ?_
    · rintro i x H9 H1 hi ⟨tl, tr, R, hl, sm⟩ ⟨rfl, rfl⟩
      refine ⟨rfl, _, rfl, (by show 1 ≤ sizeLine; decide), fun p hp => ?_⟩
      have pD : D ≠ p := ne_of_none R.d hp
      have s1 : Same H1 (upd H1 p (.lst [.non])) := fun b o e => by rw [upd_ne (ne_of_none e hp)]; exact e
      refine ⟨_, Sum.inl _, rfl, (by rw [upd_ne pD]; exact R.d), (by rw [kv_len]; omega), _, _, R.snoc s1 hp upd_same, fun j hj => ?_, fun b o e => ?_⟩
      · by_cases c : j = i
        · rw [c, seta_same, sett_same]
          exact ⟨rfl, sm.free hp⟩
        · rw [seta_ne c, sett_ne c]
          exact hl j (by omega)
      · rw [upd_ne (ne_of_none e hD)]
        exact s1 _ _ (sm b o e)
    · rintro H1 ⟨tl, tr, R, hl, sm⟩
      have R0 : TrAt E0 H1 D t w r tl tr 0 H := by
        refine ⟨R, fun j hj => ⟨.non, (hl j hj).1, ?_⟩, fun j hj => (hl j hj).2, hD⟩
        unfold Init
        rw [if_neg (by omega), if_neg (by omega)]
      have h1' := sm _ _ h1
      refine ⟨_, rfl, a, C, dx, _, _, rfl, h1', T.cl, T.nW, rfl, _, rfl, by omega, by omega, for_range (lo := 0) (n := (w : Int).toNat)
        (fun i σ H2 => ∃ (v c : Option V) (tl : Nat → Addr) (tr : Nat → List V), σ = [some (.ref a), some (.ref D), v, c] ∧ TrAt E0 H2 D t w r tl tr i H ∧ Same H H2) ⟨_, _, tl, tr, rfl, R0, sm⟩ ?_ ?_⟩
      · rintro i σ H2 hi ⟨v, c, tl2, tr2, rfl, R, sm2⟩
        have g1 := sm2 _ _ h1
        have L2 : LayAt C H2 a t w r := ⟨dx, g1⟩
        have hw : i < w := by omega
        -- trails[layout.word(index)] = [layout.record(index)]
        refine ⟨_, rfl, a, dx, _, rfl, g1, rfl, _, rfl, a, t, w, r, _, rfl, L2, (by show 1 ≤ sizeLine; decide), fun p hp => ?_⟩
        have sp1 : Same H2 (upd H2 p (HO.lst [V.int (rec0 (t : Int) w + (0 + (i : Int)))])) := fun b o e => by rw [upd_ne (ne_of_none e hp)]; exact e
        have k1 : (first (t : Int) + t + (0 + (i : Int))) = ((1 + t : Nat) : Int) + ((t + i : Nat) : Int) := by unfold first; omega
        refine ⟨_, rfl, _, rfl, a, dx, _, rfl, sp1 _ _ g1, rfl, _, rfl, a, t, w, r, _, rfl, ⟨dx, sp1 _ _ g1⟩, D, _, rfl, DPut.k (k := Sum.inl _) (sp1 _ _ R.g.d) (by rw [kv_len]; omega), ?_⟩
        rw [k1]
        have R1 := R.g.put sp1 hp upd_same (i := t + i) (by omega)
        have s3 : Same H _ := fun b o e => (show upd (upd H2 p (HO.lst [V.int (rec0 (t : Int) w + (0 + (i : Int)))])) D (.dK (putK (kv ((1 + t : Nat) : Int) (t + w + r) fun j => .ref (tl2 j)) (Sum.inl (((1 + t : Nat) : Int) + ((t + i : Nat) : Int)) : Key) (.ref p))) b = some o from by
          rw [upd_ne (ne_of_none e hD)]
          exact sp1 _ _ (sm2 b o e))
        have it3 : ∀ j, j < t + w + r → ∃ v, sett tr2 (t + i) [V.int (rec0 (t : Int) w + (0 + (i : Int)))] j = [v] ∧ (j = t + i → v = .int (rec0 (t : Int) w + (0 + (i : Int)))) ∧ (j ≠ t + i → Init E0 t w r i j v) := fun j hj => by
          by_cases c : j = t + i
          · exact ⟨_, (by rw [c, sett_same]), fun _ => rfl, fun h => absurd c h⟩
          · obtain ⟨v, e1, e2⟩ := R.ini j hj
            exact ⟨v, (by rw [sett_ne c]; exact e1), fun h => absurd h c, fun _ => e2⟩
        generalize hH3 : upd (upd H2 p (HO.lst [V.int (rec0 (t : Int) w + (0 + (i : Int)))])) D (.dK (putK (kv ((1 + t : Nat) : Int) (t + w + r) fun j => .ref (tl2 j)) (Sum.inl (((1 + t : Nat) : Int) + ((t + i : Nat) : Int)) : Key) (.ref p))) = H3 at R1 s3 ⊢
        have n3 : ∀ j, j < t + w + r → H (seta tl2 (t + i) p j) = none := fun j hj => by
          by_cases c : j = t + i
          · rw [c, seta_same]
            exact sm2.free hp
          · rw [seta_ne c]
            exact R.new j hj
        generalize htr3 : sett tr2 (t + i) [V.int (rec0 (t : Int) w + (0 + (i : Int)))] = tr3 at R1 it3
        generalize htl3 : seta tl2 (t + i) p = tl3 at R1 n3
        -- trails[layout.record(index)] = [("items", ())]
        refine ⟨(by show 1 ≤ sizeLine; decide), fun p2 hp2 => ?_⟩
        have s36 : Same H3 (upd H3 p2 (.lst [.ref E0])) := fun b o e => by rw [upd_ne (ne_of_none e hp2)]; exact e
        have g3 := s36 _ _ (s3 _ _ h1)
        have hp23 : H3 p2 = none := hp2
        have k2 : (rec0 (t : Int) w + (0 + (i : Int))) = ((1 + t : Nat) : Int) + ((t + w + i : Nat) : Int) := by unfold rec0; omega
        refine ⟨_, rfl, _, rfl, a, dx, _, rfl, g3, rfl, _, rfl, a, t, w, r, _, rfl, ⟨dx, g3⟩, D, _, rfl, DPut.k (k := Sum.inl _) (s36 _ _ R1.d) (by rw [kv_len]; omega), ?_⟩
        rw [k2]
        have R2 := R1.put s36 hp23 upd_same (i := t + w + i) (by omega)
        refine ⟨_, _, _, _, rfl, ⟨R2, fun j hj => ?_, fun j hj => ?_, hD⟩, fun b o e => ?_⟩
        · by_cases c : j = t + w + i
          · refine ⟨.ref E0, (by rw [c, sett_same]), ?_⟩
            unfold Init
            rw [if_neg (by omega), if_pos (by omega)]
          · obtain ⟨v, e1, e2, e3⟩ := it3 j hj
            refine ⟨v, (by rw [sett_ne c]; exact e1), ?_⟩
            unfold Init
            by_cases c1 : j = t + i
            · rw [if_pos (by omega), e2 c1]
              exact congrArg V.int (by rw [c1]; unfold rec0; omega)
            · have e3 := e3 c1
              unfold Init at e3
              by_cases c2 : t ≤ j ∧ j < t + i
              · rw [if_pos c2] at e3
                rw [if_pos (by omega)]
                exact e3
              · rw [if_neg c2] at e3
                rw [if_neg (by omega)]
                by_cases c3 : t + w ≤ j ∧ j < t + w + i
                · rw [if_pos c3] at e3
                  rw [if_pos (by omega)]
                  exact e3
                · rw [if_neg c3] at e3
                  rw [if_neg (by omega)]
                  exact e3
        · by_cases c : j = t + w + i
          · rw [c, seta_same]
            exact s3.free hp23
          · rw [seta_ne c]
            exact n3 j hj
        · rw [upd_ne (ne_of_none e hD)]
          exact s36 _ _ (s3 b o e)
      · rintro σ H2 ⟨v, c, tl2, tr2, rfl, R, sm2⟩
        have ew : (w : Int).toNat = w := by omega
        rw [ew] at R
        exact ⟨_, rfl, k D tl2 tr2 H2 R sm2⟩
theorem scNotes : FnScope ["layout", "thread"] ["layout"] (defScope sNotes) := ⟨rfl, rfl, rfl, by decide +kernel, rfl, by decide +kernel, by decide +kernel⟩
theorem go_notes (F : GT K mg "no_notes" sNotes ["layout"]) (T : LTxt K mg C) : GO P w K mg base CX0 1 "no_notes" ["layout"] (spNotes C) := by
  obtain ⟨f, fd, F, hm, hb⟩ := F
  refine ⟨f, fd, ?_, hm, F.kp, hb⟩
  refine F.ok scNotes (fun vs H Q E h => ?_) (fun cdv A outer s H vs Q E hr h => ?_)
  · obtain ⟨a, t, w, r, rfl, _⟩ := h
    rfl
  · obtain ⟨a, t, w, r, rfl, L, ok, k⟩ := h
    obtain ⟨dx, h1⟩ := id L
    refine ⟨_, pss_one (ps_ret (pe_lc (own := [("thread", 1)]) (g := gName 1) (tt := tYes) rfl scNotes.nd (pi_range1 rfl T.bn.range (pa_cons (pe_fld (pv 0) rfl) pa_nil))
      (blkOk_by (N := ["layout", "thread"]) (sc := defScope sNotes) (by decide +kernel)) (fun _ _ _ _ _ => pg_name (i := 1) scNotes.nd rfl (Or.inl rfl)) (fun _ _ _ _ _ => pts_nil) (fun _ _ _ _ _ => pe_dnewK))), ?_⟩
    have q1 := ok.t1
    have q3 := ok.t3
    refine ⟨_, rfl, a, C, dx, _, _, rfl, h1, T.cl, T.nT, rfl, _, rfl, by omega, by omega, fun D hD => lc_range (lo := 0) (n := (t : Int).toNat)
      (fun i H' => ∃ na : List Addr, H' D = some (.lst (na.map V.ref)) ∧ na.length = i ∧ na.Nodup ∧ (∀ a, a ∈ na → H' a = some (.dK []) ∧ H a = none) ∧ Same H H') ⟨[], upd_same, rfl, List.nodup_nil, fun a h => by simp at h, fun b o e => by rw [upd_ne (ne_of_none e hD)]; exact e⟩ ?_ ?_⟩
    · rintro i H' hi ⟨na, hl, len, nd, all, sm⟩
      refine ⟨rfl, fun p hp => ?_⟩
      have pD : D ≠ p := ne_of_none hl hp
      have hsz : na.length < sizeLine := by
        have : sizeLine = 16777216 := sizeLine_eq
        omega
      refine ⟨na.map V.ref, (by rw [upd_ne pD]; exact hl), (by rw [List.length_map]; exact hsz), na ++ [p], ?_, by simp [len], ?_, ?_, ?_⟩
      · rw [upd_same, List.map_append]
        rfl
      · refine nd_snoc nd fun m => ?_
        have := (all p m).1
        rw [hp] at this
        cases this
      · intro b hb
        rcases List.mem_append.mp hb with m | m
        · obtain ⟨e1, e2⟩ := all b m
          have bD : b ≠ D := ne_of e1 hl (by intro z; cases z)
          rw [upd_ne bD, upd_ne (ne_of_none e1 hp)]
          exact ⟨e1, e2⟩
        · have e := List.mem_singleton.mp m
          subst e
          rw [upd_ne pD.symm, upd_same]
          exact ⟨rfl, sm.free hp⟩
      · intro b o e
        have e1 := sm b o e
        rw [upd_ne (ne_of_none e hD), upd_ne (ne_of_none e1 hp)]
        exact e1
    · rintro H' ⟨na, hl, len, nd, all, sm⟩
      exact k D na H' hl (by omega) nd all hD sm
end
end Dk

set_option maxHeartbeats 4000000
/-! a memory is made -/
namespace Dk
open PySem PySem.Spec PyProof.Rows L2
abbrev sMInit : Stmt := inClass (top 16) 0
/-- what a memory holds -/
structure MS where
  count : Int
  ps : List V
  tr : Nat → List V
  lost : Nat → Int
  notes : List (List (Key × V))
  log : List V
/-- where its parts stand -/
structure Adr where
  a : Addr
  pl : Addr
  td : Addr
  ld : Addr
  nl : Addr
  gl : Addr
  tl : Nat → Addr
  na : List Addr
def mf (A : Adr) (c : Int) : List (Str × V) := [("layout", .ref A.a), ("count", .int c), ("_passing", .ref A.pl), ("_trails", .ref A.td), ("_lost", .ref A.ld), ("_notes", .ref A.nl), ("_log", .ref A.gl)]
structure MemAt (C M : Addr) (H : Hp) (m : Addr) (t w r : Nat) (A : Adr) (S : MS) : Prop where
  ob : ∃ dx, H m = some (.ins M dx (mf A S.count))
  lay : LayAt C H A.a t w r
  ps : H A.pl = some (.lst S.ps)
  tr : TrG H A.td ((1 + t : Nat) : Int) (t + w + r) A.tl S.tr
  ld : H A.ld = some (.dK (kv ((1 + t : Nat) : Int) (t + w + r) fun j => .int (S.lost j)))
  nl : H A.nl = some (.lst (A.na.map V.ref))
  nn : A.na.length = t
  nd : A.na.Nodup
  no : ∀ (i : Nat) (b : Addr), A.na[i]? = some b → ∃ ns, S.notes[i]? = some ns ∧ H b = some (.dK ns)
  gl : H A.gl = some (.lst S.log)
  d1 : ∀ j, j < t + w + r → A.tl j ≠ A.pl ∧ A.tl j ≠ A.gl ∧ A.tl j ≠ A.nl
  d2 : A.pl ≠ A.gl ∧ A.pl ≠ A.nl ∧ A.gl ≠ A.nl
  d3 : A.td ≠ A.ld
  d4 : ∀ b, b ∈ A.na → b ≠ A.td ∧ b ≠ A.ld
  d5 : m ≠ A.a
/-- the addresses that are the memory's own -/
def Foot (m : Addr) (A : Adr) (n : Nat) (b : Addr) : Prop := b = m ∨ b = A.pl ∨ b = A.td ∨ b = A.ld ∨ b = A.nl ∨ b = A.gl ∨ (∃ j, j < n ∧ b = A.tl j) ∨ b ∈ A.na
def S0 (t : Nat) (tr : Nat → List V) : MS := ⟨0, .int 0 :: List.replicate t .non, tr, fun _ => 0, List.replicate t [], []⟩
structure MTxt (K : PySem.W.Frag) (M : Addr) : Prop where
  cl : Cls K M
  nL : NoAttr K M "layout"
  nC : NoAttr K M "count"
  nP : NoAttr K M "_passing"
  nT : NoAttr K M "_trails"
  nO : NoAttr K M "_lost"
  nN : NoAttr K M "_notes"
  nG : NoAttr K M "_log"
/-- all but what stands at p is as it was -/
def Keep (p : Addr) (H H' : Hp) : Prop := ∀ b o, H b = some o → b ≠ p → H' b = some o
theorem Keep.of {p : Addr} {H H' : Hp} (s : Same H H') : Keep p H H' := fun b o e _ => s b o e
theorem Keep.trans {p : Addr} {H H1 H2 : Hp} (a : Keep p H H1) (b : Keep p H1 H2) : Keep p H H2 := fun c o e h => b c o (a c o e h) h
theorem Keep.up {p : Addr} {H : Hp} {o : HO} : Keep p H (upd H p o) := fun b u e h => by rw [upd_ne h]; exact e
def spMInit (C M E0 : Addr) : Sp := fun vs H Q _ => ∃ (p dx a : Addr) (t w r : Nat), vs = [.ref p, .ref a] ∧ H p = some (.ins M dx []) ∧ LayAt C H a t w r ∧ NOk t w r ∧
  ∀ (A : Adr) (tr : Nat → List V) (H' : Hp), A.a = a → MemAt C M H' p t w r A (S0 t tr) → (∀ j, j < t + w + r → ∃ v, tr j = [v] ∧ Init E0 t w r w j v) → Keep p H H' → (∀ b, Foot p A (t + w + r) b → b = p ∨ H b = none) → Q .non H'
section
variable {P : Program} {w : World} {K : PySem.W.Frag} {mg : Str → Option Value} {base : Heap} {C M E0 : Addr}
theorem scMInit : FnScope ["self", "layout", "cell"] ["self", "layout"] (defScope sMInit) := ⟨rfl, rfl, rfl, by decide +kernel, rfl, by decide +kernel, by decide +kernel⟩
theorem ok_minit {f : Addr} {fd : FuncData} (F : Fun K "__init__" "Memory.__init__" sMInit f fd) (T : LTxt K mg C) (TM : MTxt K M) (GP : GO P w K mg base CX0 1 "passing_values" ["layout"] (spPass C))
    (GT : GO P w K mg base CX0 6 "first_trails" ["layout"] (spTrails C E0)) (GN : GO P w K mg base CX0 1 "no_notes" ["layout"] (spNotes C)) : FnOk P w K mg base CX0 7 f fd ["self", "layout"] (spMInit C M E0) := by
  refine F.ok scMInit (fun vs H Q E h => ?_) (fun cdv A outer s H vs Q E hr h => ?_)
  · obtain ⟨p, dx, a, t, w, r, rfl, _⟩ := h
    rfl
  · obtain ⟨p, dx, a, t, w, r, rfl, hp, L, ok, k⟩ := h
    obtain ⟨da, ha⟩ := id L
    have hr1 : Room 1 _ := hr.mono (by decide)
    have pa : p ≠ a := ne_of hp ha (by intro z; cases z)
    refine ⟨_, pss_cons (ps_fld (pv 0) (pv 1) rfl) (pss_cons (ps_fld (pv 0) pe_int rfl) (pss_cons (ps_fld (pv 0) (pc_ GP hr1 (pa_cons (pv 1) pa_nil)) rfl)
      (pss_cons (ps_fld (pv 0) (pc_ GT hr (pa_cons (pv 1) pa_nil)) rfl)
      (pss_cons (ps_fld (pv 0) (pe_lock (pe_dc (own := [("cell", 2)]) (g := gName 2) (tt := tYes) rfl scMInit.nd (pi_keys (pe_fld (pv 0) rfl)) (blkOk_by (N := ["self", "layout", "cell"]) (sc := defScope sMInit) (by decide +kernel))
        (fun _ _ _ _ _ => pg_name (i := 2) scMInit.nd rfl (Or.inl rfl)) (fun _ _ _ _ _ => pts_nil) (fun _ _ _ _ _ => pv 2) (fun _ _ _ _ _ => pe_int))) rfl)
      (pss_cons (ps_fld (pv 0) (pc_ GN hr1 (pa_cons (pv 1) pa_nil)) rfl) (pss_one (ps_fld (pv 0) (pe_lst pa_nil) rfl))))))), ?_⟩
    -- self.layout = layout; self.count = 0
    refine ⟨_, rfl, _, rfl, p, M, dx, [], rfl, hp, TM.cl, TM.nL, (by show 0 < 1000; decide), ?_⟩
    refine ⟨_, rfl, p, M, dx, _, rfl, upd_same, TM.cl, TM.nC, (by show 1 < 1000; decide), ?_⟩
    generalize hH2 : upd (upd H p _) p _ = H2
    have k2 : Keep p H H2 := by rw [← hH2]; exact Keep.up.trans Keep.up
    have p2 : H2 p = some (.ins M dx [("layout", .ref a), ("count", .int 0)]) := by rw [← hH2]; exact upd_same
    -- self._passing = passing_values(layout)
    refine ⟨_, rfl, a, t, w, r, rfl, ⟨da, k2 _ _ ha pa.symm⟩, ok.lok, fun pl H3 npl hpl s3 => ?_⟩
    refine ⟨_, rfl, p, M, dx, _, rfl, s3 _ _ p2, TM.cl, TM.nP, (by show 2 < 1000; decide), ?_⟩
    generalize hH4 : upd H3 p _ = H4
    have k4 : Keep p H2 H4 := by rw [← hH4]; exact (Keep.of s3).trans Keep.up
    have p4 : H4 p = some (.ins M dx [("layout", .ref a), ("count", .int 0), ("_passing", .ref pl)]) := by rw [← hH4]; exact upd_same
    have plp : pl ≠ p := (ne_of_none p2 npl).symm
    have e4 : H4 pl = some (.lst (.int 0 :: List.replicate (t : Int).toNat .non)) := by rw [← hH4, upd_ne plp]; exact hpl
    -- self._trails = first_trails(layout)
    refine ⟨_, rfl, a, t, w, r, rfl, ⟨da, k4 _ _ (k2 _ _ ha pa.symm) pa.symm⟩, ok, fun td tl tr H5 R s5 => ?_⟩
    refine ⟨_, rfl, p, M, dx, _, rfl, s5 _ _ p4, TM.cl, TM.nT, (by show 3 < 1000; decide), ?_⟩
    generalize hH6 : upd H5 p _ = H6
    have k56 : Keep p H5 H6 := by rw [← hH6]; exact Keep.up
    have k6 : Keep p H4 H6 := (Keep.of s5).trans k56
    have p6 : H6 p = some (.ins M dx [("layout", .ref a), ("count", .int 0), ("_passing", .ref pl), ("_trails", .ref td)]) := by rw [← hH6]; exact upd_same
    have tdp : td ≠ p := (ne_of_none p4 R.nD).symm
    have tlp : ∀ j, j < t + w + r → tl j ≠ p := fun j hj => (ne_of_none p4 (R.new j hj)).symm
    have G6 : TrG H6 td ((1 + t : Nat) : Int) (t + w + r) tl tr := ⟨k56 _ _ R.g.d tdp, fun j hj => k56 _ _ (R.g.l j hj) (tlp j hj), R.g.inj⟩
    -- self._lost = {cell: 0 for cell in self._trails}
    refine ⟨td, _, G6.d, trivial, fun od => ?_⟩
    have tdp' : p ≠ td := tdp.symm
    have f6 : upd H6 td (.frz od (.dK (kv ((1 + t : Nat) : Int) (t + w + r) fun j => .ref (tl j)))) p = some (.ins M dx [("layout", .ref a), ("count", .int 0), ("_passing", .ref pl), ("_trails", .ref td)]) := by rw [upd_ne tdp']; exact p6
    refine ⟨_, rfl, p, M, dx, _, _, rfl, f6, TM.cl, TM.nT, rfl, td, od, rfl, .inl ⟨_, upd_same, fun D hD => ?_⟩⟩
    have tdD : td ≠ D := ne_of_none upd_same hD
    refine dc_it walk_keys (fun i H' => H' D = some (.dK (kv ((1 + t : Nat) : Int) i fun _ => .int 0)) ∧ Same (upd H6 td (.frz od (.dK (kv ((1 + t : Nat) : Int) (t + w + r) fun j => .ref (tl j))))) H')
      ⟨upd_same, fun b o e => by rw [upd_ne (ne_of_none e hD)]; exact e⟩ (fun i H' _ q => q.2 _ _ upd_same) ?_ ?_
    · rintro i x H9 H1 hi ⟨hd, sm⟩ ⟨rfl, kk, v, e, rfl⟩
      obtain ⟨hi', rfl, rfl⟩ := kv_at e
      refine ⟨rfl, _, rfl, _, Sum.inl _, rfl, hd, (by rw [kv_len]; have : sizeLine = 16777216 := sizeLine_eq; have := ok.t3; have := ok.w4; have := ok.r200; omega), ?_, fun b o e => ?_⟩
      · rw [upd_same, kv_new]
        refine congrArg (fun q => some (HO.dK q)) (kv_congr fun j hj => ?_)
        unfold setf
        split <;> rfl
      · rw [upd_ne (ne_of_none e hD)]
        exact sm b o e
    · rintro H7 ⟨hd, sm⟩
      rw [kv_len] at hd
      refine ⟨sm _ _ upd_same, ?_⟩
      have e8 : Same H6 (upd H7 td (.dK (kv ((1 + t : Nat) : Int) (t + w + r) fun j => .ref (tl j)))) := fun b o e => by
        by_cases c : b = td
        · subst c
          rw [upd_same]
          exact G6.d.symm.trans e
        · rw [upd_ne c]
          refine sm b o ?_
          rw [upd_ne c]
          exact e
      have hd8 : upd H7 td (.dK (kv ((1 + t : Nat) : Int) (t + w + r) fun j => .ref (tl j))) D = some (.dK (kv ((1 + t : Nat) : Int) (t + w + r) fun _ => .int 0)) := by rw [upd_ne tdD.symm]; exact hd
      have nD6 : H6 D = none := by
        rw [upd_ne tdD.symm] at hD
        exact hD
      generalize hH8 : upd H7 td _ = H8 at e8 hd8 ⊢
      have pD : D ≠ p := (ne_of_none p6 nD6).symm
      refine ⟨_, rfl, p, M, dx, _, rfl, e8 _ _ p6, TM.cl, TM.nO, (by show 4 < 1000; decide), ?_⟩
      generalize hH9 : upd H8 p _ = H9
      have k9 : Keep p H6 H9 := by rw [← hH9]; exact (Keep.of e8).trans Keep.up
      have p9 : H9 p = some (.ins M dx [("layout", .ref a), ("count", .int 0), ("_passing", .ref pl), ("_trails", .ref td), ("_lost", .ref D)]) := by rw [← hH9]; exact upd_same
      have d9 : H9 D = some (.dK (kv ((1 + t : Nat) : Int) (t + w + r) fun _ => .int 0)) := by rw [← hH9, upd_ne pD]; exact hd8
      -- self._notes = no_notes(layout)
      have a9 := k9 _ _ (k6 _ _ (k4 _ _ (k2 _ _ ha pa.symm) pa.symm) pa.symm) pa.symm
      refine ⟨_, rfl, a, t, w, r, rfl, ⟨da, a9⟩, ok, fun nl na H10 hnl hlen hnd hall nnl s10 => ?_⟩
      refine ⟨_, rfl, p, M, dx, _, rfl, s10 _ _ p9, TM.cl, TM.nN, (by show 5 < 1000; decide), ?_⟩
      generalize hH11 : upd H10 p _ = H11
      have k10 : Keep p H10 H11 := by rw [← hH11]; exact Keep.up
      have k11 : Keep p H9 H11 := (Keep.of s10).trans k10
      have p11 : H11 p = some (.ins M dx [("layout", .ref a), ("count", .int 0), ("_passing", .ref pl), ("_trails", .ref td), ("_lost", .ref D), ("_notes", .ref nl)]) := by rw [← hH11]; exact upd_same
      have nlp : nl ≠ p := (ne_of_none p9 nnl).symm
      have nap : ∀ b, b ∈ na → b ≠ p := fun b hb => (ne_of_none p9 (hall b hb).2).symm
      -- self._log = []
      refine ⟨(by show 0 ≤ sizeLine; exact Nat.zero_le _), fun gl ngl => ?_⟩
      have glp : gl ≠ p := (ne_of_none p11 ngl).symm
      refine ⟨_, rfl, p, M, dx, _, rfl, (by rw [upd_ne glp.symm]; exact p11), TM.cl, TM.nG, (by show 6 < 1000; decide), ?_⟩
      generalize hH12 : upd (upd H11 gl _) p _ = H12
      have k12 : Keep p H11 H12 := by
        rw [← hH12]
        intro b o e h
        rw [upd_ne h, upd_ne (ne_of_none e ngl)]
        exact e
      have p12 : H12 p = some (.ins M dx [("layout", .ref a), ("count", .int 0), ("_passing", .ref pl), ("_trails", .ref td), ("_lost", .ref D), ("_notes", .ref nl), ("_log", .ref gl)]) := by rw [← hH12]; exact upd_same
      have g12 : H12 gl = some (.lst []) := by rw [← hH12, upd_ne glp, upd_same]
      have k6z : Keep p H6 H12 := (k9.trans k11).trans k12
      have k4z : Keep p H4 H12 := k6.trans k6z
      have pl12 := k4z _ _ e4 plp
      have et : (t : Int).toNat = t := by omega
      rw [et] at pl12
      have kz : Keep p H H12 := (k2.trans k4).trans k4z
      have nl11 : H11 nl = some (.lst (na.map V.ref)) := k10 _ _ hnl nlp
      have pl4 : H4 pl ≠ none := by rw [e4]; intro z; cases z
      have frN : ∀ {b : Addr}, b ≠ p → H4 b = none → H b = none := fun {b} hb e => by
        cases q : H b with
        | none => rfl
        | some o =>
          have := k4 _ _ (k2 _ _ q hb) hb
          rw [e] at this
          cases this
      have frN2 : ∀ {b : Addr}, b ≠ p → H6 b = none → H4 b = none := fun {b} hb e => by
        cases q : H4 b with
        | none => rfl
        | some o =>
          have := k6 _ _ q hb
          rw [e] at this
          cases this
      have frN3 : ∀ {b : Addr}, b ≠ p → H9 b = none → H6 b = none := fun {b} hb e => by
        cases q : H6 b with
        | none => rfl
        | some o =>
          have := k9 _ _ q hb
          rw [e] at this
          cases this
      have frN4 : ∀ {b : Addr}, b ≠ p → H11 b = none → H9 b = none := fun {b} hb e => by
        cases q : H9 b with
        | none => rfl
        | some o =>
          have := k11 _ _ q hb
          rw [e] at this
          cases this
      refine k ⟨a, pl, td, D, nl, gl, tl, na⟩ tr H12 rfl ⟨⟨dx, p12⟩, ⟨da, k12 _ _ (k11 _ _ a9 pa.symm) pa.symm⟩, pl12, ⟨k6z _ _ G6.d tdp, fun j hj => k6z _ _ (G6.l j hj) (tlp j hj), G6.inj⟩, k12 _ _ (k11 _ _ d9 pD) pD, k12 _ _ nl11 nlp, hlen, hnd, ?_, g12, ?_, ?_, ?_, ?_, pa⟩ ?_ kz ?_
      · intro i b hb
        have hm := List.mem_of_getElem? hb
        refine ⟨[], ?_, k12 _ _ (k10 _ _ (hall b hm).1 (nap b hm)) (nap b hm)⟩
        have hi : i < t := by
          have q : i < na.length := (List.getElem?_eq_some_iff.mp hb).1
          omega
        show (List.replicate t ([] : List (Key × V)))[i]? = some []
        rw [List.getElem?_replicate, if_pos hi]
      · intro j hj
        have e6 := k6z
        refine ⟨fun e => ?_, fun e => ?_, fun e => ?_⟩
        · have := R.new j hj
          have e : tl j = pl := e
          rw [e] at this
          exact pl4 this
        · have e : tl j = gl := e
          have := k11 _ _ (k9 _ _ (G6.l j hj) (tlp j hj)) (tlp j hj)
          rw [e, ngl] at this
          cases this
        · have e : tl j = nl := e
          have := k9 _ _ (G6.l j hj) (tlp j hj)
          rw [e, nnl] at this
          cases this
      · have q9 := k9 _ _ (k6 _ _ e4 plp) plp
        have q11 := k11 _ _ q9 plp
        refine ⟨fun e => ?_, fun e => ?_, fun e => ?_⟩
        · have e : pl = gl := e
          rw [e, ngl] at q11
          cases q11
        · have e : pl = nl := e
          rw [e, nnl] at q9
          cases q9
        · have e : gl = nl := e
          rw [← e, ngl] at nl11
          cases nl11
      · exact tdD
      · intro b hb
        have e9 := (hall b hb).2
        refine ⟨fun e => ?_, fun e => ?_⟩
        · have e : b = td := e
          have := k9 _ _ G6.d tdp
          rw [← e, e9] at this
          cases this
        · have e : b = D := e
          rw [← e, e9] at d9
          cases d9
      · intro j hj
        obtain ⟨v, e1, e2⟩ := R.ini j hj
        exact ⟨v, e1, e2⟩
      · intro b hb
        by_cases hbp : b = p
        · exact .inl hbp
        · refine .inr ?_
          rcases hb with e | e | e | e | e | e | ⟨j, hj, e⟩ | e
          · exact absurd e hbp
          · have e : b = pl := e
            rw [e]
            cases q : H pl with
            | none => rfl
            | some o =>
              have := k2 _ _ q plp
              rw [npl] at this
              cases this
          · have e : b = td := e
            rw [e]
            exact frN tdp R.nD
          · have e : b = D := e
            rw [e]
            exact frN pD (frN2 pD nD6)
          · have e : b = nl := e
            rw [e]
            exact frN nlp (frN2 nlp (frN3 nlp nnl))
          · have e : b = gl := e
            rw [e]
            exact frN glp (frN2 glp (frN3 glp (frN4 glp ngl)))
          · have e : b = tl j := e
            rw [e]
            exact frN (tlp j hj) (R.new j hj)
          · exact frN hbp (frN2 hbp (frN3 hbp (hall b e).2))
end
end Dk

set_option maxHeartbeats 4000000
/-! a memory is looked at -/
namespace Dk
open PySem PySem.Spec PyProof.Rows L2
abbrev sPeek : Stmt := inClass (top 16) 2
abbrev sLasting : Stmt := inClass (top 16) 3
abbrev sTrail : Stmt := inClass (top 16) 4
abbrev sAsk : Stmt := inClass (top 16) 8
/-- the present value of the cell i -/
def cellV (S : MS) (t i : Nat) : Option V := if i < 1 + t then S.ps[i]? else (S.tr (i - (1 + t))).getLast?
theorem inW_nat {n i : Nat} : inW 0 (((n : Nat) : Int) - 1) (.int (i : Int)) = decide (i < n) := by
  show (decide ((0 : Int) ≤ (i : Int)) && decide ((i : Int) ≤ (n : Int) - 1)) = _
  by_cases c : i < n
  · rw [decide_eq_true c, decide_eq_true (by omega), decide_eq_true (by omega)]
    rfl
  · rw [decide_eq_false c, decide_eq_false (p := (i : Int) ≤ (n : Int) - 1) (by omega)]
    exact Bool.and_false _
theorem lastB_nat {t w r i : Nat} : lastB (t : Int) w r (.int (i : Int)) = decide (1 + t ≤ i ∧ i < 1 + t + (t + w + r)) := by
  unfold lastB
  rw [cells_n, inW_nat, first_n]
  show (decide (i < 1 + t + (t + w + r)) && decide (((1 + t : Nat) : Int) ≤ (i : Int))) = _
  by_cases c : i < 1 + t + (t + w + r)
  · by_cases d : 1 + t ≤ i
    · rw [decide_eq_true c, decide_eq_true (by omega), decide_eq_true ⟨d, c⟩]
      rfl
    · rw [decide_eq_true c, decide_eq_false (p := ((1 + t : Nat) : Int) ≤ (i : Int)) (by omega), decide_eq_false (p := 1 + t ≤ i ∧ i < 1 + t + (t + w + r)) (fun z => d z.1)]
      rfl
  · rw [decide_eq_false c, decide_eq_false (p := 1 + t ≤ i ∧ i < 1 + t + (t + w + r)) (fun z => c z.2)]
    rfl
theorem recB_nat {t w r i : Nat} : recB (t : Int) w r (.int (i : Int)) = decide (1 + t + t + w ≤ i ∧ i < 1 + t + (t + w + r)) := by
  unfold recB
  rw [cells_n, inW_nat]
  show (decide (i < 1 + t + (t + w + r)) && decide (rec0 (t : Int) w + 0 ≤ (i : Int))) = _
  unfold rec0
  by_cases c : i < 1 + t + (t + w + r)
  · by_cases d : 1 + t + t + w ≤ i
    · rw [decide_eq_true c, decide_eq_true (by omega), decide_eq_true ⟨d, c⟩]
      rfl
    · rw [decide_eq_true c, decide_eq_false (p := (1 + (t : Int) + t + w + 0 ≤ (i : Int))) (by omega), decide_eq_false (p := 1 + t + t + w ≤ i ∧ i < 1 + t + (t + w + r)) (fun z => d z.1)]
      rfl
  · rw [decide_eq_false c, decide_eq_false (p := 1 + t + t + w ≤ i ∧ i < 1 + t + (t + w + r)) (fun z => c z.2)]
    rfl
theorem atI_getLast {xs : List V} {v : V} (h : xs.getLast? = some v) : atI xs (-1) = some v := by
  have : xs ≠ [] := by
    intro e
    rw [e] at h
    cases h
  have e := List.dropLast_concat_getLast this
  have h : xs.getLast this = v := by
    have e2 := List.getLast?_eq_some_getLast this
    rw [h] at e2
    exact (Option.some.inj e2).symm
  rw [h] at e
  rw [← e]
  exact atI_last _ _
def spPeek (C M : Addr) : Sp := fun vs H Q _ => ∃ (m : Addr) (t w r i : Nat) (A : Adr) (S : MS) (v : V), vs = [.ref m, .int (i : Int)] ∧ MemAt C M H m t w r A S ∧ i < 1 + t + (t + w + r) ∧ cellV S t i = some v ∧ Q v H
def spAsk (C M NV : Addr) : Sp := fun vs H Q E => ∃ (m : Addr) (t w r i : Nat) (A : Adr) (S : MS), vs = [.ref m, .int (i : Int)] ∧ MemAt C M H m t w r A S ∧
  ((1 + t ≤ i ∧ i < 1 + t + (t + w + r)) → Q .non H) ∧ (¬ (1 + t ≤ i ∧ i < 1 + t + (t + w + r)) → E (.ref NV) none H)
def spLasting (C M NV : Addr) : Sp := fun vs H Q E => ∃ (m : Addr) (t w r i : Nat) (A : Adr) (S : MS), vs = [.ref m, .int (i : Int)] ∧ MemAt C M H m t w r A S ∧
  ((1 + t ≤ i ∧ i < 1 + t + (t + w + r)) → ∃ v, (S.tr (i - (1 + t)))[0]? = some v ∧ Q v H) ∧ (¬ (1 + t ≤ i ∧ i < 1 + t + (t + w + r)) → E (.ref NV) none H)
def spTrail (C M NV : Addr) : Sp := fun vs H Q E => ∃ (m : Addr) (t w r i : Nat) (A : Adr) (S : MS), vs = [.ref m, .int (i : Int)] ∧ MemAt C M H m t w r A S ∧
  ((1 + t ≤ i ∧ i < 1 + t + (t + w + r)) → ∀ p, H p = none → Q (.ref p) (upd H p (.lst (S.tr (i - (1 + t)))))) ∧ (¬ (1 + t ≤ i ∧ i < 1 + t + (t + w + r)) → E (.ref NV) none H)
section
variable {P : Program} {w : World} {K : PySem.W.Frag} {mg : Str → Option Value} {base : Heap} {C M NV LE : Addr}
theorem scPeek : FnScope ["self", "cell"] ["self", "cell"] (defScope sPeek) := ⟨rfl, rfl, rfl, by decide +kernel, rfl, by decide +kernel, by decide +kernel⟩
theorem mo_peek (F : MT K M "peek" "Memory.peek" sPeek ["self", "cell"]) (T : LTxt K mg C) (TM : MTxt K M) (GI : MO P w K mg base CX0 C 6 "is_cell" ["self", "cell"] (spLV C fun t w r v => .bl (inW 0 (cells t w r - 1) v)))
    (GL : MO P w K mg base CX0 C 7 "is_lasting" ["self", "cell"] (spLV C fun t w r v => .bl (lastB t w r v))) : MO P w K mg base CX0 M 8 "peek" ["self", "cell"] (spPeek C M) := by
  obtain ⟨f, fd, F, hm, hb⟩ := F
  refine ⟨f, fd, ?_, hm, hb⟩
  refine F.ok scPeek (fun vs H Q E h => ?_) (fun cdv A outer s H vs Q E hr h => ?_)
  · obtain ⟨m, t, w, r, i, A, S, v, rfl, _⟩ := h
    rfl
  · obtain ⟨m, t, w, r, i, B, S, v, rfl, D, hi, hv, k⟩ := h
    obtain ⟨dx, h1⟩ := D.ob
    obtain ⟨da, ha⟩ := D.lay
    have hu := hu_of hr
    refine ⟨_, pss_cons (ps_if (pt_not (pt_val (pm_ GI T.cl (hr.mono (by decide)) (pe_fld (pv 0) rfl) (pa_cons (pv 1) pa_nil)))) (pss_one ps_never) pss_nil)
      (pss_cons (ps_if (pt_val (pm_ GL T.cl hr (pe_fld (pv 0) rfl) (pa_cons (pv 1) pa_nil))) (pss_one (ps_ret (pe_ix ix_list (pe_dget hu (pe_fld (pv 0) rfl) (pv 1) (fun _ _ => rfl)) (pe_un un_neg pe_int) (fun _ _ => rfl)))) pss_nil)
      (pss_one (ps_ret (pe_ix ix_list (pe_fld (pv 0) rfl) (pv 1) (fun _ _ => rfl))))), ?_⟩
    refine ⟨_, rfl, m, M, dx, _, _, rfl, h1, TM.cl, TM.nL, rfl, B.a, da, _, rfl, ha, rfl, _, rfl, B.a, t, w, r, _, "int", rfl, rfl, ⟨da, ha⟩, _, rfl, ?_⟩
    rw [cells_n, inW_nat, decide_eq_true hi]
    refine iteF ?_
    refine ⟨_, rfl, m, M, dx, _, _, rfl, h1, TM.cl, TM.nL, rfl, B.a, da, _, rfl, ha, rfl, _, rfl, B.a, t, w, r, _, "int", rfl, rfl, ⟨da, ha⟩, _, rfl, ?_⟩
    rw [lastB_nat]
    unfold cellV at hv
    by_cases c : i < 1 + t
    · rw [if_pos c] at hv
      rw [decide_eq_false (by omega)]
      refine iteF ?_
      exact ⟨_, rfl, m, M, dx, _, _, rfl, h1, TM.cl, TM.nP, rfl, _, rfl, B.pl, _, _, _, rfl, rfl, SqL.of D.ps, atI_nat hv, k⟩
    · rw [if_neg c] at hv
      rw [decide_eq_true (by omega)]
      refine iteT ?_
      have hj : i - (1 + t) < t + w + r := by omega
      have ei : ((1 + t : Nat) : Int) + ((i - (1 + t) : Nat) : Int) = (i : Int) := by omega
      have g : DGet H B.td (.int (i : Int)) (some (.ref (B.tl (i - (1 + t))))) := by
        have := DGet.k (k := (Sum.inl (i : Int) : Key)) D.tr.d
        rw [← ei, kv_val _ _ _ _ hj, ei] at this
        exact this
      exact ⟨_, rfl, m, M, dx, _, _, rfl, h1, TM.cl, TM.nT, rfl, _, rfl, B.td, _, rfl, g, 1, rfl, B.tl (i - (1 + t)), _, _, _, rfl, rfl, SqL.of (D.tr.l _ hj), atI_getLast hv, k⟩
theorem scAsk : FnScope ["self", "cell"] ["self", "cell"] (defScope sAsk) := ⟨rfl, rfl, rfl, by decide +kernel, rfl, by decide +kernel, by decide +kernel⟩
theorem mo_ask (F : MT K M "_ask_lasting" "Memory._ask_lasting" sAsk ["self", "cell"]) (T : LTxt K mg C) (TM : MTxt K M) (X0 : XTxt K mg NV LE)
    (GL : MO P w K mg base CX0 C 7 "is_lasting" ["self", "cell"] (spLV C fun t w r v => .bl (lastB t w r v))) : MO P w K mg base (L2.CX P w) M 8 "_ask_lasting" ["self", "cell"] (spAsk C M NV) := by
  obtain ⟨f, fd, F, hm, hb⟩ := F
  refine ⟨f, fd, ?_, hm, hb⟩
  refine F.okX scAsk (fun vs H Q E h => ?_) (fun cdv A outer s H vs Q E hr h => ?_)
  · obtain ⟨m, t, w, r, i, A, S, rfl, _⟩ := h
    rfl
  · obtain ⟨m, t, w, r, i, B, S, rfl, D, k1, k2⟩ := h
    obtain ⟨dx, h1⟩ := D.ob
    obtain ⟨da, ha⟩ := D.lay
    refine ⟨_, pss_one (ps_if (pt_not (pt_val (pm_ GL T.cl hr (pe_fld (pv 0) rfl) (pa_cons (pv 1) pa_nil))))
      (pss_one (ps_raise rfl (takes_of rfl rfl rfl rfl) (pmk_own0 PySem.F.excBase_ValueError X0.xN X0.gN X0.kN (raises_own X0.sN X0.tN) rfl))) pss_nil), ?_⟩
    refine ⟨_, rfl, m, M, dx, _, _, rfl, h1, TM.cl, TM.nL, rfl, B.a, da, _, rfl, ha, rfl, _, rfl, B.a, t, w, r, _, "int", rfl, rfl, ⟨da, ha⟩, _, rfl, ?_⟩
    rw [lastB_nat]
    by_cases c : 1 + t ≤ i ∧ i < 1 + t + (t + w + r)
    · rw [decide_eq_true c]
      exact iteF (k1 c)
    · rw [decide_eq_false c]
      exact iteT (k2 c)
theorem scLasting : FnScope ["self", "cell"] ["self", "cell"] (defScope sLasting) := ⟨rfl, rfl, rfl, by decide +kernel, rfl, by decide +kernel, by decide +kernel⟩
theorem mo_lasting (F : MT K M "lasting" "Memory.lasting" sLasting ["self", "cell"]) (TM : MTxt K M) (GA : MO P w K mg base (L2.CX P w) M 8 "_ask_lasting" ["self", "cell"] (spAsk C M NV)) :
    MO P w K mg base (L2.CX P w) M 9 "lasting" ["self", "cell"] (spLasting C M NV) := by
  obtain ⟨f, fd, F, hm, hb⟩ := F
  refine ⟨f, fd, ?_, hm, hb⟩
  refine F.okX scLasting (fun vs H Q E h => ?_) (fun cdv A outer s H vs Q E hr h => ?_)
  · obtain ⟨m, t, w, r, i, A, S, rfl, _⟩ := h
    rfl
  · obtain ⟨m, t, w, r, i, B, S, rfl, D, k1, k2⟩ := h
    obtain ⟨dx, h1⟩ := D.ob
    have hu := hu_of hr
    refine ⟨_, pss_cons (ps_expr (pmE_ (E := fun _ => E) GA TM.cl hr (fun σ => passAt (takes_of rfl rfl rfl rfl) σ) (pv 0) (pa_cons (pv 1) pa_nil)))
      (pss_one (ps_ret (pe_ix ix_list (pe_dget hu (pe_fld (pv 0) rfl) (pv 1) (fun _ _ => rfl)) pe_int (fun _ _ => rfl)))), ?_⟩
    refine ⟨_, rfl, m, dx, _, rfl, h1, rfl, _, rfl, m, t, w, r, i, B, S, rfl, D, fun c => ?_, k2⟩
    obtain ⟨v, hv, q⟩ := k1 c
    have hj : i - (1 + t) < t + w + r := by omega
    have ei : ((1 + t : Nat) : Int) + ((i - (1 + t) : Nat) : Int) = (i : Int) := by omega
    have g : DGet H B.td (.int (i : Int)) (some (.ref (B.tl (i - (1 + t))))) := by
      have := DGet.k (k := (Sum.inl (i : Int) : Key)) D.tr.d
      rw [← ei, kv_val _ _ _ _ hj, ei] at this
      exact this
    exact ⟨_, rfl, m, M, dx, _, _, rfl, h1, TM.cl, TM.nT, rfl, _, rfl, B.td, _, rfl, g, B.tl (i - (1 + t)), _, _, _, rfl, rfl, SqL.of (D.tr.l _ hj), atI_nat (j := 0) hv, q⟩
theorem scTrail : FnScope ["self", "cell"] ["self", "cell"] (defScope sTrail) := ⟨rfl, rfl, rfl, by decide +kernel, rfl, by decide +kernel, by decide +kernel⟩
theorem mo_trail (F : MT K M "trail" "Memory.trail" sTrail ["self", "cell"]) (T : LTxt K mg C) (TM : MTxt K M) (GA : MO P w K mg base (L2.CX P w) M 8 "_ask_lasting" ["self", "cell"] (spAsk C M NV)) :
    MO P w K mg base (L2.CX P w) M 9 "trail" ["self", "cell"] (spTrail C M NV) := by
  obtain ⟨f, fd, F, hm, hb⟩ := F
  refine ⟨f, fd, ?_, hm, hb⟩
  refine F.okX scTrail (fun vs H Q E h => ?_) (fun cdv A outer s H vs Q E hr h => ?_)
  · obtain ⟨m, t, w, r, i, A, S, rfl, _⟩ := h
    rfl
  · obtain ⟨m, t, w, r, i, B, S, rfl, D, k1, k2⟩ := h
    obtain ⟨dx, h1⟩ := D.ob
    have hu := hu_of hr
    refine ⟨_, pss_cons (ps_expr (pmE_ (E := fun _ => E) GA TM.cl hr (fun σ => passAt (takes_of rfl rfl rfl rfl) σ) (pv 0) (pa_cons (pv 1) pa_nil)))
      (pss_one (ps_ret (pe_callTy call_list_of (by rfl) T.bn.list (by decide +kernel) (pa_cons (pe_dget hu (pe_fld (pv 0) rfl) (pv 1) (fun _ _ => rfl)) pa_nil)))), ?_⟩
    refine ⟨_, rfl, m, dx, _, rfl, h1, rfl, _, rfl, m, t, w, r, i, B, S, rfl, D, fun c => ?_, k2⟩
    have q := k1 c
    have hj : i - (1 + t) < t + w + r := by omega
    have ei : ((1 + t : Nat) : Int) + ((i - (1 + t) : Nat) : Int) = (i : Int) := by omega
    have g : DGet H B.td (.int (i : Int)) (some (.ref (B.tl (i - (1 + t))))) := by
      have := DGet.k (k := (Sum.inl (i : Int) : Key)) D.tr.d
      rw [← ei, kv_val _ _ _ _ hj, ei] at this
      exact this
    exact ⟨_, rfl, m, M, dx, _, _, rfl, h1, TM.cl, TM.nT, rfl, _, rfl, B.td, _, rfl, g, B.tl (i - (1 + t)), _, rfl, .inl (SqL.of (D.tr.l _ hj)), q⟩
end
end Dk

set_option maxHeartbeats 4000000
/-! the tape of a law -/
namespace Dk
open PySem PySem.Spec PyProof.Rows L2
abbrev sTape : Stmt := top 18
abbrev sAt : Stmt := top 19
def Small (ms : List Int) : Prop := ∀ v, v ∈ ms → 0 ≤ v ∧ v < 1000
theorem Small.snoc {ms : List Int} {v : Int} (h : Small ms) (a : 0 ≤ v) (b : v < 1000) : Small (ms ++ [v]) := fun x hx => by
  rcases List.mem_append.mp hx with m | m
  · exact h x m
  · rw [List.mem_singleton.mp m]
    exact ⟨a, b⟩
def atD (ms : List Int) (k : Nat) : Int := (ms[k]?).getD 0
theorem atD_small {ms : List Int} {k : Nat} (h : Small ms) : 0 ≤ atD ms k ∧ atD ms k < 1000 := by
  unfold atD
  cases e : ms[k]? with
  | none => exact ⟨by decide, by decide⟩
  | some v => exact h v (List.mem_of_getElem? e)
def spTape (K : PySem.W.Frag) : Sp := fun vs H Q _ => ∃ (a : Addr) (ns : List Int), vs = [.ref a] ∧ SqL K H a (ns.map V.int) ∧ ns.length ≤ 63 ∧
  ∀ (p : Addr) (ms : List Int) (H' : Hp), H p = none → H' p = some (.lst (ms.map V.int)) → Small ms → ms.length ≤ 3780 → Same H H' → Q (.ref p) H'
def spAt (K : PySem.W.Frag) : Sp := fun vs H Q _ => ∃ (p : Addr) (ms : List Int) (k : Nat), vs = [.ref p, .int (k : Int)] ∧ SqL K H p (ms.map V.int) ∧ Q (.int (atD ms k)) H
section
variable {P : Program} {w : World} {K : PySem.W.Frag} {mg : Str → Option Value} {base : Heap}
theorem scTape : FnScope ["script", "tape", "k", "value", "step"] ["script"] (defScope sTape) := ⟨rfl, rfl, rfl, by decide +kernel, rfl, by decide +kernel, by decide +kernel⟩
theorem go_tape (F : GT K mg "_law_tape" sTape ["script"]) (T : Bn mg) : GO P w K mg base CX0 1 "_law_tape" ["script"] (spTape K) := by
  obtain ⟨f, fd, F, hm, hb⟩ := F
  refine ⟨f, fd, ?_, hm, F.kp, hb⟩
  refine F.ok scTape (fun vs H Q E h => ?_) (fun cdv A outer s H vs Q E hr h => ?_)
  · obtain ⟨a, ns, rfl, _⟩ := h
    rfl
  · obtain ⟨a, ns, rfl, hS, hlen, k⟩ := h
    have hsl : sizeLine = 16777216 := sizeLine_eq
    refine ⟨_, pss_cons (ps_set (i := 1) scTape.nd rfl (Or.inl rfl) (pe_lst pa_nil))
      (pss_cons (ps_for PassesOwn.never rfl (pi_range1 rfl T.range (pa_cons (pe_callB call_len_seq (by rfl) T.len PySem.boot_len (pa_cons (pv 0) pa_nil)) pa_nil)) (pg_name (i := 2) scTape.nd rfl (Or.inl rfl))
        (pss_cons (ps_set (i := 3) scTape.nd rfl (Or.inl rfl) (pe_callB call_abs (by rfl) T.abs (by decide +kernel) (pa_cons (pe_callTy call_int1 (by rfl) T.int (by decide +kernel) (pa_cons (pe_ix ix_list (pv 0) (pv 2) (fun _ _ => rfl)) pa_nil)) pa_nil)))
        (pss_one (ps_if (pt_cmpR op_ge (pv 3) (pe_op op_pow pe_int pe_int) (nomark _))
          (pss_one (ps_for PassesOwn.never rfl (pi_range1 rfl T.range (pa_cons pe_int pa_nil)) (pg_name (i := 4) scTape.nd rfl (Or.inl rfl))
            (pss_one (ps_if (pt_cmpR op_gt (pv 3) pe_int (nomark _))
              (pss_cons (ps_expr (pe_bm PySem.F.plainAttrs_list PySem.F.slot_list_append PySem.F.type_list_append mt_append (pv 1) (pa_cons (pe_op op_mod (pv 3) pe_int) pa_nil)))
              (pss_one (ps_set (i := 3) scTape.nd rfl (Or.inl rfl) (pe_op op_fdiv (pv 3) pe_int)))) pss_nil))))
          (pss_one (ps_for PassesOwn.never rfl (pi_range1 rfl T.range (pa_cons pe_int pa_nil)) (pg_name (i := 4) scTape.nd rfl (Or.inl rfl))
            (pss_cons (ps_set (i := 3) scTape.nd rfl (Or.inl rfl) (pe_op op_mod (pe_op op_add (pe_op op_add (pe_op op_mul (pv 3) pe_int) (pe_op op_mul pe_int (pe_op op_add (pv 2) pe_int))) (pe_op op_mul pe_int (pv 4))) pe_int))
            (pss_cons (ps_set (i := 3) scTape.nd rfl (Or.inl rfl) (pe_op op_mod (pe_op op_mul (pv 3) pe_int) pe_int))
            (pss_one (ps_expr (pe_bm PySem.F.plainAttrs_list PySem.F.slot_list_append PySem.F.type_list_append mt_append (pv 1) (pa_cons (pe_op op_mod (pe_op op_fdiv (pv 3) pe_int) pe_int) pa_nil))))))))))))
      (pss_one (ps_ret (pv 1)))), ?_⟩
    -- tape = []
    refine ⟨(by show 0 ≤ sizeLine; exact Nat.zero_le _), fun D hD => ?_⟩
    have s0 : Same H (upd H D (.lst [])) := fun b o e => by rw [upd_ne (ne_of_none e hD)]; exact e
    refine ⟨_, rfl, a, _, rfl, .inl (s0.seq hS), _, rfl, (by rw [List.length_map]; omega), (by rw [List.length_map]; omega), for_range (lo := 0) (n := ((ns.map V.int).length : Int).toNat)
      (fun i σ H2 => ∃ (x y z : Option V) (ms : List Int), σ = [some (.ref a), some (.ref D), x, y, z] ∧ H2 D = some (.lst (ms.map V.int)) ∧ Small ms ∧ ms.length ≤ 60 * i ∧ Same H H2) ⟨_, _, _, [], rfl, upd_same, fun v h => by simp at h, by simp, s0⟩ ?_ ?_⟩
    · rintro i σ H2 hi ⟨x, y, z, ms, rfl, hl, sm, len, s2⟩
      have hi' : i < ns.length := by
        rw [List.length_map] at hi
        omega
      have hv : (ns.map V.int)[i]? = some (V.int ns[i]) := by rw [List.getElem?_map, List.getElem?_eq_getElem hi']; rfl
      refine ⟨_, rfl, _, rfl, a, _, _, _, rfl, rfl, s2.seq hS, at_of (j := i) (by omega) hv, .inl ⟨_, rfl, _, rfl, ?_⟩⟩
      generalize hval : (if ns[i] < 0 then -ns[i] else ns[i]) = val
      refine ⟨_, rfl, _, _, rfl, rfl, ⟨by decide, by decide, by decide⟩, _, _, rfl, rfl, _, rfl, ite2 (fun _ => ?_) (fun _ => ?_)⟩
      · refine ⟨60, rfl, by decide, by decide, for_range (lo := 0) (n := (60 : Int).toNat)
          (fun l σ H2 => ∃ (val : Int) (z : Option V) (ms' : List Int), σ = [some (.ref a), some (.ref D), some (.int (0 + (i : Int))), some (.int val), z] ∧ H2 D = some (.lst (ms'.map V.int)) ∧ Small ms' ∧ ms'.length ≤ ms.length + l ∧ Same H H2) ⟨_, _, ms, rfl, hl, sm, by omega, s2⟩ ?_ ?_⟩
        · rintro l σ H3 hl3 ⟨val3, z3, ms3, rfl, hl3', sm3, len3, s3⟩
          refine ⟨_, rfl, _, _, rfl, rfl, _, rfl, ite2 (fun _ => ?_) (fun _ => ?_)⟩
          · refine ⟨_, rfl, .inl ⟨rfl, _, SqL.of hl3'⟩, _, rfl, _, _, rfl, rfl, (by show (0 : Int) < 1000; decide), D, _, _, rfl, rfl, hl3', ?_, ?_⟩
            · rw [List.length_map]
              have : (60 : Int).toNat = 60 := rfl
              omega
            · refine ⟨_, rfl, _, _, rfl, rfl, ⟨by decide, by decide⟩, ?_⟩
              refine ⟨_, _, ms3 ++ [val3 % 1000], rfl, ?_, sm3.snoc (Int.emod_nonneg _ (by decide)) (Int.emod_lt_of_pos _ (by decide)), ?_, fun b o e => ?_⟩
              · rw [upd_same, List.map_append]
                rfl
              · rw [List.length_append, List.length_singleton]
                omega
              · rw [upd_ne (ne_of_none e hD)]
                exact s3 b o e
          · exact ⟨_, _, ms3, rfl, hl3', sm3, by omega, s3⟩
        · rintro σ H3 ⟨val3, z3, ms3, rfl, hl3', sm3, len3, s3⟩
          exact ⟨_, _, _, ms3, rfl, hl3', sm3, (by have : (60 : Int).toNat = 60 := rfl; omega), s3⟩
      · refine ⟨4, rfl, by decide, by decide, for_range (lo := 0) (n := (4 : Int).toNat)
          (fun l σ H2 => ∃ (val : Int) (z : Option V) (ms' : List Int), σ = [some (.ref a), some (.ref D), some (.int (0 + (i : Int))), some (.int val), z] ∧ H2 D = some (.lst (ms'.map V.int)) ∧ Small ms' ∧ ms'.length ≤ ms.length + l ∧ Same H H2) ⟨_, _, ms, rfl, hl, sm, by omega, s2⟩ ?_ ?_⟩
        · rintro l σ H3 hl3 ⟨val3, z3, ms3, rfl, hl3', sm3, len3, s3⟩
          refine ⟨_, rfl, _, _, rfl, rfl, .inr ⟨by decide, by decide⟩, _, rfl, _, _, rfl, rfl, _, _, rfl, rfl, .inl ⟨by decide, by decide⟩, _, _, rfl, rfl, _, rfl, _, _, rfl, rfl, .inl ⟨by decide, by decide⟩, _, _, rfl, rfl, _, _, rfl, rfl, (by show (0 : Int) < 2147483647; decide), ?_⟩
          refine ⟨_, rfl, _, _, rfl, rfl, .inr ⟨by decide, by decide⟩, _, _, rfl, rfl, (by show (0 : Int) < 2147483647; decide), ?_⟩
          refine ⟨_, rfl, .inl ⟨rfl, _, SqL.of hl3'⟩, _, rfl, _, _, rfl, rfl, ⟨by decide, by decide⟩, _, _, rfl, rfl, (by show (0 : Int) < 1000; decide), D, _, _, rfl, rfl, hl3', ?_, ?_⟩
          · rw [List.length_map]
            have : (4 : Int).toNat = 4 := rfl
            omega
          · refine ⟨_, _, ms3 ++ [((val3 * 48271 + 69621 * (0 + (i : Int) + 1) + 7 * (0 + (l : Int))) % 2147483647 * 16807 % 2147483647 / 1000) % 1000], rfl, ?_, sm3.snoc (Int.emod_nonneg _ (by decide)) (Int.emod_lt_of_pos _ (by decide)), ?_, fun b o e => ?_⟩
            · rw [upd_same, List.map_append]
              rfl
            · rw [List.length_append, List.length_singleton]
              omega
            · rw [upd_ne (ne_of_none e hD)]
              exact s3 b o e
        · rintro σ H3 ⟨val3, z3, ms3, rfl, hl3', sm3, len3, s3⟩
          exact ⟨_, _, _, ms3, rfl, hl3', sm3, (by have : (4 : Int).toNat = 4 := rfl; omega), s3⟩
    · rintro σ H2 ⟨x, y, z, ms, rfl, hl, sm, len, s2⟩
      exact ⟨_, rfl, k D ms H2 hD hl sm (by rw [List.length_map] at len; omega) s2⟩
theorem scAt : FnScope ["tape", "k"] ["tape", "k"] (defScope sAt) := ⟨rfl, rfl, rfl, by decide +kernel, rfl, by decide +kernel, by decide +kernel⟩
theorem go_at (F : GT K mg "_law_at" sAt ["tape", "k"]) (T : Bn mg) : GO P w K mg base CX0 1 "_law_at" ["tape", "k"] (spAt K) := by
  obtain ⟨f, fd, F, hm, hb⟩ := F
  refine ⟨f, fd, ?_, hm, F.kp, hb⟩
  refine F.ok scAt (fun vs H Q E h => ?_) (fun cdv A outer s H vs Q E hr h => ?_)
  · obtain ⟨p, ms, k, rfl, _⟩ := h
    rfl
  · obtain ⟨p, ms, i, rfl, hS, k⟩ := h
    refine ⟨_, pss_cons (ps_if (pt_cmpR op_lt (pv 1) (pe_callB call_len_seq (by rfl) T.len PySem.boot_len (pa_cons (pv 0) pa_nil)) (nomark _)) (pss_one (ps_ret (pe_ix ix_list (pv 0) (pv 1) (fun _ _ => rfl)))) pss_nil)
      (pss_one (ps_ret pe_int)), ?_⟩
    refine ⟨_, rfl, _, rfl, p, _, rfl, .inl hS, _, _, rfl, rfl, _, rfl, ite2 (fun c => ?_) (fun c => ?_)⟩
    · have hi : i < ms.length := by
        have c := of_decide_eq_true c
        rw [List.length_map] at c
        omega
      have hv : (ms.map V.int)[i]? = some (V.int ms[i]) := by rw [List.getElem?_map, List.getElem?_eq_getElem hi]; rfl
      have ea : atD ms i = ms[i] := by unfold atD; rw [List.getElem?_eq_getElem hi]; rfl
      rw [ea] at k
      exact ⟨_, rfl, _, rfl, p, _, _, _, rfl, rfl, hS, atI_nat hv, k⟩
    · have hi : ¬ i < ms.length := fun h => c (decide_eq_true (by rw [List.length_map]; omega))
      have ea : atD ms i = 0 := by unfold atD; rw [List.getElem?_eq_none (by omega)]; rfl
      rw [ea] at k
      exact k
end
end Dk

set_option maxHeartbeats 4000000
/-! is_record, and a layout that is refused -/
namespace Dk
open PySem PySem.Spec PyProof.Rows L2
abbrev sIsRec : Stmt := inClass (top 11) 9
abbrev sTold : Stmt := top 20
section
variable {P : Program} {w : World} {K : PySem.W.Frag} {mg : Str → Option Value} {base : Heap} {C M NV LE : Addr}
theorem scIsRec : FnScope ["self", "cell"] ["self", "cell"] (defScope sIsRec) := ⟨rfl, rfl, rfl, by decide +kernel, rfl, by decide +kernel, by decide +kernel⟩
theorem mo_isrec (F : MT K C "is_record" "Layout.is_record" sIsRec ["self", "cell"]) (T : LTxt K mg C) (G : MO P w K mg base CX0 C 6 "is_cell" ["self", "cell"] (spLV C fun t w r v => .bl (inW 0 (cells t w r - 1) v)))
    (GC : MO P w K mg base CX0 C 4 "record" ["self", "index"] (spL1 C fun t w _ i => .int (rec0 t w + i))) : MO P w K mg base CX0 C 7 "is_record" ["self", "cell"] (spLV C fun t w r v => .bl (recB t w r v)) := by
  obtain ⟨f, fd, F, hm, hb⟩ := F
  refine ⟨f, fd, ?_, hm, hb⟩
  refine F.ok scIsRec (fun vs H Q E h => ?_) (fun cdv A outer s H vs Q E hr h => ?_)
  · obtain ⟨a, t, w, r, v, ty, rfl, _⟩ := h
    rfl
  · obtain ⟨a, t, w, r, v, ty, rfl, hv, L, k⟩ := h
    obtain ⟨dx, h1⟩ := id L
    refine ⟨_, pss_one (ps_ret (pe_and (pm_ G T.cl hr (pv 0) (pa_cons (pv 1) pa_nil)) (pe_one (pe_cmpR op_ge (pv 1) (pm_ GC T.cl (hr.mono (by decide)) (pv 0) (pa_cons pe_int pa_nil)) (nomark _))))), ?_⟩
    refine ⟨_, rfl, a, dx, _, rfl, h1, rfl, _, rfl, a, t, w, r, v, ty, rfl, hv, L, _, rfl, ?_⟩
    simp only [recB] at k
    cases v <;> cases hv
    · exact iteF k
    · exact iteF k
    · rename_i i
      cases h2 : inW 0 (cells t w r - 1) (.int i) with
      | true =>
        rw [h2] at k
        exact iteT ⟨_, rfl, _, rfl, a, dx, _, rfl, h1, rfl, a, t, w, r, _, rfl, L, _, _, rfl, rfl, (by rw [Bool.true_and] at k; exact k)⟩
      | false =>
        rw [h2] at k
        exact iteF (by rw [Bool.false_and] at k; exact k)
    · exact iteF k
theorem scTold : FnScope ["threads", "words", "records", "e"] ["threads", "words", "records"] (defScope sTold) := ⟨rfl, rfl, rfl, by decide +kernel, rfl, by decide +kernel, by decide +kernel⟩
theorem go_told {fI : Addr} {fdI : FuncData} (F : GT K mg "_law_told" sTold ["threads", "words", "records"]) (T : LTxt K mg C) (X0 : XTxt K mg NV LE) (gC : mg "Layout" = some (.ref C)) (M : Mk K C fI)
    (FI : FnOk P w K mg base (L2.CX P w) 3 fI fdI ["self", "threads", "words", "records"] (spLInit C NV)) (bI : Binds K fdI ["self", "threads", "words", "records"] []) :
    GO P w K mg base CX0 5 "_law_told" ["threads", "words", "records"] (spTold C) := by
  obtain ⟨f, fd, F, hm, hb⟩ := F
  refine ⟨f, fd, ?_, hm, F.kp, hb⟩
  refine F.ok scTold (fun vs H Q E h => ?_) (fun cdv A outer s H vs Q E hr h => ?_)
  · obtain ⟨t, w, r, rfl, _⟩ := h
    rfl
  · obtain ⟨t, w, r, rfl, k1, k2⟩ := h
    refine ⟨_, pss_one (ps_try_as (i := 3) (tb := fun W => tRet (tMakeE C (spLInit C NV) (WE W) (tCons (tVar 0) (tCons (tVar 1) (tCons (tVar 2) tNil)))))
      (ts := fun a cls d => tRet (tLst (tCons (tCB (rIsE' K NV a cls d) (tCons (tVar 3) (tCons (tC (.ref NV)) tNil))) tNil))) (Wout := fun _ _ _ _ => False) rfl rfl scTold.nd rfl rfl ⟨rfl, by decide, Or.inl X0.gL⟩ takes0
        (fun W pn xe tk _ => pss_one (ps_ret (pe_makeE M FI hr rfl gC bI (fun σ => passAt tk σ) (by exact (pa_cons (pv 0) (pa_cons (pv 1) (pa_cons (pv 2) pa_nil)))))))
        (fun a oe cls d pn hz hf => pss_one (ps_ret (pe_lst (pa_cons (pe_callB (call_isE' X0.eC hz hf) (by rfl) T.bn.isi (by decide +kernel) (pa_cons (pv 3) (pa_cons (pe_glob rfl X0.gN rfl) pa_nil))) pa_nil))))), ?_⟩
    refine ⟨_, rfl, _, rfl, _, rfl, fun x dx nx ndx ne => ⟨x, dx, t, w, r, rfl, upd_same, fun q H' L kp => ⟨rfl, ?_⟩, fun q => ?_⟩⟩
    · exact k1 q x H' nx L (Same.made nx ndx kp)
    · refine ⟨true, X0.eN, fun _ a ha => ?_, fun z => Bool.noConfusion z⟩
      refine ⟨_, rfl, rfl, rfl, _, _, true, rfl, fun u hu => hu, X0.kit, (by show 1 ≤ sizeLine; decide), fun p hp => ?_⟩
      have s0 : Same H (upd (upd H dx (.own x)) x (.ins C dx [])) := fun b o e => by
        rw [upd_ne (ne_of_none e nx), upd_ne (ne_of_none e ndx)]
        exact e
      exact k2 q p _ upd_same fun b o e => by rw [upd_ne (ne_of_none (s0 b o e) hp)]; exact s0 b o e
end
end Dk

set_option maxHeartbeats 4000000
/-! the defs of law k01 -/
namespace Dk
open PySem PySem.Spec PyProof.Rows L2
abbrev sListed : Stmt := top 21
abbrev sDue : Stmt := top 22
abbrev sLasts : Stmt := top 23
abbrev sSame : Stmt := top 24
theorem _root_.L2.SqT.same {K : PySem.W.Frag} {H H' : Hp} {a : Addr} {xs : List V} (h : SqT K H a xs) (s : Same H H') : SqT K H' a xs :=
  h.elim (fun h => .inl (h.elim (fun h => .inl (s _ _ h)) fun ⟨o, h⟩ => .inr ⟨o, s _ _ h⟩)) fun h => .inr h
theorem tyT {K : PySem.W.Frag} {H : Hp} {a : Addr} {xs : List V} (h : SqT K H a xs) : TyX K H (.ref a) (.type "tuple") := by
  rcases h with (h | ⟨o, h⟩) | ⟨o, its, n, h, c, _⟩
  · exact .base (.tup h)
  · exact .fTuple h
  · exact .kTuple h c
/-- the tuple ("items", ()) stands at q -/
def ItemsAt (K : PySem.W.Frag) (H : Hp) (q : Addr) : Prop := ∃ e, SqT K H q [.str "items", .ref e] ∧ SqT K H e []
theorem ItemsAt.same {K : PySem.W.Frag} {H H' : Hp} {q : Addr} (h : ItemsAt K H q) (s : Same H H') : ItemsAt K H' q := by
  obtain ⟨e, h1, h2⟩ := h
  exact ⟨e, h1.same s, h2.same s⟩
/-- lo, lo + 1, .. -/
def rI (lo : Int) (n : Nat) : List V := (List.range n).map fun (j : Nat) => V.int (lo + (j : Int))
theorem rI_len (lo : Int) (n : Nat) : (rI lo n).length = n := by unfold rI; rw [List.length_map, List.length_range]
theorem rI_succ (lo : Int) (n : Nat) : rI lo (n + 1) = rI lo n ++ [V.int (lo + (n : Int))] := by
  unfold rI
  rw [List.range_succ, List.map_append]
  rfl
theorem rI_app (lo : Int) (n : Nat) : ∀ m : Nat, rI lo n ++ rI (lo + (n : Int)) m = rI lo (n + m)
  | 0 => by
    have e : rI (lo + (n : Int)) 0 = [] := rfl
    rw [e, List.append_nil]
    rfl
  | m + 1 => by
    rw [rI_succ, ← List.append_assoc, rI_app lo n m, show n + (m + 1) = (n + m) + 1 from rfl, rI_succ]
    rw [show lo + (n : Int) + (m : Int) = lo + ((n + m : Nat) : Int) by omega]
def spListed (C : Addr) : Sp := fun vs H Q _ => ∃ (a : Addr) (t w r : Nat), vs = [.ref a] ∧ LayAt C H a t w r ∧ NOk t w r ∧
  ∀ (D : Addr) (H' : Hp), H D = none → H' D = some (.lst (rI 0 (1 + t + (t + w + r)))) → Same H H' → Q (.ref D) H'
/-- what a cell holds at first -/
def DueV (K : PySem.W.Frag) (H : Hp) (t w i : Nat) (v : V) : Prop :=
  if i = 0 then v = .int 0 else if i < 1 + 2 * t then v = .non else if i < 1 + 2 * t + w then v = .int ((i + w : Nat) : Int) else if i < 1 + 2 * t + 2 * w then ∃ q, v = .ref q ∧ ItemsAt K H q else v = .non
def spDue (K : PySem.W.Frag) (C : Addr) : Sp := fun vs H Q _ => ∃ (a : Addr) (t w r i : Nat), vs = [.ref a, .int (i : Int)] ∧ LayAt C H a t w r ∧ NOk t w r ∧
  ∀ (v : V) (H' : Hp), DueV K H' t w i v → Same H H' → Q v H'
def spLasts (C M : Addr) : Sp := fun vs H Q _ => ∃ (m : Addr) (t w r i : Nat) (A : Adr) (S : MS), vs = [.ref m, .int (i : Int)] ∧ MemAt C M H m t w r A S ∧
  ((1 + t ≤ i ∧ i < 1 + t + (t + w + r)) → ∃ v, (S.tr (i - (1 + t)))[0]? = some v ∧ ∀ (p q : Addr) (H' : Hp), H' p = some (.lst (S.tr (i - (1 + t)))) → H' q = some (.lst [.ref p, v]) → Same H H' → Q (.ref q) H') ∧
  (¬ (1 + t ≤ i ∧ i < 1 + t + (t + w + r)) → Q (.bl true) H)
inductive SameV (K : PySem.W.Frag) (H : Hp) : V → V → Prop where
  | non : SameV K H .non .non
  | int (i : Int) : SameV K H (.int i) (.int i)
  | it {p q : Addr} (hp : ItemsAt K H p) (hq : ItemsAt K H q) : SameV K H (.ref p) (.ref q)
def spSame (K : PySem.W.Frag) : Sp := fun vs H Q _ => ∃ x y, vs = [x, y] ∧ SameV K H x y ∧ Q (.bl true) H
def itemsD : PyData := .tuple [.str "items", .tuple []]
theorem ItemsAt.dp {K : PySem.W.Frag} {H : Hp} {q : Addr} (h : ItemsAt K H q) : Dp K H (.ref q) itemsD := by
  obtain ⟨e, h1, h2⟩ := h
  exact .tup h1 (.cons (.str _) (.cons (.tup h2 .nil) .nil))
section
variable {P : Program} {w : World} {K : PySem.W.Frag} {mg : Str → Option Value} {base : Heap} {C M NV LE : Addr}
theorem scSame : FnScope ["told", "due"] ["told", "due"] (defScope sSame) := ⟨rfl, rfl, rfl, by decide +kernel, rfl, by decide +kernel, by decide +kernel⟩
theorem go_same (F : GT K mg "_law_same" sSame ["told", "due"]) (T : Bn mg) : GO P w K mg base CX0 1 "_law_same" ["told", "due"] (spSame K) := by
  obtain ⟨f, fd, F, hm, hb⟩ := F
  refine ⟨f, fd, ?_, hm, F.kp, hb⟩
  refine F.ok scSame (fun vs H Q E h => ?_) (fun cdv A outer s H vs Q E hr h => ?_)
  · obtain ⟨x, y, rfl, _⟩ := h
    rfl
  · obtain ⟨x, y, rfl, hs, k⟩ := h
    refine ⟨_, pss_cons (ps_if (pt_cmpR op_isN (pv 1) pe_non (nomark _)) (pss_one (ps_ret (pe_cmp (pc_isN (pv 0)) rfl))) pss_nil)
      (pss_one (ps_ret (pe_and (pe_cmpR op_eq (pe_callB call_isi (by rfl) T.isi (by decide +kernel) (pa_cons (pv 0) (pa_cons (pe_bltn (v := .ty "tuple") (by rfl) T.tuple (by decide +kernel) rfl) pa_nil)))
          (pe_callB call_isi (by rfl) T.isi (by decide +kernel) (pa_cons (pv 1) (pa_cons (pe_bltn (v := .ty "tuple") (by rfl) T.tuple (by decide +kernel) rfl) pa_nil))) (nomark _))
        (pe_and (pe_not (pe_callB call_isi (by rfl) T.isi (by decide +kernel) (pa_cons (pv 0) (pa_cons (pe_bltn (v := .ty "bool") (by rfl) T.bool (by decide +kernel) rfl) pa_nil))))
        (pe_one (pe_cmpR (op_eqD hr.units) (pv 0) (pv 1) (nomark _))))))), ?_⟩
    cases hs with
    | non => exact ⟨_, rfl, rfl, _, rfl, iteT ⟨_, rfl, k⟩⟩
    | int i =>
      have ty := ty_of (K := K) (H := H) (v := .int i) rfl
      refine ⟨_, rfl, rfl, _, rfl, iteF ?_⟩
      refine ⟨_, rfl, _, _, _, _, false, rfl, .ty "tuple", ty, kit_ty (by decide +kernel), _, rfl, _, _, _, _, false, rfl, .ty "tuple", ty, kit_ty (by decide +kernel), rfl, _, rfl, iteT ?_⟩
      refine ⟨_, rfl, _, _, _, _, false, rfl, .ty "bool", ty, kit_ty (by decide +kernel), _, rfl, _, rfl, iteT ?_⟩
      refine ⟨_, rfl, _, rfl, .int i, .int i, .int i, .int i, rfl, rfl, ?_⟩
      have e : PyData.eqv (.int i) (.int i) = true := SeqAt.eqv_refl _ rfl
      rw [e]
      exact k
    | it hp hq =>
      obtain ⟨e1, p1, p2⟩ := id hp
      obtain ⟨e2, q1, q2⟩ := id hq
      refine ⟨_, rfl, rfl, _, rfl, iteF ?_⟩
      refine ⟨_, rfl, _, _, _, _, true, rfl, .ty "tuple", tyT p1, kit_ty (by decide +kernel), _, rfl, _, _, _, _, true, rfl, .ty "tuple", tyT q1, kit_ty (by decide +kernel), rfl, _, rfl, iteT ?_⟩
      refine ⟨_, rfl, _, _, _, _, false, rfl, .ty "bool", tyT p1, kit_ty (by decide +kernel), _, rfl, _, rfl, iteT ?_⟩
      refine ⟨_, rfl, _, rfl, itemsD, itemsD, hp.dp, hq.dp, (by decide +kernel), (by decide +kernel), ?_⟩
      have e : PyData.eqv itemsD itemsD = true := SeqAt.eqv_refl _ (by decide +kernel)
      rw [e]
      exact k
theorem scLasts : FnScope ["memory", "cell", "e"] ["memory", "cell"] (defScope sLasts) := ⟨rfl, rfl, rfl, by decide +kernel, rfl, by decide +kernel, by decide +kernel⟩
theorem go_lasts (F : GT K mg "_law_lasts" sLasts ["memory", "cell"]) (T : LTxt K mg C) (TM : MTxt K M) (X0 : XTxt K mg NV LE) (GT : MO P w K mg base (L2.CX P w) M 9 "trail" ["self", "cell"] (spTrail C M NV))
    (GL : MO P w K mg base (L2.CX P w) M 9 "lasting" ["self", "cell"] (spLasting C M NV)) : GO P w K mg base CX0 10 "_law_lasts" ["memory", "cell"] (spLasts C M) := by
  obtain ⟨f, fd, F, hm, hb⟩ := F
  refine ⟨f, fd, ?_, hm, F.kp, hb⟩
  refine F.ok scLasts (fun vs H Q E h => ?_) (fun cdv A outer s H vs Q E hr h => ?_)
  · obtain ⟨m, t, w, r, i, A, S, rfl, _⟩ := h
    rfl
  · obtain ⟨m, t, w, r, i, B, S, rfl, D, k1, k2⟩ := h
    obtain ⟨dx, h1⟩ := D.ob
    refine ⟨_, pss_one (ps_try_as (i := 2) (tb := fun W => tRet (tLst (tCons (tMethE M "trail" (spTrail C M NV) (WE W) (tVar 0) (tCons (tVar 1) tNil)) (tCons (tMethE M "lasting" (spLasting C M NV) (WE W) (tVar 0) (tCons (tVar 1) tNil)) tNil))))
      (ts := fun a cls d => tRet (tCB (rIsE' K NV a cls d) (tCons (tVar 2) (tCons (tC (.ref NV)) tNil)))) (Wout := fun _ _ _ _ => False) rfl rfl scLasts.nd rfl rfl ⟨rfl, by decide, Or.inl X0.gL⟩ takes0
        (fun W pn xe tk _ => pss_one (ps_ret (pe_lst (pa_cons (pmE_ GT TM.cl hr (fun σ => passAt tk σ) (pv 0) (by exact (pa_cons (pv 1) pa_nil))) (pa_cons (pmE_ GL TM.cl hr (fun σ => passAt tk σ) (pv 0) (by exact (pa_cons (pv 1) pa_nil))) pa_nil)))))
        (fun a oe cls d pn hz hf => pss_one (ps_ret (pe_callB (call_isE' X0.eC hz hf) (by rfl) T.bn.isi (by decide +kernel) (pa_cons (pv 2) (pa_cons (pe_glob rfl X0.gN rfl) pa_nil)))))), ?_⟩
    have bad : ¬ (1 + t ≤ i ∧ i < 1 + t + (t + w + r)) → ∀ (D : Ends), D.rt = Q → wAs K (.ref LE) 2 (fun a cls d => tRet (tCB (rIsE' K NV a cls d) (tCons (tVar 2) (tCons (tC (.ref NV)) tNil)))) (fun _ _ _ _ => False) D (.ref NV) none (L2.start ["memory", "cell", "e"] [.ref m, .int (i : Int)]) H := fun c D hD => by
      refine ⟨true, X0.eN, fun _ a ha => ?_, fun z => Bool.noConfusion z⟩
      refine ⟨_, rfl, rfl, rfl, _, _, true, rfl, fun u hu => hu, X0.kit, ?_⟩
      show D.rt (.bl true) H
      rw [hD]
      exact k2 c
    refine ⟨_, rfl, m, dx, _, rfl, h1, rfl, _, rfl, m, t, w, r, i, B, S, rfl, D, fun c p hp => ?_, fun c => bad c _ rfl⟩
    obtain ⟨v, hv, q⟩ := k1 c
    have s1 : Same H (upd H p (.lst (S.tr (i - (1 + t))))) := fun b o e => by rw [upd_ne (ne_of_none e hp)]; exact e
    have D2 : MemAt C M (upd H p (.lst (S.tr (i - (1 + t))))) m t w r B S := ⟨⟨dx, s1 _ _ h1⟩, let ⟨x, hx⟩ := D.lay; ⟨x, s1 _ _ hx⟩, s1 _ _ D.ps, D.tr.same s1, s1 _ _ D.ld, s1 _ _ D.nl, D.nn, D.nd,
      fun j b hb => let ⟨ns, e1, e2⟩ := D.no j b hb; ⟨ns, e1, s1 _ _ e2⟩, s1 _ _ D.gl, D.d1, D.d2, D.d3, D.d4, D.d5⟩
    refine ⟨_, rfl, m, dx, _, rfl, s1 _ _ h1, rfl, _, rfl, m, t, w, r, i, B, S, rfl, D2, fun _ => ⟨v, hv, (by show 2 ≤ sizeLine; decide), fun p2 hp2 => ?_⟩, fun c2 => absurd c c2⟩
    refine q p p2 _ ?_ upd_same fun b o e => ?_
    · rw [upd_ne (ne_of_none upd_same hp2)]
      exact upd_same
    · rw [upd_ne (ne_of_none (s1 _ _ e) hp2)]
      exact s1 _ _ e
theorem scDue : FnScope ["layout", "cell", "first"] ["layout", "cell"] (defScope sDue) := ⟨rfl, rfl, rfl, by decide +kernel, rfl, by decide +kernel, by decide +kernel⟩
theorem go_due (F : GT K mg "_law_due" sDue ["layout", "cell"]) (T : LTxt K mg C) : GO P w K mg base CX0 1 "_law_due" ["layout", "cell"] (spDue K C) := by
  obtain ⟨f, fd, F, hm, hb⟩ := F
  refine ⟨f, fd, ?_, hm, F.kp, hb⟩
  refine F.ok scDue (fun vs H Q E h => ?_) (fun cdv A outer s H vs Q E hr h => ?_)
  · obtain ⟨a, t, w, r, i, rfl, _⟩ := h
    rfl
  · obtain ⟨a, t, w, r, i, rfl, ⟨dx, h1⟩, ok, k⟩ := h
    refine ⟨_, pss_cons (ps_set (i := 2) scDue.nd rfl (Or.inl rfl) (pe_op op_add pe_int (pe_op op_mul pe_int (pe_fld (pv 0) rfl))))
      (pss_cons (ps_if (pt_cmpR op_eq (pv 1) pe_int (nomark _)) (pss_one (ps_ret pe_int)) pss_nil)
      (pss_cons (ps_if (pt_cmpR op_lt (pv 1) (pv 2) (nomark _)) (pss_one (ps_ret pe_non)) pss_nil)
      (pss_cons (ps_if (pt_cmpR op_lt (pv 1) (pe_op op_add (pv 2) (pe_fld (pv 0) rfl)) (nomark _)) (pss_one (ps_ret (pe_op op_add (pv 1) (pe_fld (pv 0) rfl)))) pss_nil)
      (pss_cons (ps_if (pt_cmpR op_lt (pv 1) (pe_op op_add (pv 2) (pe_op op_mul pe_int (pe_fld (pv 0) rfl))) (nomark _)) (pss_one (ps_ret (pe_tup (pa_cons pe_str (pa_cons (pe_tup pa_nil) pa_nil))))) pss_nil)
      (pss_one (ps_ret pe_non)))))), ?_⟩
    refine ⟨_, rfl, a, C, dx, _, _, rfl, h1, T.cl, T.nT, rfl, _, _, rfl, rfl, .inl ⟨by decide, by decide⟩, _, _, rfl, rfl, ?_⟩
    refine ⟨_, rfl, rfl, _, rfl, ite2 (fun c => ?_) (fun c => ?_)⟩
    · have c : V.int (i : Int) = V.int 0 := of_decide_eq_true c
      have c : (i : Int) = 0 := V.int.inj c
      refine k _ H ?_ (Same.refl H)
      unfold DueV
      rw [if_pos (by omega)]
    · have c1 : i ≠ 0 := fun e => c (decide_eq_true (by rw [e]; rfl))
      refine ⟨_, rfl, _, rfl, _, _, rfl, rfl, _, rfl, ite2 (fun c => ?_) (fun c => ?_)⟩
      · have c := of_decide_eq_true c
        refine k _ H ?_ (Same.refl H)
        unfold DueV
        rw [if_neg c1, if_pos (by omega)]
      · have c2 : ¬ i < 1 + 2 * t := fun e => c (decide_eq_true (by omega))
        refine ⟨_, rfl, _, rfl, _, rfl, a, C, dx, _, _, rfl, h1, T.cl, T.nW, rfl, _, _, rfl, rfl, _, _, rfl, rfl, _, rfl, ite2 (fun c => ?_) (fun c => ?_)⟩
        · have c := of_decide_eq_true c
          refine ⟨_, rfl, _, rfl, a, C, dx, _, _, rfl, h1, T.cl, T.nW, rfl, _, _, rfl, rfl, k _ H ?_ (Same.refl H)⟩
          unfold DueV
          rw [if_neg c1, if_neg c2, if_pos (by omega)]
          exact congrArg V.int (by omega)
        · have c3 : ¬ i < 1 + 2 * t + w := fun e => c (decide_eq_true (by omega))
          refine ⟨_, rfl, _, rfl, _, rfl, a, C, dx, _, _, rfl, h1, T.cl, T.nW, rfl, _, _, rfl, rfl, .inl ⟨by decide, by decide⟩, _, _, rfl, rfl, _, _, rfl, rfl, _, rfl, ite2 (fun c => ?_) (fun c => ?_)⟩
          · have c := of_decide_eq_true c
            refine ⟨(by show 0 ≤ sizeLine; exact Nat.zero_le _), fun e0 he0 => ⟨(by show 2 ≤ sizeLine; decide), fun q hq => ?_⟩⟩
            have s1 : Same H (upd H e0 (.tup [])) := fun b o e => by rw [upd_ne (ne_of_none e he0)]; exact e
            have s2 : Same (upd H e0 (.tup [])) (upd (upd H e0 (.tup [])) q (.tup [.str "items", .ref e0])) := fun b o e => by rw [upd_ne (ne_of_none e hq)]; exact e
            refine k (.ref q) _ ?_ (s1.trans s2)
            unfold DueV
            rw [if_neg c1, if_neg c2, if_neg c3, if_pos (by omega)]
            exact ⟨q, rfl, e0, SqT.of upd_same, SqT.of (s2 _ _ upd_same)⟩
          · have c4 : ¬ i < 1 + 2 * t + 2 * w := fun e => c (decide_eq_true (by omega))
            refine k _ H ?_ (Same.refl H)
            unfold DueV
            rw [if_neg c1, if_neg c2, if_neg c3, if_neg c4]
end
end Dk

set_option maxHeartbeats 4000000
/-! the cells listed -/
namespace Dk
open PySem PySem.Spec PyProof.Rows L2
section
variable {P : Program} {w : World} {K : PySem.W.Frag} {mg : Str → Option Value} {base : Heap} {C M NV LE : Addr}
theorem scListed : FnScope ["layout", "cells", "k"] ["layout"] (defScope sListed) := ⟨rfl, rfl, rfl, by decide +kernel, rfl, by decide +kernel, by decide +kernel⟩
theorem go_listed (F : GT K mg "_law_listed" sListed ["layout"]) (T : LTxt K mg C) (GE : MO P w K mg base CX0 C 1 "epoch" ["self"] (spL0 C fun _ _ _ => .int 0)) (GS : MO P w K mg base CX0 C 1 "epoch_slot" ["self", "thread"] (spL1 C fun _ _ _ i => .int (1 + i)))
    (GC : MO P w K mg base CX0 C 2 "call_slot" ["self", "thread"] (spL1 C fun t _ _ i => .int (first t + i))) (GW : MO P w K mg base CX0 C 3 "word" ["self", "index"] (spL1 C fun t _ _ i => .int (first t + t + i)))
    (GR : MO P w K mg base CX0 C 4 "record" ["self", "index"] (spL1 C fun t w _ i => .int (rec0 t w + i))) : GO P w K mg base CX0 5 "_law_listed" ["layout"] (spListed C) := by
  obtain ⟨f, fd, F, hm, hb⟩ := F
  refine ⟨f, fd, ?_, hm, F.kp, hb⟩
  refine F.ok scListed (fun vs H Q E h => ?_) (fun cdv A outer s H vs Q E hr h => ?_)
  · obtain ⟨a, t, w, r, rfl, _⟩ := h
    rfl
  · obtain ⟨a, t, w, r, rfl, ⟨dx, h1⟩, ok, k⟩ := h
    have hsl : sizeLine = 16777216 := sizeLine_eq
    have q2 := ok.t3
    have q4 := ok.w4
    have q6 := ok.r200
    have hr1 : Room 1 _ := hr.mono (by decide)
    have hr2 : Room 2 _ := hr.mono (by decide)
    have hr3 : Room 3 _ := hr.mono (by decide)
    refine ⟨_, pss_cons (ps_set (i := 1) scListed.nd rfl (Or.inl rfl) (pe_lst (pa_cons (pm0_ GE T.cl hr1 (pv 0)) pa_nil)))
      (pss_cons (ps_set (i := 1) scListed.nd rfl (Or.inl rfl) (pe_op op_cat (pv 1) (pe_lc (own := [("k", 2)]) (g := gName 2) (tt := tYes) rfl scListed.nd (pi_range1 rfl T.bn.range (pa_cons (pe_fld (pv 0) rfl) pa_nil))
        (blkOk_by (N := ["layout", "cells", "k"]) (sc := defScope sListed) (by decide +kernel)) (fun _ _ _ _ _ => pg_name (i := 2) scListed.nd rfl (Or.inl rfl)) (fun _ _ _ _ _ => pts_nil) (fun _ _ _ _ _ => pm_ GS T.cl hr1 (pv 0) (pa_cons (pv 2) pa_nil)))))
      (pss_cons (ps_set (i := 1) scListed.nd rfl (Or.inl rfl) (pe_op op_cat (pv 1) (pe_lc (own := [("k", 2)]) (g := gName 2) (tt := tYes) rfl scListed.nd (pi_range1 rfl T.bn.range (pa_cons (pe_fld (pv 0) rfl) pa_nil))
        (blkOk_by (N := ["layout", "cells", "k"]) (sc := defScope sListed) (by decide +kernel)) (fun _ _ _ _ _ => pg_name (i := 2) scListed.nd rfl (Or.inl rfl)) (fun _ _ _ _ _ => pts_nil) (fun _ _ _ _ _ => pm_ GC T.cl hr2 (pv 0) (pa_cons (pv 2) pa_nil)))))
      (pss_cons (ps_set (i := 1) scListed.nd rfl (Or.inl rfl) (pe_op op_cat (pv 1) (pe_lc (own := [("k", 2)]) (g := gName 2) (tt := tYes) rfl scListed.nd (pi_range1 rfl T.bn.range (pa_cons (pe_fld (pv 0) rfl) pa_nil))
        (blkOk_by (N := ["layout", "cells", "k"]) (sc := defScope sListed) (by decide +kernel)) (fun _ _ _ _ _ => pg_name (i := 2) scListed.nd rfl (Or.inl rfl)) (fun _ _ _ _ _ => pts_nil) (fun _ _ _ _ _ => pm_ GW T.cl hr3 (pv 0) (pa_cons (pv 2) pa_nil)))))
      (pss_one (ps_ret (pe_op op_cat (pv 1) (pe_lc (own := [("k", 2)]) (g := gName 2) (tt := tYes) rfl scListed.nd (pi_range1 rfl T.bn.range (pa_cons (pe_fld (pv 0) rfl) pa_nil))
        (blkOk_by (N := ["layout", "cells", "k"]) (sc := defScope sListed) (by decide +kernel)) (fun _ _ _ _ _ => pg_name (i := 2) scListed.nd rfl (Or.inl rfl)) (fun _ _ _ _ _ => pts_nil) (fun _ _ _ _ _ => pm_ GR T.cl hr (pv 0) (pa_cons (pv 2) pa_nil))))))))), ?_⟩
    have up : ∀ {H1 : Hp} {p : Addr} {o : HO}, H1 p = none → Same H1 (upd H1 p o) := fun {H1 p o} hp b u e => by rw [upd_ne (ne_of_none e hp)]; exact e
    -- cells = [layout.epoch()]
    refine ⟨_, rfl, a, dx, _, rfl, h1, rfl, a, t, w, r, rfl, ⟨dx, h1⟩, (by show 1 ≤ sizeLine; decide), fun p0 hp0 => ?_⟩
    have s0 := up (o := HO.lst [V.int 0]) hp0
    generalize hH0 : upd H p0 (HO.lst [V.int 0]) = H0 at s0 ⊢
    have l0 : H0 p0 = some (.lst (rI 0 1)) := by rw [← hH0]; exact upd_same
    have g0 := s0 _ _ h1
    -- the epoch slots
    refine ⟨_, rfl, _, rfl, a, C, dx, _, _, rfl, g0, T.cl, T.nT, rfl, _, rfl, by omega, by omega, fun D1 hD1 => lc_range (lo := 0) (n := (t : Int).toNat) (fun i H' => H' D1 = some (.lst (rI 1 i)) ∧ Same H0 H') ⟨upd_same, up hD1⟩ ?_ ?_⟩
    · rintro i H' hi ⟨hl, sm⟩
      refine ⟨rfl, _, rfl, a, dx, _, rfl, sm _ _ g0, rfl, _, rfl, a, t, w, r, _, rfl, ⟨dx, sm _ _ g0⟩, _, hl, (by rw [rI_len]; omega), ?_, fun b o e => by rw [upd_ne (ne_of_none e hD1)]; exact sm b o e⟩
      rw [upd_same, rI_succ]
      exact congrArg (fun z => some (HO.lst (rI 1 i ++ [V.int z]))) (show (1 : Int) + (0 + (i : Int)) = 1 + (i : Int) by omega)
    rintro H1 ⟨hl1, sm1⟩
    rw [show (t : Int).toNat = t by omega] at hl1
    refine ⟨p0, D1, _, _, rfl, rfl, sm1 _ _ l0, hl1, (by rw [rI_len, rI_len]; omega), fun p1 hp1 => ?_⟩
    have s1 := up (o := HO.lst (rI 0 1 ++ rI 1 t)) hp1
    generalize hH1 : upd H1 p1 (HO.lst (rI 0 1 ++ rI 1 t)) = H2 at s1 ⊢
    have l2 : H2 p1 = some (.lst (rI 0 (1 + t))) := by rw [← hH1, upd_same, ← rI_app 0 1 t]; rfl
    have t2 : Same H H2 := (s0.trans sm1).trans s1
    have g2 := t2 _ _ h1
    -- the call slots
    refine ⟨_, rfl, _, rfl, a, C, dx, _, _, rfl, g2, T.cl, T.nT, rfl, _, rfl, by omega, by omega, fun D2 hD2 => lc_range (lo := 0) (n := (t : Int).toNat) (fun i H' => H' D2 = some (.lst (rI ((1 + t : Nat) : Int) i)) ∧ Same H2 H') ⟨upd_same, up hD2⟩ ?_ ?_⟩
    · rintro i H' hi ⟨hl, sm⟩
      refine ⟨rfl, _, rfl, a, dx, _, rfl, sm _ _ g2, rfl, _, rfl, a, t, w, r, _, rfl, ⟨dx, sm _ _ g2⟩, _, hl, (by rw [rI_len]; omega), ?_, fun b o e => by rw [upd_ne (ne_of_none e hD2)]; exact sm b o e⟩
      rw [upd_same, rI_succ]
      exact congrArg (fun z => some (HO.lst (rI ((1 + t : Nat) : Int) i ++ [V.int z]))) (show first (t : Int) + (0 + (i : Int)) = ((1 + t : Nat) : Int) + (i : Int) by unfold first; omega)
    rintro H3 ⟨hl3, sm3⟩
    rw [show (t : Int).toNat = t by omega] at hl3
    refine ⟨p1, D2, _, _, rfl, rfl, sm3 _ _ l2, hl3, (by rw [rI_len, rI_len]; omega), fun p2 hp2 => ?_⟩
    have s3 := up (o := HO.lst (rI 0 (1 + t) ++ rI ((1 + t : Nat) : Int) t)) hp2
    generalize hH3 : upd H3 p2 (HO.lst (rI 0 (1 + t) ++ rI ((1 + t : Nat) : Int) t)) = H4 at s3 ⊢
    have l4 : H4 p2 = some (.lst (rI 0 (1 + t + t))) := by rw [← hH3, upd_same, ← rI_app 0 (1 + t) t, show (0 : Int) + ((1 + t : Nat) : Int) = ((1 + t : Nat) : Int) by omega]
    have t4 : Same H H4 := (t2.trans sm3).trans s3
    have g4 := t4 _ _ h1
    -- the words
    refine ⟨_, rfl, _, rfl, a, C, dx, _, _, rfl, g4, T.cl, T.nW, rfl, _, rfl, by omega, by omega, fun D3 hD3 => lc_range (lo := 0) (n := (w : Int).toNat) (fun i H' => H' D3 = some (.lst (rI ((1 + t + t : Nat) : Int) i)) ∧ Same H4 H') ⟨upd_same, up hD3⟩ ?_ ?_⟩
    · rintro i H' hi ⟨hl, sm⟩
      refine ⟨rfl, _, rfl, a, dx, _, rfl, sm _ _ g4, rfl, _, rfl, a, t, w, r, _, rfl, ⟨dx, sm _ _ g4⟩, _, hl, (by rw [rI_len]; omega), ?_, fun b o e => by rw [upd_ne (ne_of_none e hD3)]; exact sm b o e⟩
      rw [upd_same, rI_succ]
      exact congrArg (fun z => some (HO.lst (rI ((1 + t + t : Nat) : Int) i ++ [V.int z]))) (show first (t : Int) + (t : Int) + (0 + (i : Int)) = ((1 + t + t : Nat) : Int) + (i : Int) by unfold first; omega)
    rintro H5 ⟨hl5, sm5⟩
    rw [show (w : Int).toNat = w by omega] at hl5
    refine ⟨p2, D3, _, _, rfl, rfl, sm5 _ _ l4, hl5, (by rw [rI_len, rI_len]; omega), fun p3 hp3 => ?_⟩
    have s5 := up (o := HO.lst (rI 0 (1 + t + t) ++ rI ((1 + t + t : Nat) : Int) w)) hp3
    generalize hH5 : upd H5 p3 (HO.lst (rI 0 (1 + t + t) ++ rI ((1 + t + t : Nat) : Int) w)) = H6 at s5 ⊢
    have l6 : H6 p3 = some (.lst (rI 0 (1 + t + t + w))) := by rw [← hH5, upd_same, ← rI_app 0 (1 + t + t) w, show (0 : Int) + ((1 + t + t : Nat) : Int) = ((1 + t + t : Nat) : Int) by omega]
    have t6 : Same H H6 := (t4.trans sm5).trans s5
    have g6 := t6 _ _ h1
    -- the record cells
    refine ⟨_, rfl, _, rfl, a, C, dx, _, _, rfl, g6, T.cl, T.nR, rfl, _, rfl, by omega, by omega, fun D4 hD4 => lc_range (lo := 0) (n := (r : Int).toNat) (fun i H' => H' D4 = some (.lst (rI ((1 + t + t + w : Nat) : Int) i)) ∧ Same H6 H') ⟨upd_same, up hD4⟩ ?_ ?_⟩
    · rintro i H' hi ⟨hl, sm⟩
      refine ⟨rfl, _, rfl, a, dx, _, rfl, sm _ _ g6, rfl, _, rfl, a, t, w, r, _, rfl, ⟨dx, sm _ _ g6⟩, _, hl, (by rw [rI_len]; omega), ?_, fun b o e => by rw [upd_ne (ne_of_none e hD4)]; exact sm b o e⟩
      rw [upd_same, rI_succ]
      exact congrArg (fun z => some (HO.lst (rI ((1 + t + t + w : Nat) : Int) i ++ [V.int z]))) (show rec0 (t : Int) (w : Int) + (0 + (i : Int)) = ((1 + t + t + w : Nat) : Int) + (i : Int) by unfold rec0; omega)
    rintro H7 ⟨hl7, sm7⟩
    rw [show (r : Int).toNat = r by omega] at hl7
    refine ⟨p3, D4, _, _, rfl, rfl, sm7 _ _ l6, hl7, (by rw [rI_len, rI_len]; omega), fun p4 hp4 => ?_⟩
    refine k p4 _ ((t6.trans sm7).free hp4) ?_ ((t6.trans sm7).trans (up hp4))
    rw [upd_same, show ((1 + t + t + w : Nat) : Int) = 0 + ((1 + t + t + w : Nat) : Int) by omega, rI_app, show 1 + t + t + w + r = 1 + t + (t + w + r) by omega]
end
end Dk

set_option maxHeartbeats 8000000
/-! the law k01 -/
namespace Dk
open PySem PySem.Spec PyProof.Rows L2
abbrev sLaw : Stmt := top 25
theorem Dp.ints {K : PySem.W.Frag} {H : Hp} : ∀ ns : List Int, DpAll K H (ns.map V.int) (ns.map PyData.int)
  | [] => .nil
  | n :: r => .cons (.int n) (Dp.ints r)
def rN (lo : Int) (n : Nat) : List Int := (List.range n).map fun (j : Nat) => lo + (j : Int)
theorem rI_eq (lo : Int) (n : Nat) : rI lo n = (rN lo n).map V.int := by unfold rI rN; rw [List.map_map]; rfl
theorem canLay_ints (ns : List Int) : PyData.canLay0 (.list (ns.map PyData.int)) = true := SeqAt.canLay_of_shaped (PySem.W.ke_shaped_ints ns)
theorem MemAt.same {C M : Addr} {H H' : Hp} {m : Addr} {t w r : Nat} {A : Adr} {S : MS} (D : MemAt C M H m t w r A S) (s1 : Same H H') : MemAt C M H' m t w r A S :=
  ⟨let ⟨x, hx⟩ := D.ob; ⟨x, s1 _ _ hx⟩, let ⟨x, hx⟩ := D.lay; ⟨x, s1 _ _ hx⟩, s1 _ _ D.ps, D.tr.same s1, s1 _ _ D.ld, s1 _ _ D.nl, D.nn, D.nd,
      fun j b hb => let ⟨ns, e1, e2⟩ := D.no j b hb; ⟨ns, e1, s1 _ _ e2⟩, s1 _ _ D.gl, D.d1, D.d2, D.d3, D.d4, D.d5⟩
/-- what more the walk asks of the class of the layouts -/
structure LCls (K : PySem.W.Frag) (C : Addr) : Prop where
  ha : PySem.W.findIn K (.ref C) "__class__" = some (some (.builtin "object.__class__"))
  hn : PySem.W.specialIn K (.builtin "object.__class__") "__get__" = some (some (.builtin "getset_descriptor.__get__"))
  ht : PySem.W.takesIn K (.builtin "object.__class__") = some true
  hm : PySem.W.mroIn K C (.type "object") = some true
  hk : PySem.W.kitOne K (.ref C) (.type "list") = some false
theorem due_same {K : PySem.W.Frag} {E0 E1 : Addr} {H : Hp} {t w r i : Nat} {tr : Nat → List V} {due : V} (hi : i < 1 + t + (t + w + r)) (h0 : ∀ H, SqT K H E0 [.str "items", .ref E1]) (h1 : ∀ H, SqT K H E1 []) (hd : DueV K H t w i due) (hI : ∀ j, j < t + w + r → ∃ v, tr j = [v] ∧ Init E0 t w r w j v) :
    ∃ v, cellV (S0 t tr) t i = some v ∧ SameV K H v due ∧ (1 + t ≤ i → tr (i - (1 + t)) = [v]) := by
  unfold cellV
  by_cases c : i < 1 + t
  · rw [if_pos c]
    unfold DueV at hd
    cases i with
    | zero =>
      rw [if_pos rfl] at hd
      rw [hd]
      exact ⟨.int 0, rfl, .int 0, fun h => by omega⟩
    | succ j =>
      rw [if_neg (by omega), if_pos (by omega)] at hd
      rw [hd]
      refine ⟨.non, ?_, .non, fun h => by omega⟩
      show (List.replicate t V.non)[j]? = some .non
      rw [List.getElem?_replicate, if_pos (by omega)]
  · rw [if_neg c]
    obtain ⟨v, e1, e2⟩ := hI (i - (1 + t)) (by omega)
    refine ⟨v, ?_, ?_, fun _ => e1⟩
    · show (tr (i - (1 + t))).getLast? = some v
      rw [e1]
      rfl
    · unfold DueV at hd
      unfold Init at e2
      rw [if_neg (by omega)] at hd
      by_cases c1 : i < 1 + 2 * t
      · rw [if_pos c1] at hd
        rw [if_neg (by omega), if_neg (by omega)] at e2
        rw [hd, e2]
        exact .non
      · rw [if_neg c1] at hd
        by_cases c2 : i < 1 + 2 * t + w
        · rw [if_pos c2] at hd
          rw [if_pos (by omega)] at e2
          rw [hd, e2, show 1 + t + (i - (1 + t)) + w = i + w by omega]
          exact .int _
        · rw [if_neg c2] at hd
          rw [if_neg (by omega)] at e2
          by_cases c3 : i < 1 + 2 * t + 2 * w
          · rw [if_pos c3] at hd
            rw [if_pos (by omega)] at e2
            obtain ⟨q, e3, e4⟩ := hd
            rw [e3, e2]
            exact .it ⟨E1, h0 _, h1 _⟩ e4
          · rw [if_neg c3] at hd
            rw [if_neg (by omega)] at e2
            rw [hd, e2]
            exact .non
theorem iteD {c A B : Prop} [Decidable c] (hc : c) (h : A) : if decide c = true then A else B := by
  rw [decide_eq_true hc]
  exact iteT h
theorem iteND {c A B : Prop} [Decidable c] (hc : ¬ c) (h : B) : if decide c = true then A else B := by
  rw [decide_eq_false hc]
  exact iteF h
theorem iteNT {c A B : Prop} [Decidable c] (hc : ¬ c) (h : A) : if (!decide c) = true then A else B := by
  rw [decide_eq_false hc]
  exact iteT h
def spLaw (K : PySem.W.Frag) : Sp := fun vs H Q _ => ∃ (a : Addr) (ns : List Int), vs = [.ref a] ∧ SqL K H a (ns.map V.int) ∧ ns.length ≤ 63 ∧ ∀ H', Q (.bl true) H'
abbrev NL : List Str := ["script", "tape", "threads", "words", "records", "layout", "many", "memory", "cell", "lasts", "record", "told", "other", "due", "trail", "k"]
section
variable {P : Program} {w : World} {K : PySem.W.Frag} {mg : Str → Option Value} {base : Heap} {C M NV LE E0 E1 : Addr}
theorem scLaw : FnScope NL ["script"] (defScope sLaw) := ⟨rfl, rfl, rfl, by decide +kernel, rfl, by decide +kernel, by decide +kernel⟩
/-- the loop over the cells, and the end -/
theorem law_loop {f : Addr} {cdv : Value} {A : Around} {outer : List Env} {s : Shared} {H0 : Hp} {E : XK} {Q : VK} (hr : Room 11 (A.deeper (envOfC "law" (defScope sLaw) s.heap.objs.size f cdv))) (T : LTxt K mg C) (TM : MTxt K M) (h0 : ∀ H, SqT K H E0 [.str "items", .ref E1]) (h1 : ∀ H, SqT K H E1 [])
    (GL : MO P w K mg base CX0 C 7 "is_lasting" ["self", "cell"] (spLV C fun t w r v => .bl (lastB t w r v))) (GR : MO P w K mg base CX0 C 7 "is_record" ["self", "cell"] (spLV C fun t w r v => .bl (recB t w r v)))
    (GD : GO P w K mg base CX0 1 "_law_due" ["layout", "cell"] (spDue K C)) (GS : GO P w K mg base CX0 1 "_law_same" ["told", "due"] (spSame K)) (GP : MO P w K mg base CX0 M 8 "peek" ["self", "cell"] (spPeek C M))
    (GT : GO P w K mg base CX0 10 "_law_lasts" ["memory", "cell"] (spLasts C M)) (kQ : ∀ H', Q (.bl true) H') :
    ∃ t2, PSs (cxOf CX0 P w K mg base NL "law" (defScope sLaw) f cdv A outer s H0 E).nox ((defBody sLaw).drop 11) t2 ∧ ∀ (a D la m : Addr) (t w r : Nat) (B : Adr) (tr : Nat → List V) (v8 v9 v10 v11 v12 v13 v14 v15 : Option V) (H : Hp), NOk t w r → B.a = la → MemAt C M H m t w r B (S0 t tr) →
      (∀ j, j < t + w + r → ∃ v, tr j = [v] ∧ Init E0 t w r w j v) →
      t2 { nx := fun _ H' => Q .non H', rt := Q } [some (.ref a), some (.ref D), some (.int t), some (.int w), some (.int r), some (.ref la), some (.int ((1 + t + (t + w + r) : Nat) : Int)), some (.ref m), v8, v9, v10, v11, v12, v13, v14, v15] H := by
  have nd := scLaw.nd
  refine ⟨_, pss_cons (ps_for PassesOwn.never rfl (pi_range1 rfl T.bn.range (pa_cons (pv 6) pa_nil)) (pg_name (i := 8) nd rfl (Or.inl rfl))
      (pss_cons (ps_set (i := 9) nd rfl (Or.inl rfl) (pe_cmpR op_gt (pv 8) (pv 2) (nomark _)))
      (pss_cons (ps_set (i := 10) nd rfl (Or.inl rfl) (pe_cmpR op_gt (pv 8) (pe_op op_add (pe_op op_mul pe_int (pv 2)) (pv 3)) (nomark _)))
      (pss_cons (ps_set (i := 11) nd rfl (Or.inl rfl) (pm_ GL T.cl (hr.mono (by decide)) (pv 5) (pa_cons (pv 8) pa_nil)))
      (pss_cons (ps_set (i := 12) nd rfl (Or.inl rfl) (pm_ GR T.cl (hr.mono (by decide)) (pv 5) (pa_cons (pv 8) pa_nil)))
      (pss_cons (ps_if (PW.pt (pw_or (pt_not (pt_val (pe_callB call_isi (by rfl) T.bn.isi (by decide +kernel) (pa_cons (pv 11) (pa_cons (pe_bltn (v := .ty "bool") (by rfl) T.bn.bool (by decide +kernel) rfl) pa_nil)))))
          (pw_or (pt_not (pt_val (pe_callB call_isi (by rfl) T.bn.isi (by decide +kernel) (pa_cons (pv 12) (pa_cons (pe_bltn (v := .ty "bool") (by rfl) T.bn.bool (by decide +kernel) rfl) pa_nil)))))
          (pw_or (pt_cmpR op_ne (pv 11) (pv 9) (nomark _)) (pw_or1 (pt_cmpR op_ne (pv 12) (pv 10) (nomark _))))))) (pss_one (ps_ret pe_bl)) pss_nil)
      (pss_cons (ps_set (i := 13) nd rfl (Or.inl rfl) (pc_ GD (hr.mono (by decide)) (pa_cons (pv 5) (pa_cons (pv 8) pa_nil))))
      (pss_cons (ps_if (pt_not (pt_val (pc_ GS (hr.mono (by decide)) (pa_cons (pm_ GP TM.cl (hr.mono (by decide)) (pv 7) (pa_cons (pv 8) pa_nil)) (pa_cons (pv 13) pa_nil))))) (pss_one (ps_ret pe_bl)) pss_nil)
      (pss_cons (ps_set (i := 14) nd rfl (Or.inl rfl) (pc_ GT (hr.mono (by decide)) (pa_cons (pv 7) (pa_cons (pv 8) pa_nil))))
      (pss_cons (ps_if (PW.pt (pw_and (pt_not (pt_val (pv 9))) (pw_and1 (pt_cmpR op_notBl (pv 14) pe_bl (nomark _))))) (pss_one (ps_ret pe_bl)) pss_nil)
      (pss_cons (ps_if (PW.pt (pw_and (pt_val (pv 9)) (pw_and1 (PW.pt (pw_or (pt_not (pt_val (pe_callB call_isi (by rfl) T.bn.isi (by decide +kernel) (pa_cons (pv 14) (pa_cons (pe_bltn (v := .ty "list") (by rfl) T.bn.list (by decide +kernel) rfl) pa_nil)))))
          (pw_or (pt_cmpR op_ne (pe_callB call_len_seq (by rfl) T.bn.len PySem.boot_len (pa_cons (pe_ix ix_list (pv 14) pe_int (fun _ _ => rfl)) pa_nil)) pe_int (nomark _))
          (pw_or1 (pt_not (pt_val (pc_ GS (hr.mono (by decide)) (pa_cons (pe_ix ix_list (pv 14) pe_int (fun _ _ => rfl)) (pa_cons (pv 13) pa_nil)))))))))))) (pss_one (ps_ret pe_bl)) pss_nil)
      (pss_one (ps_if (PW.pt (pw_and (pt_val (pv 9)) (pw_and1 (pt_not (pt_val (pc_ GS (hr.mono (by decide)) (pa_cons (pe_ix ix_list (pe_ix ix_list (pv 14) pe_int (fun _ _ => rfl)) pe_int (fun _ _ => rfl)) (pa_cons (pv 13) pa_nil)))))))) (pss_one (ps_ret pe_bl)) pss_nil)))))))))))))
    (pss_one (ps_ret (pe_and (pe_cmpR op_isBl (pm_ GR T.cl (hr.mono (by decide)) (pv 5) (pa_cons (pv 6) pa_nil)) pe_bl (nomark _)) (pe_and (pe_cmpR op_isBl (pm_ GL T.cl (hr.mono (by decide)) (pv 5) (pa_cons (pv 6) pa_nil)) pe_bl (nomark _))
      (pe_one (pe_cmpR op_eq (pe_fld (pv 7) rfl) pe_int (nomark _))))))), ?_⟩
  intro a D la m t w r B tr v8 v9 v10 v11 v12 v13 v14 v15 H ok hB DM hI
  subst hB
  have q2 := ok.t3
  have q4 := ok.w4
  have q6 := ok.r200
  refine ⟨_, rfl, _, rfl, by omega, by omega, for_range (lo := 0) (n := ((1 + t + (t + w + r) : Nat) : Int).toNat) (fun i σ H' => ∃ v8 v9 v10 v11 v12 v13 v14 v15 : Option V,
    σ = [some (.ref a), some (.ref D), some (.int t), some (.int w), some (.int r), some (.ref B.a), some (.int ((1 + t + (t + w + r) : Nat) : Int)), some (.ref m), v8, v9, v10, v11, v12, v13, v14, v15] ∧ Same H H') ⟨_, _, _, _, _, _, _, _, rfl, Same.refl H⟩ ?_ ?_⟩
  · rintro i σ H1 hin ⟨w8, w9, w10, w11, w12, w13, w14, w15, rfl, s1⟩
    have hi : i < 1 + t + (t + w + r) := by omega
    rw [show (0 : Int) + (i : Int) = (i : Int) by omega]
    have D1 := DM.same s1
    obtain ⟨da, ha⟩ := id D1.lay
    have hlast : V.bl (lastB (t : Int) w r (.int (i : Int))) = V.bl (decide ((t : Int) < (i : Int))) := by
      rw [lastB_nat]
      exact congrArg V.bl (decide_eq_decide.mpr (by omega))
    have hrec : V.bl (recB (t : Int) w r (.int (i : Int))) = V.bl (decide (2 * (t : Int) + (w : Int) < (i : Int))) := by
      rw [recB_nat]
      exact congrArg V.bl (decide_eq_decide.mpr (by omega))
    refine ⟨_, rfl, _, rfl, _, _, rfl, rfl, ?_⟩
    refine ⟨_, rfl, _, rfl, _, _, rfl, rfl, .inl ⟨by decide, by decide⟩, _, rfl, _, _, rfl, rfl, _, _, rfl, rfl, ?_⟩
    refine ⟨_, rfl, B.a, da, _, rfl, ha, rfl, _, rfl, B.a, t, w, r, _, "int", rfl, rfl, D1.lay, ?_⟩
    refine ⟨_, rfl, B.a, da, _, rfl, ha, rfl, _, rfl, B.a, t, w, r, _, "int", rfl, rfl, D1.lay, ?_⟩
    refine ⟨_, rfl, _, _, _, _, true, rfl, .ty "bool", .base (.bl _), kit_ty (by decide +kernel), _, rfl, iteF ?_⟩
    refine ⟨_, rfl, _, _, _, _, true, rfl, .ty "bool", .base (.bl _), kit_ty (by decide +kernel), _, rfl, iteF ?_⟩
    refine ⟨_, rfl, _, rfl, rfl, _, rfl, iteNS hlast ?_⟩
    refine ⟨_, rfl, _, rfl, rfl, _, rfl, iteNS hrec ?_⟩
    refine ⟨_, rfl, _, rfl, B.a, t, w, r, i, rfl, D1.lay, ok, fun due H2 hdue s2 => ?_⟩
    have s12 := s1.trans s2
    have D2 := DM.same s12
    obtain ⟨dx, hm⟩ := id D2.ob
    obtain ⟨v, hv, hs, htr⟩ := due_same hi h0 h1 hdue hI
    refine ⟨_, rfl, m, dx, _, rfl, hm, rfl, _, rfl, m, t, w, r, i, B, _, v, rfl, D2, hi, hv, _, rfl, v, due, rfl, hs, _, rfl, iteF ?_⟩
    refine ⟨_, rfl, _, rfl, m, t, w, r, i, B, _, rfl, D2, fun c => ?_, fun c => ?_⟩
    · have htr := htr c.1
      refine ⟨v, (by show (tr (i - (1 + t)))[0]? = some v; rw [htr]; rfl), fun p q H3 hp hq s3 => ?_⟩
      have hp : H3 p = some (.lst [v]) := by
        rw [← htr]
        exact hp
      have hs3 : SameV K H3 v due := by
        cases hs with
        | non => exact .non
        | int i => exact .int i
        | it h1 h2 => exact .it (h1.same s3) (h2.same s3)
      have lt : (t : Int) < (i : Int) := by omega
      refine ⟨_, rfl, _, rfl, iteNS lt (iteF ?_)⟩
      refine ⟨_, rfl, _, rfl, iteD lt ?_⟩
      refine ⟨_, rfl, _, _, _, _, true, rfl, .ty "list", .base (.lst hq), kit_ty (by decide +kernel), _, rfl, iteF ?_⟩
      refine ⟨_, rfl, q, _, _, _, rfl, rfl, SqL.of hq, atI_nat (j := 0) rfl, p, _, rfl, .inl (SqL.of hp), rfl, _, rfl, iteNS rfl ?_⟩
      refine ⟨_, rfl, q, _, _, _, rfl, rfl, SqL.of hq, atI_nat (j := 1) rfl, _, rfl, v, due, rfl, hs3, _, rfl, iteF ?_⟩
      refine ⟨_, rfl, _, rfl, iteD lt ?_⟩
      refine ⟨_, rfl, q, _, _, _, rfl, rfl, SqL.of hq, atI_nat (j := 0) rfl, p, _, _, _, rfl, rfl, SqL.of hp, atI_nat (j := 0) rfl, _, rfl, v, due, rfl, hs3, _, rfl, iteF ?_⟩
      exact ⟨_, _, _, _, _, _, _, _, rfl, s12.trans s3⟩
    · have lt : ¬ (t : Int) < (i : Int) := by omega
      refine ⟨_, rfl, _, rfl, iteNT lt ?_⟩
      refine ⟨_, rfl, _, _, rfl, rfl, _, rfl, iteNS rfl ?_⟩
      refine ⟨_, rfl, _, rfl, iteND lt (iteF ?_)⟩
      refine ⟨_, rfl, _, rfl, iteND lt (iteF ?_)⟩
      exact ⟨_, _, _, _, _, _, _, _, rfl, s12⟩
  · rintro σ H1 ⟨w8, w9, w10, w11, w12, w13, w14, w15, rfl, s1⟩
    have D1 := DM.same s1
    obtain ⟨da, ha⟩ := id D1.lay
    obtain ⟨dx, hm⟩ := id D1.ob
    have hlast : lastB (t : Int) w r (.int ((1 + t + (t + w + r) : Nat) : Int)) = false := by
      rw [lastB_nat]
      exact decide_eq_false (by omega)
    have hrec : recB (t : Int) w r (.int ((1 + t + (t + w + r) : Nat) : Int)) = false := by
      rw [recB_nat]
      exact decide_eq_false (by omega)
    refine ⟨_, rfl, B.a, da, _, rfl, ha, rfl, _, rfl, B.a, t, w, r, _, "int", rfl, rfl, D1.lay, ?_⟩
    refine ⟨_, _, rfl, rfl, _, rfl, iteD hrec ?_⟩
    refine ⟨_, rfl, B.a, da, _, rfl, ha, rfl, _, rfl, B.a, t, w, r, _, "int", rfl, rfl, D1.lay, ?_⟩
    refine ⟨_, _, rfl, rfl, _, rfl, iteD hlast ?_⟩
    refine ⟨_, rfl, m, M, dx, _, _, rfl, hm, TM.cl, TM.nC, rfl, rfl, ?_⟩
    exact kQ _
end
end Dk

set_option maxHeartbeats 8000000
/-! the law k01: its head -/
namespace Dk
open PySem PySem.Spec PyProof.Rows L2
theorem iteC {c : Bool} {A B : Prop} (hc : c = false) (h : B) : if c = true then A else B := by
  rw [hc]
  exact iteF h
section
variable {P : Program} {w : World} {K : PySem.W.Frag} {mg : Str → Option Value} {base : Heap} {C M NV LE E0 E1 : Addr}
theorem ok_law {f fM : Addr} {fd fdM : FuncData} (F : Fun K "law" "law" sLaw f fd) (T : LTxt K mg C) (TM : MTxt K M) (h0 : ∀ H, SqT K H E0 [.str "items", .ref E1]) (h1 : ∀ H, SqT K H E1 []) (TC : LCls K C) (gM : mg "Memory" = some (.ref M)) (MM : Mk K M fM)
    (FM : FnOk P w K mg base CX0 7 fM fdM ["self", "layout"] (spMInit C M E0)) (bM : Binds K fdM ["self", "layout"] [])
    (GTp : GO P w K mg base CX0 1 "_law_tape" ["script"] (spTape K)) (GA : GO P w K mg base CX0 1 "_law_at" ["tape", "k"] (spAt K)) (GTo : GO P w K mg base CX0 5 "_law_told" ["threads", "words", "records"] (spTold C))
    (GLi : GO P w K mg base CX0 5 "_law_listed" ["layout"] (spListed C)) (GC : MO P w K mg base CX0 C 5 "cells" ["self"] (spL0 C fun t w r => .int (cells t w r)))
    (GL : MO P w K mg base CX0 C 7 "is_lasting" ["self", "cell"] (spLV C fun t w r v => .bl (lastB t w r v))) (GR : MO P w K mg base CX0 C 7 "is_record" ["self", "cell"] (spLV C fun t w r v => .bl (recB t w r v)))
    (GD : GO P w K mg base CX0 1 "_law_due" ["layout", "cell"] (spDue K C)) (GS : GO P w K mg base CX0 1 "_law_same" ["told", "due"] (spSame K)) (GP : MO P w K mg base CX0 M 8 "peek" ["self", "cell"] (spPeek C M))
    (GT : GO P w K mg base CX0 10 "_law_lasts" ["memory", "cell"] (spLasts C M)) : FnOk P w K mg base CX0 12 f fd ["script"] (spLaw K) := by
  refine F.ok scLaw (fun vs H Q E h => ?_) (fun cdv A outer s H vs Q E hr h => ?_)
  · obtain ⟨a, ns, rfl, _⟩ := h
    rfl
  · obtain ⟨a, ns, rfl, hS, hlen, kQ⟩ := h
    have nd := scLaw.nd
    have hr1 : Room 1 _ := hr.mono (by decide)
    obtain ⟨t2, hp2, r2⟩ := law_loop (f := f) (cdv := cdv) (A := A) (outer := outer) (s := s) (H0 := H) (E := E) (Q := Q) hr T TM h0 h1 GL GR GD GS GP GT kQ
    have up : ∀ {H1 : Hp} {p : Addr} {o : HO}, H1 p = none → Same H1 (upd H1 p o) := fun {H1 p o} hp b u e => by rw [upd_ne (ne_of_none e hp)]; exact e
    -- behind the draws
    obtain ⟨t1, hp1, r1⟩ : ∃ t1, PSs (cxOf CX0 P w K mg base NL "law" (defScope sLaw) f cdv A outer s H E).nox ((defBody sLaw).drop 5) t1 ∧ ∀ (D : Addr) (th wo re : Int) (H1 : Hp),
        t1 { nx := fun _ H' => Q .non H', rt := Q } [some (.ref a), some (.ref D), some (.int th), some (.int wo), some (.int re), none, none, none, none, none, none, none, none, none, none, none] H1 := by
      refine ⟨_, pss_cons (ps_set (i := 5) nd rfl (Or.inl rfl) (pc_ GTo (hr.mono (by decide)) (pa_cons (pv 2) (pa_cons (pv 3) (pa_cons (pv 4) pa_nil)))))
        (pss_cons (ps_if (PW.pt (pw_or (pt_cmpR op_lt (pv 2) pe_int (nomark _)) (pw_or (pt_cmpR op_gt (pv 2) pe_int (nomark _)) (pw_or (pt_cmpR op_lt (pv 3) pe_int (nomark _)) (pw_or (pt_cmpR op_gt (pv 3) pe_int (nomark _))
          (pw_or (pt_cmpR op_lt (pv 4) pe_int (nomark _)) (pw_or1 (pt_cmpR op_gt (pv 4) pe_int (nomark _))))))))) (pss_one (ps_ret (pe_cmpR (op_eqD hr.units) (pv 5) (pe_lst (pa_cons pe_bl pa_nil)) (nomark _)))) pss_nil)
        (pss_cons (ps_if (PW.pt (pw_or (pt_val (pe_callB call_isi (by rfl) T.bn.isi (by decide +kernel) (pa_cons (pv 5) (pa_cons (pe_bltn (v := .ty "list") (by rfl) T.bn.list (by decide +kernel) rfl) pa_nil))))
          (pw_or1 (pt_cmpR (op_neD hr.units) (pe_tup (pa_cons (pe_fld (pv 5) rfl) (pa_cons (pe_fld (pv 5) rfl) (pa_cons (pe_fld (pv 5) rfl) pa_nil)))) (pe_tup (pa_cons (pv 2) (pa_cons (pv 3) (pa_cons (pv 4) pa_nil)))) (nomark _))))) (pss_one (ps_ret pe_bl)) pss_nil)
        (pss_cons (ps_set (i := 6) nd rfl (Or.inl rfl) (pm0_ GC T.cl (hr.mono (by decide)) (pv 5)))
        (pss_cons (ps_if (pt_cmpR (op_neD hr.units) (pc_ GLi (hr.mono (by decide)) (pa_cons (pv 5) pa_nil)) (pe_lc (own := [("k", 15)]) (g := gName 15) (tt := tYes) rfl nd (pi_range1 rfl T.bn.range (pa_cons (pv 6) pa_nil))
          (blkOk_by (N := NL) (sc := defScope sLaw) (by decide +kernel)) (fun _ _ _ _ _ => pg_name (i := 15) nd rfl (Or.inl rfl)) (fun _ _ _ _ _ => pts_nil) (fun _ _ _ _ _ => pv 15)) (nomark _)) (pss_one (ps_ret pe_bl)) pss_nil)
        (pss_cons (ps_set (i := 7) nd rfl (Or.inl rfl) (pe_make MM FM (hr.mono (by decide)) rfl gM bM .nil pass0 (pa_cons (pv 5) pa_nil))) hp2))))), ?_⟩
      intro D th wo re H1
      refine ⟨_, rfl, _, rfl, _, rfl, th, wo, re, rfl, fun q la H2 nla L2 s2 => ?_, fun q p H2 hp s2 => ?_⟩
      · -- a layout
        have Lok := lok_iff.mp q
        obtain ⟨t, rfl⟩ : ∃ t : Nat, th = (t : Int) := ⟨th.toNat, by have := Lok.t1; omega⟩
        obtain ⟨w', rfl⟩ : ∃ w : Nat, wo = (w : Int) := ⟨wo.toNat, by have := Lok.w1; omega⟩
        obtain ⟨r, rfl⟩ : ∃ r : Nat, re = (r : Int) := ⟨re.toNat, by have := Lok.r4; omega⟩
        have ok : NOk t w' r := ⟨by have := Lok.t1; omega, by have := Lok.t3; omega, by have := Lok.w1; omega, by have := Lok.w4; omega, by have := Lok.r4; omega, by have := Lok.r200; omega⟩
        obtain ⟨da, ha⟩ := id L2
        have o1 := ok.t1
        have o2 := ok.t3
        have o3 := ok.w1
        have o4 := ok.w4
        have o5 := ok.r4
        have o6 := ok.r200
        refine ⟨_, rfl, _, _, rfl, rfl, _, rfl, ite2 (fun c => absurd (of_decide_eq_true c) (by omega)) (fun _ => ?_)⟩
        refine ⟨_, rfl, _, _, rfl, rfl, _, rfl, ite2 (fun c => absurd (of_decide_eq_true c) (by omega)) (fun _ => ?_)⟩
        refine ⟨_, rfl, _, _, rfl, rfl, _, rfl, ite2 (fun c => absurd (of_decide_eq_true c) (by omega)) (fun _ => ?_)⟩
        refine ⟨_, rfl, _, _, rfl, rfl, _, rfl, ite2 (fun c => absurd (of_decide_eq_true c) (by omega)) (fun _ => ?_)⟩
        refine ⟨_, rfl, _, _, rfl, rfl, _, rfl, ite2 (fun c => absurd (of_decide_eq_true c) (by omega)) (fun _ => ?_)⟩
        refine ⟨_, rfl, _, _, rfl, rfl, _, rfl, ite2 (fun c => absurd (of_decide_eq_true c) (by omega)) (fun _ => ?_)⟩
        -- isinstance(layout, list) or ..
        refine ⟨_, rfl, _, _, _, _, false, rfl, .ty "list", .base (.ins ha T.cl TC.ha TC.hn TC.ht TC.hm), TC.hk, _, rfl, iteF ?_⟩
        refine ⟨_, rfl, la, C, da, _, _, rfl, ha, T.cl, T.nT, rfl, _, rfl, la, C, da, _, _, rfl, ha, T.cl, T.nW, rfl, _, rfl, la, C, da, _, _, rfl, ha, T.cl, T.nR, rfl, (by show 3 ≤ sizeLine; decide), fun p3 n3 => ?_⟩
        have s3 := up (o := HO.tup [V.int (t : Int), V.int (w' : Int), V.int (r : Int)]) n3
        refine ⟨_, rfl, _, rfl, _, rfl, (by show 3 ≤ sizeLine; decide), fun p4 n4 => ?_⟩
        have s4 := up (o := HO.tup [V.int (t : Int), V.int (w' : Int), V.int (r : Int)]) n4
        have dp : ∀ {H : Hp} {p : Addr}, H p = some (.tup [V.int (t : Int), V.int (w' : Int), V.int (r : Int)]) → Dp K H (.ref p) (.tuple [.int t, .int w', .int r]) := fun {H p} h => .tup (SqT.of h) (.cons (.int _) (.cons (.int _) (.cons (.int _) .nil)))
        refine ⟨.tuple [.int t, .int w', .int r], .tuple [.int t, .int w', .int r], dp (s4 _ _ upd_same), dp upd_same, rfl, rfl, _, rfl, iteC ?_ ?_⟩
        · rw [SeqAt.eqv_refl _ (by rfl)]
          rfl
        have s24 : Same H2 _ := s3.trans s4
        generalize hH4 : upd (upd H2 p3 _) p4 _ = H4 at s24 ⊢
        have ha4 := s24 _ _ ha
        -- many = layout.cells()
        refine ⟨_, rfl, la, da, _, rfl, ha4, rfl, la, t, w', r, rfl, ⟨da, ha4⟩, ?_⟩
        simp only [cells_n]
        -- the list of the cells
        refine ⟨_, rfl, la, t, w', r, rfl, ⟨da, ha4⟩, ok, fun D5 H5 n5 hl5 s5 => ?_⟩
        refine ⟨_, rfl, _, rfl, by omega, by omega, fun D6 hD6 => lc_range (lo := 0) (n := ((1 + t + (t + w' + r) : Nat) : Int).toNat) (fun i H' => H' D6 = some (.lst (rI 0 i)) ∧ Same H5 H') ⟨upd_same, up hD6⟩ ?_ ?_⟩
        · rintro i H6 hi ⟨hl, sm⟩
          refine ⟨rfl, _, rfl, _, hl, (by rw [rI_len]; have : sizeLine = 16777216 := sizeLine_eq; omega), ?_, fun b o e => by rw [upd_ne (ne_of_none e hD6)]; exact sm b o e⟩
          rw [upd_same, rI_succ]
        rintro H6 ⟨hl6, sm6⟩
        rw [show ((1 + t + (t + w' + r) : Nat) : Int).toNat = 1 + t + (t + w' + r) by omega] at hl6
        have dl : ∀ {H : Hp} {p : Addr}, H p = some (.lst (rI 0 (1 + t + (t + w' + r)))) → Dp K H (.ref p) (.list ((rN 0 (1 + t + (t + w' + r))).map .int)) := fun {H p} h => .lst (SqL.of h) (by rw [rI_eq]; exact Dp.ints _)
        refine ⟨.list ((rN 0 (1 + t + (t + w' + r))).map .int), .list ((rN 0 (1 + t + (t + w' + r))).map .int), dl (sm6 _ _ hl5), dl hl6, PySem.W.ke_shaped_ints _, PySem.W.ke_shaped_ints _, _, rfl, iteC ?_ ?_⟩
        · rw [SeqAt.eqv_refl _ (canLay_ints _)]
          rfl
        -- memory = Memory(layout)
        have ha6 := sm6 _ _ (s5 _ _ ha4)
        refine ⟨_, rfl, fun x dx nx ndx ne => ?_⟩
        have s7 : Same H6 (upd (upd H6 dx (.own x)) x (.ins M dx [])) := fun b o e => by
          rw [upd_ne (ne_of_none e nx), upd_ne (ne_of_none e ndx)]
          exact e
        refine ⟨x, dx, la, t, w', r, rfl, upd_same, ⟨da, s7 _ _ ha6⟩, ok, fun B tr H8 hB DM hI kp fr => ⟨rfl, ?_⟩⟩
        exact r2 a D la x t w' r B tr _ _ _ _ _ _ _ _ H8 ok hB DM hI
      · -- refused
        have hret : tRet (tOp (rEqD K) (tVar 5) (tLst (tCons (tC (.bl true)) tNil))) { nx := fun _ H' => Q .non H', rt := Q } [some (.ref a), some (.ref D), some (.int th), some (.int wo), some (.int re), some (.ref p), none, none, none, none, none, none, none, none, none, none] H2 := by
          refine ⟨_, rfl, (by show 1 ≤ sizeLine; decide), fun p3 n3 => ?_⟩
          have s3 := up (o := HO.lst [V.bl true]) n3
          have dp : ∀ {H : Hp} {p : Addr}, H p = some (.lst [V.bl true]) → Dp K H (.ref p) (.list [.bool true]) := fun {H p} h => .lst (SqL.of h) (.cons (.bl _) .nil)
          refine ⟨.list [.bool true], .list [.bool true], dp (s3 _ _ hp), dp upd_same, rfl, rfl, ?_⟩
          show Q (V.bl (PyData.eqv (.list [.bool true]) (.list [.bool true]))) _
          rw [SeqAt.eqv_refl _ (by rfl)]
          exact kQ _
        refine ⟨_, rfl, _, _, rfl, rfl, _, rfl, ite2 (fun _ => iteT hret) (fun c1 => ?_)⟩
        refine ⟨_, rfl, _, _, rfl, rfl, _, rfl, ite2 (fun _ => iteT hret) (fun c2 => ?_)⟩
        refine ⟨_, rfl, _, _, rfl, rfl, _, rfl, ite2 (fun _ => iteT hret) (fun c3 => ?_)⟩
        refine ⟨_, rfl, _, _, rfl, rfl, _, rfl, ite2 (fun _ => iteT hret) (fun c4 => ?_)⟩
        refine ⟨_, rfl, _, _, rfl, rfl, _, rfl, ite2 (fun _ => iteT hret) (fun c5 => ?_)⟩
        refine ⟨_, rfl, _, _, rfl, rfl, _, rfl, ite2 (fun _ => hret) (fun c6 => ?_)⟩
        exfalso
        have d1 : ¬ th < 1 := fun h => c1 (decide_eq_true h)
        have d2 : ¬ 3 < th := fun h => c2 (decide_eq_true h)
        have d3 : ¬ wo < 1 := fun h => c3 (decide_eq_true h)
        have d4 : ¬ 4 < wo := fun h => c4 (decide_eq_true h)
        have d5 : ¬ re < 4 := fun h => c5 (decide_eq_true h)
        have d6 : ¬ 200 < re := fun h => c6 (decide_eq_true h)
        rw [lok_iff.mpr ⟨by omega, by omega, by omega, by omega, by omega, by omega⟩] at q
        exact Bool.noConfusion q
    refine ⟨_, pss_cons (ps_set (i := 1) nd rfl (Or.inl rfl) (pc_ GTp hr1 (pa_cons (pv 0) pa_nil)))
      (pss_cons (ps_set (i := 2) nd rfl (Or.inl rfl) (pe_op op_mod (pc_ GA hr1 (pa_cons (pv 1) (pa_cons pe_int pa_nil))) pe_int))
      (pss_cons (ps_set (i := 3) nd rfl (Or.inl rfl) (pe_op op_mod (pc_ GA hr1 (pa_cons (pv 1) (pa_cons pe_int pa_nil))) pe_int))
      (pss_cons (ps_set (i := 4) nd rfl (Or.inl rfl) (pe_op op_mod (pc_ GA hr1 (pa_cons (pv 1) (pa_cons pe_int pa_nil))) pe_int))
      (pss_cons (ps_if (pt_cmpR op_eq (pe_op op_mod (pc_ GA hr1 (pa_cons (pv 1) (pa_cons pe_int pa_nil))) pe_int) pe_int (nomark _))
        (pss_cons (ps_set (i := 2) nd rfl (Or.inl rfl) (pe_op op_add pe_int (pe_op op_mod (pv 2) pe_int))) (pss_one (ps_set (i := 3) nd rfl (Or.inl rfl) (pe_op op_add pe_int (pe_op op_mod (pv 3) pe_int))))) pss_nil) hp1)))), ?_⟩
    refine ⟨_, rfl, a, ns, rfl, hS, hlen, fun D ms H1 hD hl _ _ _ => ?_⟩
    have hL : SqL K H1 D (ms.map V.int) := SqL.of hl
    refine ⟨_, rfl, D, ms, 0, rfl, hL, _, _, rfl, rfl, (by show (0 : Int) < 5; decide), ?_⟩
    refine ⟨_, rfl, D, ms, 1, rfl, hL, _, _, rfl, rfl, (by show (0 : Int) < 6; decide), ?_⟩
    refine ⟨_, rfl, D, ms, 2, rfl, hL, _, _, rfl, rfl, (by show (0 : Int) < 231; decide), ?_⟩
    refine ⟨_, rfl, D, ms, 3, rfl, hL, _, _, rfl, rfl, (by show (0 : Int) < 2; decide), rfl, _, rfl, ite2 (fun _ => ?_) (fun _ => ?_)⟩
    · refine ⟨_, rfl, _, _, rfl, rfl, (by show (0 : Int) < 3; decide), _, _, rfl, rfl, ?_⟩
      refine ⟨_, rfl, _, _, rfl, rfl, (by show (0 : Int) < 4; decide), _, _, rfl, rfl, ?_⟩
      exact r1 D _ _ _ H1
    · exact r1 D _ _ _ H1
end
end Dk

set_option maxHeartbeats 8000000
namespace Dk
open PySem PySem.Spec PyProof.Rows L2
theorem kit_self {K : PySem.W.Frag} {N : Addr} : PySem.W.kitOne K (.ref N) (.ref N) = some true := by
  unfold PySem.W.kitOne
  rw [if_pos (beq_self_eq_true _)]
theorem kit_list {K : PySem.W.Frag} {C : Addr} (h : PySem.W.subIn K (.ref C) (.type "list") = some false) : PySem.W.kitOne K (.ref C) (.type "list") = some false := by
  unfold PySem.W.kitOne
  rw [if_neg (by simp)]
  show (if PySem.W.kitMeta "list" = true then PySem.W.subIn K (.ref C) (.type "list") else none) = some false
  rw [if_pos (by decide +kernel)]
  exact h
theorem all_mk {l : PySem.W.OpenLaw} {w : World} {K : PySem.W.Frag} {h : Heap} {mg : Str → Option Value} {fa C M NV LE E0 E1 f1 f2 f3 f4 f5 f6 f7 f8 f9 f10 f11 f12 f13 f14 f15 f16 f17 f18 f19 f20 f21 f22 f23 f24 f25 f26 f27 f28 : Addr} (X : K.In h) (G : h.Ns mainGlobals mg) (hfa : mg "law" = some (.ref fa))
    {tI : Tok} {dE0 dE1 : Option Addr} {nE0 nE1 : Nat} {sE0 sE1 : Array (Option Value)}
    {od1 an1 : Option Addr} {sl1 : Array (Option Value)} {oc1 kV1 dc1 pm1 cd1 ct1 : Value}
    {od2 an2 : Option Addr} {sl2 : Array (Option Value)} {oc2 kV2 dc2 pm2 cd2 ct2 : Value}
    {od3 an3 : Option Addr} {sl3 : Array (Option Value)} {oc3 kV3 dc3 pm3 cd3 ct3 : Value}
    {od4 an4 : Option Addr} {sl4 : Array (Option Value)} {oc4 kV4 dc4 pm4 cd4 ct4 : Value}
    {od5 an5 : Option Addr} {sl5 : Array (Option Value)} {oc5 kV5 dc5 pm5 cd5 ct5 : Value}
    {od6 an6 : Option Addr} {sl6 : Array (Option Value)} {oc6 kV6 dc6 pm6 cd6 ct6 : Value}
    {od7 an7 : Option Addr} {sl7 : Array (Option Value)} {oc7 kV7 dc7 pm7 cd7 ct7 : Value}
    {od8 an8 : Option Addr} {sl8 : Array (Option Value)} {oc8 kV8 dc8 pm8 cd8 ct8 : Value}
    {od9 an9 : Option Addr} {sl9 : Array (Option Value)} {oc9 kV9 dc9 pm9 cd9 ct9 : Value}
    {od10 an10 : Option Addr} {sl10 : Array (Option Value)} {oc10 kV10 dc10 pm10 cd10 ct10 : Value}
    {od11 an11 : Option Addr} {sl11 : Array (Option Value)} {oc11 kV11 dc11 pm11 cd11 ct11 : Value}
    {od12 an12 : Option Addr} {sl12 : Array (Option Value)} {oc12 kV12 dc12 pm12 cd12 ct12 : Value}
    {od13 an13 : Option Addr} {sl13 : Array (Option Value)} {oc13 kV13 dc13 pm13 cd13 ct13 : Value}
    {od14 an14 : Option Addr} {sl14 : Array (Option Value)} {oc14 kV14 dc14 pm14 cd14 ct14 : Value}
    {od15 an15 : Option Addr} {sl15 : Array (Option Value)} {oc15 kV15 dc15 pm15 cd15 ct15 : Value}
    {od16 an16 : Option Addr} {sl16 : Array (Option Value)} {oc16 kV16 dc16 pm16 cd16 ct16 : Value}
    {od17 an17 : Option Addr} {sl17 : Array (Option Value)} {oc17 kV17 dc17 pm17 cd17 ct17 : Value}
    {od18 an18 : Option Addr} {sl18 : Array (Option Value)} {oc18 kV18 dc18 pm18 cd18 ct18 : Value}
    {od19 an19 : Option Addr} {sl19 : Array (Option Value)} {oc19 kV19 dc19 pm19 cd19 ct19 : Value}
    {od20 an20 : Option Addr} {sl20 : Array (Option Value)} {oc20 kV20 dc20 pm20 cd20 ct20 : Value}
    {od21 an21 : Option Addr} {sl21 : Array (Option Value)} {oc21 kV21 dc21 pm21 cd21 ct21 : Value}
    {od22 an22 : Option Addr} {sl22 : Array (Option Value)} {oc22 kV22 dc22 pm22 cd22 ct22 : Value}
    {od23 an23 : Option Addr} {sl23 : Array (Option Value)} {oc23 kV23 dc23 pm23 cd23 ct23 : Value}
    {od24 an24 : Option Addr} {sl24 : Array (Option Value)} {oc24 kV24 dc24 pm24 cd24 ct24 : Value}
    {od25 an25 : Option Addr} {sl25 : Array (Option Value)} {oc25 kV25 dc25 pm25 cd25 ct25 : Value}
    {od26 an26 : Option Addr} {sl26 : Array (Option Value)} {oc26 kV26 dc26 pm26 cd26 ct26 : Value}
    {od27 an27 : Option Addr} {sl27 : Array (Option Value)} {oc27 kV27 dc27 pm27 cd27 ct27 : Value}
    {od28 an28 : Option Addr} {sl28 : Array (Option Value)} {oc28 kV28 dc28 pm28 cd28 ct28 : Value}
    (gC : PySem.W.nsIn K mainGlobals "Layout" = some (some (.ref C)))
    (gM : PySem.W.nsIn K mainGlobals "Memory" = some (some (.ref M)))
    (gNV : PySem.W.nsIn K mainGlobals "NotValid" = some (some (.ref NV)))
    (gLE : PySem.W.nsIn K mainGlobals "LineError" = some (some (.ref LE)))
    (a1 : PySem.W.nsIn K mainGlobals "is_whole" = some (some (.ref f1)))
    (l1 : K.lookup f1 = some ⟨oc1, od1, .func (PySem.W.fnOf "is_whole" "is_whole" (defArgs sWhole) (defBody sWhole) (defScope sWhole) .none kV1 dc1 pm1 an1 cd1 ct1), sl1⟩)
    (c1 : PySem.W.codeIn K cd1 "is_whole" = true)
    (k1 : PySem.W.keepIn K (.ref f1) = true)
    (a2 : PySem.W.nsIn K mainGlobals "is_within" = some (some (.ref f2)))
    (l2 : K.lookup f2 = some ⟨oc2, od2, .func (PySem.W.fnOf "is_within" "is_within" (defArgs sWithin) (defBody sWithin) (defScope sWithin) .none kV2 dc2 pm2 an2 cd2 ct2), sl2⟩)
    (c2 : PySem.W.codeIn K cd2 "is_within" = true)
    (k2 : PySem.W.keepIn K (.ref f2) = true)
    (a3 : PySem.W.nsIn K mainGlobals "passing_values" = some (some (.ref f3)))
    (l3 : K.lookup f3 = some ⟨oc3, od3, .func (PySem.W.fnOf "passing_values" "passing_values" (defArgs sPass) (defBody sPass) (defScope sPass) .none kV3 dc3 pm3 an3 cd3 ct3), sl3⟩)
    (c3 : PySem.W.codeIn K cd3 "passing_values" = true)
    (k3 : PySem.W.keepIn K (.ref f3) = true)
    (a4 : PySem.W.nsIn K mainGlobals "first_trails" = some (some (.ref f4)))
    (l4 : K.lookup f4 = some ⟨oc4, od4, .func (PySem.W.fnOf "first_trails" "first_trails" (defArgs sTrails) (defBody sTrails) (defScope sTrails) .none kV4 dc4 pm4 an4 cd4 ct4), sl4⟩)
    (c4 : PySem.W.codeIn K cd4 "first_trails" = true)
    (k4 : PySem.W.keepIn K (.ref f4) = true)
    (a5 : PySem.W.nsIn K mainGlobals "no_notes" = some (some (.ref f5)))
    (l5 : K.lookup f5 = some ⟨oc5, od5, .func (PySem.W.fnOf "no_notes" "no_notes" (defArgs sNotes) (defBody sNotes) (defScope sNotes) .none kV5 dc5 pm5 an5 cd5 ct5), sl5⟩)
    (c5 : PySem.W.codeIn K cd5 "no_notes" = true)
    (k5 : PySem.W.keepIn K (.ref f5) = true)
    (a6 : PySem.W.nsIn K mainGlobals "_law_tape" = some (some (.ref f6)))
    (l6 : K.lookup f6 = some ⟨oc6, od6, .func (PySem.W.fnOf "_law_tape" "_law_tape" (defArgs sTape) (defBody sTape) (defScope sTape) .none kV6 dc6 pm6 an6 cd6 ct6), sl6⟩)
    (c6 : PySem.W.codeIn K cd6 "_law_tape" = true)
    (k6 : PySem.W.keepIn K (.ref f6) = true)
    (a7 : PySem.W.nsIn K mainGlobals "_law_at" = some (some (.ref f7)))
    (l7 : K.lookup f7 = some ⟨oc7, od7, .func (PySem.W.fnOf "_law_at" "_law_at" (defArgs sAt) (defBody sAt) (defScope sAt) .none kV7 dc7 pm7 an7 cd7 ct7), sl7⟩)
    (c7 : PySem.W.codeIn K cd7 "_law_at" = true)
    (k7 : PySem.W.keepIn K (.ref f7) = true)
    (a8 : PySem.W.nsIn K mainGlobals "_law_told" = some (some (.ref f8)))
    (l8 : K.lookup f8 = some ⟨oc8, od8, .func (PySem.W.fnOf "_law_told" "_law_told" (defArgs sTold) (defBody sTold) (defScope sTold) .none kV8 dc8 pm8 an8 cd8 ct8), sl8⟩)
    (c8 : PySem.W.codeIn K cd8 "_law_told" = true)
    (k8 : PySem.W.keepIn K (.ref f8) = true)
    (a9 : PySem.W.nsIn K mainGlobals "_law_listed" = some (some (.ref f9)))
    (l9 : K.lookup f9 = some ⟨oc9, od9, .func (PySem.W.fnOf "_law_listed" "_law_listed" (defArgs sListed) (defBody sListed) (defScope sListed) .none kV9 dc9 pm9 an9 cd9 ct9), sl9⟩)
    (c9 : PySem.W.codeIn K cd9 "_law_listed" = true)
    (k9 : PySem.W.keepIn K (.ref f9) = true)
    (a10 : PySem.W.nsIn K mainGlobals "_law_due" = some (some (.ref f10)))
    (l10 : K.lookup f10 = some ⟨oc10, od10, .func (PySem.W.fnOf "_law_due" "_law_due" (defArgs sDue) (defBody sDue) (defScope sDue) .none kV10 dc10 pm10 an10 cd10 ct10), sl10⟩)
    (c10 : PySem.W.codeIn K cd10 "_law_due" = true)
    (k10 : PySem.W.keepIn K (.ref f10) = true)
    (a11 : PySem.W.nsIn K mainGlobals "_law_lasts" = some (some (.ref f11)))
    (l11 : K.lookup f11 = some ⟨oc11, od11, .func (PySem.W.fnOf "_law_lasts" "_law_lasts" (defArgs sLasts) (defBody sLasts) (defScope sLasts) .none kV11 dc11 pm11 an11 cd11 ct11), sl11⟩)
    (c11 : PySem.W.codeIn K cd11 "_law_lasts" = true)
    (k11 : PySem.W.keepIn K (.ref f11) = true)
    (a12 : PySem.W.nsIn K mainGlobals "_law_same" = some (some (.ref f12)))
    (l12 : K.lookup f12 = some ⟨oc12, od12, .func (PySem.W.fnOf "_law_same" "_law_same" (defArgs sSame) (defBody sSame) (defScope sSame) .none kV12 dc12 pm12 an12 cd12 ct12), sl12⟩)
    (c12 : PySem.W.codeIn K cd12 "_law_same" = true)
    (k12 : PySem.W.keepIn K (.ref f12) = true)
    (a13 : PySem.W.nsIn K mainGlobals "law" = some (some (.ref f13)))
    (l13 : K.lookup f13 = some ⟨oc13, od13, .func (PySem.W.fnOf "law" "law" (defArgs sLaw) (defBody sLaw) (defScope sLaw) .none kV13 dc13 pm13 an13 cd13 ct13), sl13⟩)
    (c13 : PySem.W.codeIn K cd13 "law" = true)
    (k13 : PySem.W.keepIn K (.ref f13) = true)
    (a14 : PySem.W.findIn K (.ref C) "__init__" = some (some (.ref f14)))
    (i14 : PySem.W.isFn K (.ref f14) = true)
    (l14 : K.lookup f14 = some ⟨oc14, od14, .func (PySem.W.fnOf "__init__" "Layout.__init__" (defArgs sLInit) (defBody sLInit) (defScope sLInit) .none kV14 dc14 pm14 an14 cd14 ct14), sl14⟩)
    (c14 : PySem.W.codeIn K cd14 "Layout.__init__" = true)
    (k14 : PySem.W.keepIn K (.ref f14) = true)
    (a15 : PySem.W.findIn K (.ref C) "epoch" = some (some (.ref f15)))
    (i15 : PySem.W.isFn K (.ref f15) = true)
    (l15 : K.lookup f15 = some ⟨oc15, od15, .func (PySem.W.fnOf "epoch" "Layout.epoch" (defArgs sEpoch) (defBody sEpoch) (defScope sEpoch) .none kV15 dc15 pm15 an15 cd15 ct15), sl15⟩)
    (c15 : PySem.W.codeIn K cd15 "Layout.epoch" = true)
    (k15 : PySem.W.keepIn K (.ref f15) = true)
    (a16 : PySem.W.findIn K (.ref C) "epoch_slot" = some (some (.ref f16)))
    (i16 : PySem.W.isFn K (.ref f16) = true)
    (l16 : K.lookup f16 = some ⟨oc16, od16, .func (PySem.W.fnOf "epoch_slot" "Layout.epoch_slot" (defArgs sESlot) (defBody sESlot) (defScope sESlot) .none kV16 dc16 pm16 an16 cd16 ct16), sl16⟩)
    (c16 : PySem.W.codeIn K cd16 "Layout.epoch_slot" = true)
    (k16 : PySem.W.keepIn K (.ref f16) = true)
    (a17 : PySem.W.findIn K (.ref C) "call_slot" = some (some (.ref f17)))
    (i17 : PySem.W.isFn K (.ref f17) = true)
    (l17 : K.lookup f17 = some ⟨oc17, od17, .func (PySem.W.fnOf "call_slot" "Layout.call_slot" (defArgs sCSlot) (defBody sCSlot) (defScope sCSlot) .none kV17 dc17 pm17 an17 cd17 ct17), sl17⟩)
    (c17 : PySem.W.codeIn K cd17 "Layout.call_slot" = true)
    (k17 : PySem.W.keepIn K (.ref f17) = true)
    (a18 : PySem.W.findIn K (.ref C) "word" = some (some (.ref f18)))
    (i18 : PySem.W.isFn K (.ref f18) = true)
    (l18 : K.lookup f18 = some ⟨oc18, od18, .func (PySem.W.fnOf "word" "Layout.word" (defArgs sWord) (defBody sWord) (defScope sWord) .none kV18 dc18 pm18 an18 cd18 ct18), sl18⟩)
    (c18 : PySem.W.codeIn K cd18 "Layout.word" = true)
    (k18 : PySem.W.keepIn K (.ref f18) = true)
    (a19 : PySem.W.findIn K (.ref C) "record" = some (some (.ref f19)))
    (i19 : PySem.W.isFn K (.ref f19) = true)
    (l19 : K.lookup f19 = some ⟨oc19, od19, .func (PySem.W.fnOf "record" "Layout.record" (defArgs sRecord) (defBody sRecord) (defScope sRecord) .none kV19 dc19 pm19 an19 cd19 ct19), sl19⟩)
    (c19 : PySem.W.codeIn K cd19 "Layout.record" = true)
    (k19 : PySem.W.keepIn K (.ref f19) = true)
    (a20 : PySem.W.findIn K (.ref C) "cells" = some (some (.ref f20)))
    (i20 : PySem.W.isFn K (.ref f20) = true)
    (l20 : K.lookup f20 = some ⟨oc20, od20, .func (PySem.W.fnOf "cells" "Layout.cells" (defArgs sCells) (defBody sCells) (defScope sCells) .none kV20 dc20 pm20 an20 cd20 ct20), sl20⟩)
    (c20 : PySem.W.codeIn K cd20 "Layout.cells" = true)
    (k20 : PySem.W.keepIn K (.ref f20) = true)
    (a21 : PySem.W.findIn K (.ref C) "is_cell" = some (some (.ref f21)))
    (i21 : PySem.W.isFn K (.ref f21) = true)
    (l21 : K.lookup f21 = some ⟨oc21, od21, .func (PySem.W.fnOf "is_cell" "Layout.is_cell" (defArgs sIsCell) (defBody sIsCell) (defScope sIsCell) .none kV21 dc21 pm21 an21 cd21 ct21), sl21⟩)
    (c21 : PySem.W.codeIn K cd21 "Layout.is_cell" = true)
    (k21 : PySem.W.keepIn K (.ref f21) = true)
    (a22 : PySem.W.findIn K (.ref C) "is_lasting" = some (some (.ref f22)))
    (i22 : PySem.W.isFn K (.ref f22) = true)
    (l22 : K.lookup f22 = some ⟨oc22, od22, .func (PySem.W.fnOf "is_lasting" "Layout.is_lasting" (defArgs sIsLast) (defBody sIsLast) (defScope sIsLast) .none kV22 dc22 pm22 an22 cd22 ct22), sl22⟩)
    (c22 : PySem.W.codeIn K cd22 "Layout.is_lasting" = true)
    (k22 : PySem.W.keepIn K (.ref f22) = true)
    (a23 : PySem.W.findIn K (.ref C) "is_record" = some (some (.ref f23)))
    (i23 : PySem.W.isFn K (.ref f23) = true)
    (l23 : K.lookup f23 = some ⟨oc23, od23, .func (PySem.W.fnOf "is_record" "Layout.is_record" (defArgs sIsRec) (defBody sIsRec) (defScope sIsRec) .none kV23 dc23 pm23 an23 cd23 ct23), sl23⟩)
    (c23 : PySem.W.codeIn K cd23 "Layout.is_record" = true)
    (k23 : PySem.W.keepIn K (.ref f23) = true)
    (a24 : PySem.W.findIn K (.ref M) "__init__" = some (some (.ref f24)))
    (i24 : PySem.W.isFn K (.ref f24) = true)
    (l24 : K.lookup f24 = some ⟨oc24, od24, .func (PySem.W.fnOf "__init__" "Memory.__init__" (defArgs sMInit) (defBody sMInit) (defScope sMInit) .none kV24 dc24 pm24 an24 cd24 ct24), sl24⟩)
    (c24 : PySem.W.codeIn K cd24 "Memory.__init__" = true)
    (k24 : PySem.W.keepIn K (.ref f24) = true)
    (a25 : PySem.W.findIn K (.ref M) "peek" = some (some (.ref f25)))
    (i25 : PySem.W.isFn K (.ref f25) = true)
    (l25 : K.lookup f25 = some ⟨oc25, od25, .func (PySem.W.fnOf "peek" "Memory.peek" (defArgs sPeek) (defBody sPeek) (defScope sPeek) .none kV25 dc25 pm25 an25 cd25 ct25), sl25⟩)
    (c25 : PySem.W.codeIn K cd25 "Memory.peek" = true)
    (k25 : PySem.W.keepIn K (.ref f25) = true)
    (a26 : PySem.W.findIn K (.ref M) "_ask_lasting" = some (some (.ref f26)))
    (i26 : PySem.W.isFn K (.ref f26) = true)
    (l26 : K.lookup f26 = some ⟨oc26, od26, .func (PySem.W.fnOf "_ask_lasting" "Memory._ask_lasting" (defArgs sAsk) (defBody sAsk) (defScope sAsk) .none kV26 dc26 pm26 an26 cd26 ct26), sl26⟩)
    (c26 : PySem.W.codeIn K cd26 "Memory._ask_lasting" = true)
    (k26 : PySem.W.keepIn K (.ref f26) = true)
    (a27 : PySem.W.findIn K (.ref M) "lasting" = some (some (.ref f27)))
    (i27 : PySem.W.isFn K (.ref f27) = true)
    (l27 : K.lookup f27 = some ⟨oc27, od27, .func (PySem.W.fnOf "lasting" "Memory.lasting" (defArgs sLasting) (defBody sLasting) (defScope sLasting) .none kV27 dc27 pm27 an27 cd27 ct27), sl27⟩)
    (c27 : PySem.W.codeIn K cd27 "Memory.lasting" = true)
    (k27 : PySem.W.keepIn K (.ref f27) = true)
    (a28 : PySem.W.findIn K (.ref M) "trail" = some (some (.ref f28)))
    (i28 : PySem.W.isFn K (.ref f28) = true)
    (l28 : K.lookup f28 = some ⟨oc28, od28, .func (PySem.W.fnOf "trail" "Memory.trail" (defArgs sTrail) (defBody sTrail) (defScope sTrail) .none kV28 dc28 pm28 an28 cd28 ct28), sl28⟩)
    (c28 : PySem.W.codeIn K cd28 "Memory.trail" = true)
    (k28 : PySem.W.keepIn K (.ref f28) = true)
    (pgC : PySem.W.plainGet K C Str.empty = true)
    (hdC : PySem.W.hasDictIn K C = true)
    (poC : PySem.W.plainOver K C = true)
    (saC : PySem.W.findIn K (.ref C) "__setattr__" = some (some (.builtin "object.__setattr__")))
    (mkC : PySem.W.makesIn K C = true)
    (kcC : PySem.W.keepIn K (.ref C) = true)
    (pgM : PySem.W.plainGet K M Str.empty = true)
    (hdM : PySem.W.hasDictIn K M = true)
    (poM : PySem.W.plainOver K M = true)
    (saM : PySem.W.findIn K (.ref M) "__setattr__" = some (some (.builtin "object.__setattr__")))
    (mkM : PySem.W.makesIn K M = true)
    (kcM : PySem.W.keepIn K (.ref M) = true)
    (gEm : PySem.W.nsIn K mainGlobals "EMPTY" = some (some (.ref E0)))
    (lE0 : K.lookup E0 = some ⟨.type "tuple", dE0, .seq #[.str "items" tI, .ref E1] nE0, sE0⟩)
    (lE1 : K.lookup E1 = some ⟨.type "tuple", dE1, .seq #[] nE1, sE1⟩)
    (CnT : PySem.W.findIn K (.ref C) "threads" = some none)
    (CnW : PySem.W.findIn K (.ref C) "words" = some none)
    (CnR : PySem.W.findIn K (.ref C) "records" = some none)
    (MnL : PySem.W.findIn K (.ref M) "layout" = some none)
    (MnC : PySem.W.findIn K (.ref M) "count" = some none)
    (MnP : PySem.W.findIn K (.ref M) "_passing" = some none)
    (MnT : PySem.W.findIn K (.ref M) "_trails" = some none)
    (MnO : PySem.W.findIn K (.ref M) "_lost" = some none)
    (MnN : PySem.W.findIn K (.ref M) "_notes" = some none)
    (MnG : PySem.W.findIn K (.ref M) "_log" = some none)
    (Cha : PySem.W.findIn K (.ref C) "__class__" = some (some (.builtin "object.__class__")))
    (hn : PySem.W.specialIn K (.builtin "object.__class__") "__get__" = some (some (.builtin "getset_descriptor.__get__")))
    (ht : PySem.W.takesIn K (.builtin "object.__class__") = some true)
    (Chm : PySem.W.mroIn K C (.type "object") = some true)
    (Chk : PySem.W.subIn K (.ref C) (.type "list") = some false)
    (xN : PySem.W.excIn K NV bmVE "ValueError.__new__" = true)
    (kN : PySem.W.keepIn K (.ref NV) = true)
    (sN : PySem.W.subIn K (.ref NV) (.type "BaseException") = some true)
    (tN : PySem.W.typeIn K (.ref NV) = some (.type "type"))
    (sL : PySem.W.subIn K (.ref LE) (.type "BaseException") = some true)
    (dL : PySem.W.hasDictIn K LE = true)
    (tL : PySem.W.typeIn K (.ref LE) = some (.type "type"))
    (sNL : PySem.W.subIn K (.ref NV) (.ref LE) = some true)
    (Ng : PySem.W.findIn K (.ref NV) "__getattribute__" = some (some (.builtin "BaseException.__getattribute__")))
    (Nk : PySem.W.findIn K (.ref NV) "__getattr__" = some none)
    (Nd : PySem.W.hasDictIn K NV = true)
    (Na : PySem.W.findIn K (.ref NV) "__class__" = some (some (.builtin "object.__class__")))
    (Nm : PySem.W.mroIn K NV (.type "object") = some true)
    (z_isinstance : PySem.W.nsIn K mainGlobals "isinstance" = some none)
    (z_int : PySem.W.nsIn K mainGlobals "int" = some none)
    (z_bool : PySem.W.nsIn K mainGlobals "bool" = some none)
    (z_str : PySem.W.nsIn K mainGlobals "str" = some none)
    (z_tuple : PySem.W.nsIn K mainGlobals "tuple" = some none)
    (z_list : PySem.W.nsIn K mainGlobals "list" = some none)
    (z_range : PySem.W.nsIn K mainGlobals "range" = some none)
    (z_len : PySem.W.nsIn K mainGlobals "len" = some none)
    (z_abs : PySem.W.nsIn K mainGlobals "abs" = some none)
    : ∃ fd : FuncData, (∀ (s : Shared) (v : Value), BindsTo s fd ⟨[v], []⟩ [("script", v)]) ∧ ∀ base : Heap, K.In base → base.Ns mainGlobals mg → FnOk l.prog w K mg base CX0 12 fa fd ["script"] (spLaw K) := by
  have e := hfa.symm.trans (PySem.W.mg_of X G a13)
  cases e
  have F1 := fun_mk (st := sWhole) l1 c1 k1
  have b1 := F1.binds (ps := ["value"]) fun _ _ _ _ _ _ us hl => match us, hl with | [_], _ => rfl
  have T_is_whole : GT K mg "is_whole" sWhole ["value"] := ⟨_, _, F1, PySem.W.mg_of X G a1, b1⟩
  have F2 := fun_mk (st := sWithin) l2 c2 k2
  have b2 := F2.binds (ps := ["value", "low", "high"]) fun _ _ _ _ _ _ us hl => match us, hl with | [_, _, _], _ => rfl
  have T_is_within : GT K mg "is_within" sWithin ["value", "low", "high"] := ⟨_, _, F2, PySem.W.mg_of X G a2, b2⟩
  have F3 := fun_mk (st := sPass) l3 c3 k3
  have b3 := F3.binds (ps := ["layout"]) fun _ _ _ _ _ _ us hl => match us, hl with | [_], _ => rfl
  have T_passing_values : GT K mg "passing_values" sPass ["layout"] := ⟨_, _, F3, PySem.W.mg_of X G a3, b3⟩
  have F4 := fun_mk (st := sTrails) l4 c4 k4
  have b4 := F4.binds (ps := ["layout"]) fun _ _ _ _ _ _ us hl => match us, hl with | [_], _ => rfl
  have T_first_trails : GT K mg "first_trails" sTrails ["layout"] := ⟨_, _, F4, PySem.W.mg_of X G a4, b4⟩
  have F5 := fun_mk (st := sNotes) l5 c5 k5
  have b5 := F5.binds (ps := ["layout"]) fun _ _ _ _ _ _ us hl => match us, hl with | [_], _ => rfl
  have T_no_notes : GT K mg "no_notes" sNotes ["layout"] := ⟨_, _, F5, PySem.W.mg_of X G a5, b5⟩
  have F6 := fun_mk (st := sTape) l6 c6 k6
  have b6 := F6.binds (ps := ["script"]) fun _ _ _ _ _ _ us hl => match us, hl with | [_], _ => rfl
  have T__law_tape : GT K mg "_law_tape" sTape ["script"] := ⟨_, _, F6, PySem.W.mg_of X G a6, b6⟩
  have F7 := fun_mk (st := sAt) l7 c7 k7
  have b7 := F7.binds (ps := ["tape", "k"]) fun _ _ _ _ _ _ us hl => match us, hl with | [_, _], _ => rfl
  have T__law_at : GT K mg "_law_at" sAt ["tape", "k"] := ⟨_, _, F7, PySem.W.mg_of X G a7, b7⟩
  have F8 := fun_mk (st := sTold) l8 c8 k8
  have b8 := F8.binds (ps := ["threads", "words", "records"]) fun _ _ _ _ _ _ us hl => match us, hl with | [_, _, _], _ => rfl
  have T__law_told : GT K mg "_law_told" sTold ["threads", "words", "records"] := ⟨_, _, F8, PySem.W.mg_of X G a8, b8⟩
  have F9 := fun_mk (st := sListed) l9 c9 k9
  have b9 := F9.binds (ps := ["layout"]) fun _ _ _ _ _ _ us hl => match us, hl with | [_], _ => rfl
  have T__law_listed : GT K mg "_law_listed" sListed ["layout"] := ⟨_, _, F9, PySem.W.mg_of X G a9, b9⟩
  have F10 := fun_mk (st := sDue) l10 c10 k10
  have b10 := F10.binds (ps := ["layout", "cell"]) fun _ _ _ _ _ _ us hl => match us, hl with | [_, _], _ => rfl
  have T__law_due : GT K mg "_law_due" sDue ["layout", "cell"] := ⟨_, _, F10, PySem.W.mg_of X G a10, b10⟩
  have F11 := fun_mk (st := sLasts) l11 c11 k11
  have b11 := F11.binds (ps := ["memory", "cell"]) fun _ _ _ _ _ _ us hl => match us, hl with | [_, _], _ => rfl
  have T__law_lasts : GT K mg "_law_lasts" sLasts ["memory", "cell"] := ⟨_, _, F11, PySem.W.mg_of X G a11, b11⟩
  have F12 := fun_mk (st := sSame) l12 c12 k12
  have b12 := F12.binds (ps := ["told", "due"]) fun _ _ _ _ _ _ us hl => match us, hl with | [_, _], _ => rfl
  have T__law_same : GT K mg "_law_same" sSame ["told", "due"] := ⟨_, _, F12, PySem.W.mg_of X G a12, b12⟩
  have F13 := fun_mk (st := sLaw) l13 c13 k13
  have F14 := fun_mk (st := sLInit) l14 c14 k14
  have b14 := F14.binds (ps := ["self", "threads", "words", "records"]) fun _ _ _ _ _ _ us hl => match us, hl with | [_, _, _, _], _ => rfl
  have Mk_Layout : Mk K C f14 := ⟨mkC, a14, i14, kcC⟩
  have FI_Layout := F14
  have bI_Layout := b14
  have F15 := fun_mk (st := sEpoch) l15 c15 k15
  have b15 := F15.binds (ps := ["self"]) fun _ _ _ _ _ _ us hl => match us, hl with | [_], _ => rfl
  have T_Layout_epoch : MT K C "epoch" "Layout.epoch" sEpoch ["self"] := ⟨_, _, F15, ⟨a15, i15, k15⟩, b15⟩
  have F16 := fun_mk (st := sESlot) l16 c16 k16
  have b16 := F16.binds (ps := ["self", "thread"]) fun _ _ _ _ _ _ us hl => match us, hl with | [_, _], _ => rfl
  have T_Layout_epoch_slot : MT K C "epoch_slot" "Layout.epoch_slot" sESlot ["self", "thread"] := ⟨_, _, F16, ⟨a16, i16, k16⟩, b16⟩
  have F17 := fun_mk (st := sCSlot) l17 c17 k17
  have b17 := F17.binds (ps := ["self", "thread"]) fun _ _ _ _ _ _ us hl => match us, hl with | [_, _], _ => rfl
  have T_Layout_call_slot : MT K C "call_slot" "Layout.call_slot" sCSlot ["self", "thread"] := ⟨_, _, F17, ⟨a17, i17, k17⟩, b17⟩
  have F18 := fun_mk (st := sWord) l18 c18 k18
  have b18 := F18.binds (ps := ["self", "index"]) fun _ _ _ _ _ _ us hl => match us, hl with | [_, _], _ => rfl
  have T_Layout_word : MT K C "word" "Layout.word" sWord ["self", "index"] := ⟨_, _, F18, ⟨a18, i18, k18⟩, b18⟩
  have F19 := fun_mk (st := sRecord) l19 c19 k19
  have b19 := F19.binds (ps := ["self", "index"]) fun _ _ _ _ _ _ us hl => match us, hl with | [_, _], _ => rfl
  have T_Layout_record : MT K C "record" "Layout.record" sRecord ["self", "index"] := ⟨_, _, F19, ⟨a19, i19, k19⟩, b19⟩
  have F20 := fun_mk (st := sCells) l20 c20 k20
  have b20 := F20.binds (ps := ["self"]) fun _ _ _ _ _ _ us hl => match us, hl with | [_], _ => rfl
  have T_Layout_cells : MT K C "cells" "Layout.cells" sCells ["self"] := ⟨_, _, F20, ⟨a20, i20, k20⟩, b20⟩
  have F21 := fun_mk (st := sIsCell) l21 c21 k21
  have b21 := F21.binds (ps := ["self", "cell"]) fun _ _ _ _ _ _ us hl => match us, hl with | [_, _], _ => rfl
  have T_Layout_is_cell : MT K C "is_cell" "Layout.is_cell" sIsCell ["self", "cell"] := ⟨_, _, F21, ⟨a21, i21, k21⟩, b21⟩
  have F22 := fun_mk (st := sIsLast) l22 c22 k22
  have b22 := F22.binds (ps := ["self", "cell"]) fun _ _ _ _ _ _ us hl => match us, hl with | [_, _], _ => rfl
  have T_Layout_is_lasting : MT K C "is_lasting" "Layout.is_lasting" sIsLast ["self", "cell"] := ⟨_, _, F22, ⟨a22, i22, k22⟩, b22⟩
  have F23 := fun_mk (st := sIsRec) l23 c23 k23
  have b23 := F23.binds (ps := ["self", "cell"]) fun _ _ _ _ _ _ us hl => match us, hl with | [_, _], _ => rfl
  have T_Layout_is_record : MT K C "is_record" "Layout.is_record" sIsRec ["self", "cell"] := ⟨_, _, F23, ⟨a23, i23, k23⟩, b23⟩
  have F24 := fun_mk (st := sMInit) l24 c24 k24
  have b24 := F24.binds (ps := ["self", "layout"]) fun _ _ _ _ _ _ us hl => match us, hl with | [_, _], _ => rfl
  have Mk_Memory : Mk K M f24 := ⟨mkM, a24, i24, kcM⟩
  have FI_Memory := F24
  have bI_Memory := b24
  have F25 := fun_mk (st := sPeek) l25 c25 k25
  have b25 := F25.binds (ps := ["self", "cell"]) fun _ _ _ _ _ _ us hl => match us, hl with | [_, _], _ => rfl
  have T_Memory_peek : MT K M "peek" "Memory.peek" sPeek ["self", "cell"] := ⟨_, _, F25, ⟨a25, i25, k25⟩, b25⟩
  have F26 := fun_mk (st := sAsk) l26 c26 k26
  have b26 := F26.binds (ps := ["self", "cell"]) fun _ _ _ _ _ _ us hl => match us, hl with | [_, _], _ => rfl
  have T_Memory__ask_lasting : MT K M "_ask_lasting" "Memory._ask_lasting" sAsk ["self", "cell"] := ⟨_, _, F26, ⟨a26, i26, k26⟩, b26⟩
  have F27 := fun_mk (st := sLasting) l27 c27 k27
  have b27 := F27.binds (ps := ["self", "cell"]) fun _ _ _ _ _ _ us hl => match us, hl with | [_, _], _ => rfl
  have T_Memory_lasting : MT K M "lasting" "Memory.lasting" sLasting ["self", "cell"] := ⟨_, _, F27, ⟨a27, i27, k27⟩, b27⟩
  have F28 := fun_mk (st := sTrail) l28 c28 k28
  have b28 := F28.binds (ps := ["self", "cell"]) fun _ _ _ _ _ _ us hl => match us, hl with | [_, _], _ => rfl
  have T_Memory_trail : MT K M "trail" "Memory.trail" sTrail ["self", "cell"] := ⟨_, _, F28, ⟨a28, i28, k28⟩, b28⟩
  have hE0 : ∀ H, SqT K H E0 [.str "items", .ref E1] := fun H => .inr ⟨_, _, _, lE0, rfl, rfl, (by show 2 ≤ sizeLine; decide), .cons ⟨_, rfl⟩ (.cons rfl .nil)⟩
  have hE1 : ∀ H, SqT K H E1 [] := fun H => .inr ⟨_, _, _, lE1, rfl, rfl, (by show 0 ≤ sizeLine; exact Nat.zero_le _), .nil⟩
  have Bn0 : Bn mg := ⟨PySem.W.mg_none_of X G z_isinstance, PySem.W.mg_none_of X G z_int, PySem.W.mg_none_of X G z_bool, PySem.W.mg_none_of X G z_str, PySem.W.mg_none_of X G z_tuple, PySem.W.mg_none_of X G z_list, PySem.W.mg_none_of X G z_range, PySem.W.mg_none_of X G z_len, PySem.W.mg_none_of X G z_abs⟩
  have T : LTxt K mg C := ⟨Bn0, ⟨pgC, hdC, poC, saC⟩, CnT, CnW, CnR⟩
  have TM : MTxt K M := ⟨⟨pgM, hdM, poM, saM⟩, MnL, MnC, MnP, MnT, MnO, MnN, MnG⟩
  have X0 : XTxt K mg NV LE := ⟨PySem.W.mg_of X G gNV, PySem.W.mg_of X G gLE, xN, kN, sN, tN, PySem.W.exm_ref sL dL tL sNL, ⟨Ng, Nk, sN, Nd, Na, hn, ht, Nm⟩, kit_self⟩
  have TC : LCls K C := ⟨Cha, hn, ht, Chm, kit_list Chk⟩
  refine ⟨PySem.W.fnOf "law" "law" (defArgs sLaw) (defBody sLaw) (defScope sLaw) .none kV13 dc13 pm13 an13 cd13 ct13, fun s v => .of_eq rfl, fun base _ _ => ?_⟩
  have Gwh := go_whole (P := l.prog) (w := w) (base := base) T_is_whole Bn0
  have Gwi := go_within T_is_within Gwh
  have Ge := mo_epoch (P := l.prog) (w := w) (mg := mg) (base := base) T_Layout_epoch
  have Ges := mo_eslot (P := l.prog) (w := w) (mg := mg) (base := base) T_Layout_epoch_slot
  have Gcs := mo_cslot T_Layout_call_slot T Ges
  have Gwo := mo_word T_Layout_word T Gcs
  have Gre := mo_record T_Layout_record T Gwo
  have Gce := mo_cells T_Layout_cells T Gre
  have Gic := mo_iscell T_Layout_is_cell T Gce Gwi
  have Gil := mo_islast T_Layout_is_lasting T Gic Gcs
  have Gir := mo_isrec T_Layout_is_record T Gic Gre
  have Gli := ok_linit FI_Layout T X0 Gwi
  have Gto := go_told T__law_told T X0 (PySem.W.mg_of X G gC) Mk_Layout Gli bI_Layout
  have Gpv := go_pass (P := l.prog) (w := w) (base := base) T_passing_values T
  have Gft := go_trails T_first_trails T (PySem.W.mg_of X G gEm) Gcs Gwo Gre Gce
  have Gnn := go_notes (P := l.prog) (w := w) (base := base) T_no_notes T
  have Gmi := ok_minit FI_Memory T TM Gpv Gft Gnn
  have Gpk := mo_peek T_Memory_peek T TM Gic Gil
  have Gak := mo_ask T_Memory__ask_lasting T TM X0 Gil
  have Gla := mo_lasting T_Memory_lasting TM Gak
  have Gtr := mo_trail T_Memory_trail T TM Gak
  have Gtp := go_tape (P := l.prog) (w := w) (base := base) T__law_tape Bn0
  have Gat := go_at (P := l.prog) (w := w) (base := base) T__law_at Bn0
  have Gsm := go_same (P := l.prog) (w := w) (base := base) T__law_same Bn0
  have Gll := go_lasts T__law_lasts T TM X0 Gtr Gla
  have Gdu := go_due (P := l.prog) (w := w) (base := base) T__law_due T
  have Gls := go_listed T__law_listed T Ge Ges Gcs Gwo Gre
  exact ok_law F13 T TM hE0 hE1 TC (PySem.W.mg_of X G gM) Mk_Memory Gmi bI_Memory Gtp Gat Gto Gls Gce Gil Gir Gdu Gsm Gpk Gll
theorem walk {l : PySem.W.OpenLaw} {q : Program} {loose : List Str} {XP : (Str → Option Value) → Heap → Prop} {YP : World → Heap → Prop} {d : DefRec} {K : Params → PySem.W.Frag} (hn : l.most = some 63) (hdf : d.params.defaults = [])
    (hY : ∀ (w : World) (h : Heap), YP w h → (K w.params).In h)
    (F : ∀ (w : World) (mg : Str → Option Value) (fa : Addr) (h : Heap), (K w.params).In h → h.Ns mainGlobals mg → mg d.name = some (.ref fa) →
      ∃ fd : FuncData, (∀ (s : Shared) (u : Value), BindsTo s fd ⟨[u], []⟩ [("script", u)]) ∧ ∀ base : Heap, (K w.params).In base → base.Ns mainGlobals mg → FnOk l.prog w (K w.params) mg base CX0 12 fa fd ["script"] (spLaw (K w.params))) :
    PySem.W.WalkO q loose XP YP l.row.toRowW d [] (fun f vs => PySem.call f vs) :=
  L2.walk_of (n := 63) (k := 12) (x := "script") (CX := fun _ => CX0) (sp := fun w => spLaw (K w.params)) hn (by decide) hdf ⟨rfl, by decide, by decide⟩ hY F (fun _ _ a ns hl _ hS => ⟨a, ns, rfl, hS, hl, fun _ => rfl⟩) fun _ _ _ _ _ z => z
end Dk
open PySem PySem.W PyProof.Rows
set_option maxRecDepth 100000 in
set_option maxHeartbeats 0 in
theorem PySem.Challenge.cw_driftkept_k01_layouts_holds : PySem.Challenge.rw_driftkept_k01_layouts.Holds := by
  w_on; o_law; k_head; (case hw => w_witness2)
  k_fill
  refine Dk.walk (l := PySem.Challenge.rw_driftkept_k01_layouts) rfl rfl (fun w h Y => PySem.W.kIn_of Y) ?F
  case F =>
    intro w mg fa h KX G hmg
    refine' Dk.all_mk KX G hmg ?gC ?gM ?gNV ?gLE ?a1 ?l1 ?c1 ?k1 ?a2 ?l2 ?c2 ?k2 ?a3 ?l3 ?c3 ?k3 ?a4 ?l4 ?c4 ?k4 ?a5 ?l5 ?c5 ?k5 ?a6 ?l6 ?c6 ?k6 ?a7 ?l7 ?c7 ?k7 ?a8 ?l8 ?c8 ?k8 ?a9 ?l9 ?c9 ?k9 ?a10 ?l10 ?c10 ?k10 ?a11 ?l11 ?c11 ?k11 ?a12 ?l12 ?c12 ?k12 ?a13 ?l13 ?c13 ?k13 ?a14 ?i14 ?l14 ?c14 ?k14 ?a15 ?i15 ?l15 ?c15 ?k15 ?a16 ?i16 ?l16 ?c16 ?k16 ?a17 ?i17 ?l17 ?c17 ?k17 ?a18 ?i18 ?l18 ?c18 ?k18 ?a19 ?i19 ?l19 ?c19 ?k19 ?a20 ?i20 ?l20 ?c20 ?k20 ?a21 ?i21 ?l21 ?c21 ?k21 ?a22 ?i22 ?l22 ?c22 ?k22 ?a23 ?i23 ?l23 ?c23 ?k23 ?a24 ?i24 ?l24 ?c24 ?k24 ?a25 ?i25 ?l25 ?c25 ?k25 ?a26 ?i26 ?l26 ?c26 ?k26 ?a27 ?i27 ?l27 ?c27 ?k27 ?a28 ?i28 ?l28 ?c28 ?k28 ?pgC ?hdC ?poC ?saC ?mkC ?kcC ?pgM ?hdM ?poM ?saM ?mkM ?kcM ?gEm ?lE0 ?lE1 ?CnT ?CnW ?CnR ?MnL ?MnC ?MnP ?MnT ?MnO ?MnN ?MnG ?Cha ?hn ?ht ?Chm ?Chk ?xN ?kN ?sN ?tN ?sL ?dL ?tL ?sNL ?Ng ?Nk ?Nd ?Na ?Nm ?z_isinstance ?z_int ?z_bool ?z_str ?z_tuple ?z_list ?z_range ?z_len ?z_abs
    (case gC => k_is)
    (case gM => k_is)
    (case gNV => k_is)
    (case gLE => k_is)
    (case a1 => k_is)
    (case l1 => k_is)
    (case c1 => k_is)
    (case k1 => k_is)
    (case a2 => k_is)
    (case l2 => k_is)
    (case c2 => k_is)
    (case k2 => k_is)
    (case a3 => k_is)
    (case l3 => k_is)
    (case c3 => k_is)
    (case k3 => k_is)
    (case a4 => k_is)
    (case l4 => k_is)
    (case c4 => k_is)
    (case k4 => k_is)
    (case a5 => k_is)
    (case l5 => k_is)
    (case c5 => k_is)
    (case k5 => k_is)
    (case a6 => k_is)
    (case l6 => k_is)
    (case c6 => k_is)
    (case k6 => k_is)
    (case a7 => k_is)
    (case l7 => k_is)
    (case c7 => k_is)
    (case k7 => k_is)
    (case a8 => k_is)
    (case l8 => k_is)
    (case c8 => k_is)
    (case k8 => k_is)
    (case a9 => k_is)
    (case l9 => k_is)
    (case c9 => k_is)
    (case k9 => k_is)
    (case a10 => k_is)
    (case l10 => k_is)
    (case c10 => k_is)
    (case k10 => k_is)
    (case a11 => k_is)
    (case l11 => k_is)
    (case c11 => k_is)
    (case k11 => k_is)
    (case a12 => k_is)
    (case l12 => k_is)
    (case c12 => k_is)
    (case k12 => k_is)
    (case a13 => k_is)
    (case l13 => k_is)
    (case c13 => k_is)
    (case k13 => k_is)
    (case a14 => k_is)
    (case i14 => k_is)
    (case l14 => k_is)
    (case c14 => k_is)
    (case k14 => k_is)
    (case a15 => k_is)
    (case i15 => k_is)
    (case l15 => k_is)
    (case c15 => k_is)
    (case k15 => k_is)
    (case a16 => k_is)
    (case i16 => k_is)
    (case l16 => k_is)
    (case c16 => k_is)
    (case k16 => k_is)
    (case a17 => k_is)
    (case i17 => k_is)
    (case l17 => k_is)
    (case c17 => k_is)
    (case k17 => k_is)
    (case a18 => k_is)
    (case i18 => k_is)
    (case l18 => k_is)
    (case c18 => k_is)
    (case k18 => k_is)
    (case a19 => k_is)
    (case i19 => k_is)
    (case l19 => k_is)
    (case c19 => k_is)
    (case k19 => k_is)
    (case a20 => k_is)
    (case i20 => k_is)
    (case l20 => k_is)
    (case c20 => k_is)
    (case k20 => k_is)
    (case a21 => k_is)
    (case i21 => k_is)
    (case l21 => k_is)
    (case c21 => k_is)
    (case k21 => k_is)
    (case a22 => k_is)
    (case i22 => k_is)
    (case l22 => k_is)
    (case c22 => k_is)
    (case k22 => k_is)
    (case a23 => k_is)
    (case i23 => k_is)
    (case l23 => k_is)
    (case c23 => k_is)
    (case k23 => k_is)
    (case a24 => k_is)
    (case i24 => k_is)
    (case l24 => k_is)
    (case c24 => k_is)
    (case k24 => k_is)
    (case a25 => k_is)
    (case i25 => k_is)
    (case l25 => k_is)
    (case c25 => k_is)
    (case k25 => k_is)
    (case a26 => k_is)
    (case i26 => k_is)
    (case l26 => k_is)
    (case c26 => k_is)
    (case k26 => k_is)
    (case a27 => k_is)
    (case i27 => k_is)
    (case l27 => k_is)
    (case c27 => k_is)
    (case k27 => k_is)
    (case a28 => k_is)
    (case i28 => k_is)
    (case l28 => k_is)
    (case c28 => k_is)
    (case k28 => k_is)
    (case pgC => k_is)
    (case hdC => k_is)
    (case poC => k_is)
    (case saC => k_is)
    (case mkC => k_is)
    (case kcC => k_is)
    (case pgM => k_is)
    (case hdM => k_is)
    (case poM => k_is)
    (case saM => k_is)
    (case mkM => k_is)
    (case kcM => k_is)
    (case gEm => k_is)
    (case lE0 => k_is)
    (case lE1 => k_is)
    (case CnT => k_is)
    (case CnW => k_is)
    (case CnR => k_is)
    (case MnL => k_is)
    (case MnC => k_is)
    (case MnP => k_is)
    (case MnT => k_is)
    (case MnO => k_is)
    (case MnN => k_is)
    (case MnG => k_is)
    (case Cha => k_is)
    (case hn => k_is)
    (case ht => k_is)
    (case Chm => k_is)
    (case Chk => k_is)
    (case xN => k_exc)
    (case kN => k_is)
    (case sN => k_is)
    (case tN => k_is)
    (case sL => k_is)
    (case dL => k_is)
    (case tL => k_is)
    (case sNL => k_is)
    (case Ng => k_is)
    (case Nk => k_is)
    (case Nd => k_is)
    (case Na => k_is)
    (case Nm => k_is)
    (case z_isinstance => k_is)
    (case z_int => k_is)
    (case z_bool => k_is)
    (case z_str => k_is)
    (case z_tuple => k_is)
    (case z_list => k_is)
    (case z_range => k_is)
    (case z_len => k_is)
    (case z_abs => k_is)

