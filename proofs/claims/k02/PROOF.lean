import PyProof.Rows.All
import Wide.All
import OpenK.AllK
import Wide.FinOn
import HandS.ForMost
import HandS.ForExc
import HandS.IsInst
import HandS.ExcIs
import HandS.DictComp
import HandS.Style
import HandS.Walk
import HandS.SortInts
import HandS.Star
import HandS.More
import HandS.ClsMeth
import HandS.Codes
import HandS.Zip
import PySem.Challenge.RW_driftkept_k02_whole_memory_that_lasts
import PyProof.Rows.MatchSeqLen
import HandS.OwnIter
set_option Elab.async false
set_option linter.all false
set_option maxRecDepth 100000
set_option maxHeartbeats 4000000
/-! general rules -/
namespace Dk
open PySem PySem.Spec PyProof.Rows L2
/-- a def of the top keeps a promise -/
def GO (P : Program) (w : World) (K : PySem.W.Frag) (mg : Str → Option Value) (base : Heap) (CX : CXT) (k : Nat) (x : Str) (ps : List Str) (sp : Sp) : Prop :=
  ∃ f fd, FnOk P w K mg base CX k f fd ps sp ∧ mg x = some (.ref f) ∧ PySem.W.keepIn K (.ref f) = true ∧ Binds K fd ps []
def MO (P : Program) (w : World) (K : PySem.W.Frag) (mg : Str → Option Value) (base : Heap) (CX : CXT) (C : Addr) (k : Nat) (m : Str) (ps : List Str) (sp : Sp) : Prop :=
  ∃ f fd, FnOk P w K mg base CX k f fd ps sp ∧ Meth K C m f ∧ Binds K fd ps []
/-- where a def of the top, a method stands -/
def GT (K : PySem.W.Frag) (mg : Str → Option Value) (x : Str) (st : Stmt) (ps : List Str) : Prop := ∃ f fd, Fun K x x st f fd ∧ mg x = some (.ref f) ∧ Binds K fd ps []
def MT (K : PySem.W.Frag) (C : Addr) (m qual : Str) (st : Stmt) (ps : List Str) : Prop := ∃ f fd, Fun K m qual st f fd ∧ Meth K C m f ∧ Binds K fd ps []
section
variable {X : Cx} {CX : CXT} {k : Nat} {f C : Addr} {fd : FuncData} {ps : List Str} {sp : Sp} {x m : Str} {p pos apos : Pos} {e o : Expr} {es : List Expr} {ta : TE} {t : TA}
theorem pc_ (G : GO X.prog X.w X.K X.mg X.base CX0 k x ps sp) (hr : Room k X.A) (ha : PA X (e :: es) t) (hg : Gl X x := by rfl) (hdb : (x == ("__debug__" : Str)) = false := by decide)
    (he : starEach (e :: es) X.env = (false, eval e X.env) :: starEach es X.env := by rfl) (hpl : (backTo pos (starEach es X.env)).any (·.1) = false := by rfl) : PE X (.Call (.Name x p) (e :: es) [] pos) (tCall sp [] E0 t) := by
  obtain ⟨f, fd, F, hm, hk, hb⟩ := G
  exact pe_call F hr hg hm hk hb .nil pass0 ha hdb he hpl
theorem pm_ {pl : Sem Bool} (G : MO X.prog X.w X.K X.mg X.base CX0 C k m ps sp) (c : Cls X.K C) (hr : Room k X.A) (he : PE X o ta) (ha : PA X (e :: es) t)
    (hst : starEach (e :: es) X.env = (false, eval e X.env) :: starEach es X.env := by rfl) (hpl : (backTo pos (starEach es X.env)).any (·.1) = false := by rfl)
    (ht : eval (.Call (.Attribute o m apos) (e :: es) [] pos) X.env = (do
      let ov ← eval o X.env
      standAt apos.atName
      let (f, first) ← holding [ov] (getMethod ov m pl)
      callWith pos f first (backTo pos (starEach (e :: es) X.env)) (backToKw pos (keywordEach [] X.env))) := by rfl) : PE X (.Call (.Attribute o m apos) (e :: es) [] pos) (tMeth C m sp [] E0 ta t) := by
  obtain ⟨f, fd, F, hm, hb⟩ := G
  exact pe_meth he c hm F hr hb .nil pass0 ha hst hpl ht
theorem pm0_ {pl : Sem Bool} (G : MO X.prog X.w X.K X.mg X.base CX0 C k m ps sp) (c : Cls X.K C) (hr : Room k X.A) (he : PE X o ta)
    (ht : eval (.Call (.Attribute o m apos) [] [] pos) X.env = (do
      let ov ← eval o X.env
      standAt apos.atName
      let (f, first) ← holding [ov] (getMethod ov m pl)
      callWith pos f first (backTo pos (starEach [] X.env)) (backToKw pos (keywordEach [] X.env))) := by rfl) : PE X (.Call (.Attribute o m apos) [] [] pos) (tMeth C m sp [] E0 ta tNil) := by
  obtain ⟨f, fd, F, hm, hb⟩ := G
  exact pe_meth0 he c hm F hr hb .nil pass0 ht
/-- a method that may raise, called at the slots -/
def tMethE (C : Addr) (m : Str) (sp : Sp) (E : L2.St → XK) (ta : TE) (t : TA) : TE := fun σ H Q => ta σ H fun x H1 => ∃ a dx fs, x = .ref a ∧ H1 a = some (.ins C dx fs) ∧ fs.lookup m = none ∧
  t σ H1 fun vs H2 => sp (x :: vs) H2 Q (E σ)
theorem pmE_ {pl : Sem Bool} {E : L2.St → XK} (G : MO X.prog X.w X.K X.mg X.base CX C k m ps sp) (c : Cls X.K C) (hr : Room k X.A) (hx : ∀ σ, PassesAt CX X σ (E σ)) (he : PE X o ta) (ha : PA X (e :: es) t)
    (hst : starEach (e :: es) X.env = (false, eval e X.env) :: starEach es X.env := by rfl) (hpl : (backTo pos (starEach es X.env)).any (·.1) = false := by rfl)
    (ht : eval (.Call (.Attribute o m apos) (e :: es) [] pos) X.env = (do
      let ov ← eval o X.env
      standAt apos.atName
      let (f, first) ← holding [ov] (getMethod ov m pl)
      callWith pos f first (backTo pos (starEach (e :: es) X.env)) (backToKw pos (keywordEach [] X.env))) := by rfl) : PE X (.Call (.Attribute o m apos) (e :: es) [] pos) (tMethE C m sp E ta t) := by
  obtain ⟨f, fd, F, hm, hb⟩ := G
  refine ⟨fun pins s σ H Q I h => ?_⟩
  refine PySem.W.methodCall_KW (pl := pl) (thn (he.run pins s σ H _ I h) fun u s1 ⟨x, H1, I1, rx, a, dx, fs, ex, ea, l, q⟩ => ?_) ht
  subst ex
  obtain rfl : u = Value.ref a := rx
  refine getmeth_ok I1 ea c hm l ?_
  refine PySem.W.callWith_K (first := [.ref a]) (h₀ := X.base) I.ok.mod.kin hm.kp (thn (ha.run pos pins s1 σ H1 _ I1 q) fun us s2 ⟨vs, H2, I2, r, q2⟩ => ⟨I2.kIn, ?_⟩) hst hpl
  exact run_fnS (us := .ref a :: us) (vs := .ref a :: vs) F hr hb (hx σ) I2 (.cons rfl r) q2
/-- C(e, ..) where __init__ may raise, at the slots -/
def tMakeE (C : Addr) (sp : Sp) (E : L2.St → XK) (t : TA) : TE := fun σ H Q => t σ H fun vs H1 => ∀ x dx, H1 x = none → H1 dx = none → dx ≠ x →
  sp (.ref x :: vs) (upd (upd H1 dx (.own x)) x (.ins C dx [])) (fun v H2 => v = .non ∧ Q (.ref x) H2) (fun cls d H2 => E σ cls d H2)
theorem run_makeE {pins : List (Addr × Obj)} {σ : L2.St} {H : Hp} {s : Shared} {Q : VK} {E : XK} {us : List Value} {vs : List V} (M : Mk X.K C f) (F : FnOk X.prog X.w X.K X.mg X.base CX k f fd ps sp) (hr : Room (k + 1) X.A) (hb : Binds X.K fd ps [])
    (hx : PassesAt CX X σ E) (I : Inv X pins σ H s) (r : Vals vs us)
    (h : ∀ x dx, H x = none → H dx = none → dx ≠ x → sp (.ref x :: vs) (upd (upd H dx (.own x)) x (.ins C dx [])) (fun v H2 => v = .non ∧ Q (.ref x) H2) E) :
    wpAny (model X.prog X.w) X.A (call (.ref C) us) (EP X pins σ Q) X.xe s := by
  have hq := h (s.heap.objs.size + 1) s.heap.objs.size (I.hok.fresh (Nat.le_succ _)) (I.hok.fresh (Nat.le_refl _)) (Nat.ne_of_lt (Nat.lt_succ_self _))
  have I2 := Inv.made (C := C) I
  have r2 : Vals (V.ref (s.heap.objs.size + 1) :: vs) (Value.ref (s.heap.objs.size + 1) :: us) := .cons rfl r
  have hl : (Value.ref (s.heap.objs.size + 1) :: us ++ []).length = ps.length := by
    have e := r2.length
    rw [F.len _ _ _ _ hq] at e
    rw [List.append_nil]
    exact e.symm
  have b := hb _ (Value.ref (s.heap.objs.size + 1) :: us) I2.kIn hl
  rw [List.append_nil] at b
  refine wpAny_call (make_map (f := f) I.kIn M.makes M.init (beq_iff_eq.mp M.fn) (codeAny_mono (F.run _ X.stack _ _ ⟨Value.ref (s.heap.objs.size + 1) :: us, []⟩ (Value.ref (s.heap.objs.size + 1) :: us) _ _ E (hr.make C us [])
    (I2.env0.make C us []) b r2 hq) fun r s' hq' => ?_))
  cases r with
  | error e => exact hx pins _ _ e s' I2 hq'
  | ok fl =>
    cases fl with
    | ret u =>
      obtain ⟨v, H', I3, rv, ev, q3⟩ := I2.after hq'
      subst ev
      exact ⟨rv, ⟨V.ref (s.heap.objs.size + 1), H', I3, rfl, q3⟩⟩
    | next => exact False.elim hq'
    | brk => exact False.elim hq'
    | cont => exact False.elim hq'
theorem pe_makeE {E : L2.St → XK} (M : Mk X.K C f) (F : FnOk X.prog X.w X.K X.mg X.base CX k f fd ps sp) (hr : Room (k + 1) X.A) (hg : Gl X x) (hm : X.mg x = some (.ref C)) (hb : Binds X.K fd ps []) (hx : ∀ σ, PassesAt CX X σ (E σ))
    (ha : PA X (e :: es) t) (hdb : (x == ("__debug__" : Str)) = false := by decide) (he : starEach (e :: es) X.env = (false, eval e X.env) :: starEach es X.env := by rfl) (hpl : (backTo pos (starEach es X.env)).any (·.1) = false := by rfl) :
    PE X (.Call (.Name x p) (e :: es) [] pos) (tMakeE C sp E t) := by
  refine ⟨fun pins s σ H Q I h => ?_⟩
  refine wpAny_Call_Name_kw (ld_glob I hg hm ?_ hdb)
  refine PySem.W.callWith_K (h₀ := X.base) I.ok.mod.kin M.kp (thn (ha.run pos pins s σ H _ I h) fun us s1 ⟨vs, H1, I1, r, q⟩ => ⟨I1.kIn, ?_⟩) he hpl
  exact run_makeE M F hr hb (hx σ) I1 r q
end
section
variable {X : Cx} {C : Addr} {bmB : List Value} {B newId initId : String}
/-- X() -/
theorem pmk_own0 {x : Str} {p pos : Pos} (F : ExcBaseFacts B newId initId bmB) (q : PySem.W.excIn X.K C bmB newId = true) (gC : X.mg x = some (.ref C)) (kC : PySem.W.keepIn X.K (.ref C) = true) (r : Raises X (.ref C)) (hg : Gl X x)
    (hdb : (x == ("__debug__" : Str)) = false := by decide) : PMk X (.Call (.Name x p) [] [] pos) (fun _ H Q => Q (.ref C) none H) := by
  intro pins s σ H Q I h
  refine wpAny_Call_Name_kw (ld_glob I hg gC ?_ hdb)
  refine PySem.W.callWith_K0 I.kIn kC ?_
  show wpAny _ _ (call (.ref C) []) _ _ _
  obtain ⟨bm, N, nm, qn, bs, hdct, sn, sub, ab, col, dd, k0, k1, k2, k3, k5, mN, hC, hN, hni, T⟩ := exc_obj I.kIn q
  refine wpAny_call_exc_subT F T hC hN hni (fun h' e hm => ?_) (by show 0 ≤ sizeLine; exact Nat.zero_le _)
  exact mk_of I hm r h (I.hok.gone hm.new)
end
/-- a dict comprehension over a walk -/
theorem dc_it {J : It} {n : Nat} {G : Hp → Prop} {Y : Nat → Hp → V → Hp → Prop} (w : Walk J n G Y) {g : TG} {tt : TT} {tk tv : TE} {vs : List Nat} {σ : L2.St} {H1 : Hp} {D : Addr} {Qd : Hp → Prop} (Pv : Nat → Hp → Prop) (h0 : Pv 0 (upd H1 D (.dK []))) (hG : ∀ i H, i ≤ n → Pv i H → G H)
    (hs : ∀ i x H H', i < n → Pv i H → Y i H x H' → g x (wipe σ vs) H' fun σ2 H2 => wipe σ2 vs = wipe σ vs ∧ tt σ2 H2 fun b H3 =>
      if b = true then tk σ2 H3 fun y H4 => tv σ2 H4 fun z H5 => ∃ kvs k, y = kV k ∧ H5 D = some (.dK kvs) ∧ kvs.length < sizeLine ∧ Pv (i + 1) (upd H5 D (.dK (putK kvs k z))) else Pv (i + 1) H3) (hd : ∀ H, Pv n H → Qd H) :
    ∃ W : Nat → Nat → Hp → Prop, (∃ m, W 0 m (upd H1 D (.dK []))) ∧ ∀ i m H, W i m H →
      (J.stop i H ∧ Qd H) ∨ (J.go i H ∧ ∃ Nx : Hp → Prop, (∀ H', Nx H' → ∃ m', m' < m ∧ W (i + 1) m' H') ∧ ∀ x H', J.yld i H x H' → g x (wipe σ vs) H' fun σ2 H2 => wipe σ2 vs = wipe σ vs ∧ tt σ2 H2 fun b H3 =>
        if b = true then tk σ2 H3 fun y H4 => tv σ2 H4 fun z H5 => ∃ kvs k, y = kV k ∧ H5 D = some (.dK kvs) ∧ kvs.length < sizeLine ∧ Nx (upd H5 D (.dK (putK kvs k z))) else Nx H3) := by
  refine ⟨fun i m H => m = n - i ∧ i ≤ n ∧ Pv i H, ⟨n, by simp, Nat.zero_le _, h0⟩, ?_⟩
  rintro i m H ⟨rfl, hi, p⟩
  have q := hG i H hi p
  by_cases hlt : i < n
  · refine .inr ⟨w.goes i H hlt q, Pv (i + 1), fun H' p' => ⟨n - (i + 1), by omega, rfl, hlt, p'⟩, fun x H' y => hs i x H H' hlt p (w.yields i H x H' hlt q y)⟩
  · have e : i = n := by omega
    subst e
    exact .inl ⟨w.stops H q, hd H p⟩
end Dk

set_option maxHeartbeats 4000000
/-! values and layouts -/
namespace Dk
open PySem PySem.Spec PyProof.Rows L2
def top (i : Nat) : Stmt := PySem.Challenge.pw_driftkept_k02_whole_memory_that_lasts.main.body.getD i (.Pass ⟨0, 0, 0, 0⟩)
abbrev sWhole : Stmt := top 5
abbrev sWithin : Stmt := top 6
abbrev sLInit : Stmt := inClass (top 12) 0
abbrev sEpoch : Stmt := inClass (top 12) 1
abbrev sESlot : Stmt := inClass (top 12) 2
abbrev sCSlot : Stmt := inClass (top 12) 3
abbrev sWord : Stmt := inClass (top 12) 4
abbrev sRecord : Stmt := inClass (top 12) 5
abbrev sCells : Stmt := inClass (top 12) 6
abbrev sIsCell : Stmt := inClass (top 12) 7
abbrev sIsLast : Stmt := inClass (top 12) 8
abbrev sHasT : Stmt := inClass (top 12) 10
/-- the type of a value that is no object -/
def vty : V → Option String
  | .non => some "NoneType"
  | .bl _ => some "bool"
  | .int _ => some "int"
  | .str _ => some "str"
  | _ => none
theorem ty_of {K : PySem.W.Frag} {H : Hp} : ∀ {v : V} {t : String}, vty v = some t → TyX K H v (.type t)
  | .non, _, h => by cases h; exact .base .non
  | .bl b, _, h => by cases h; exact .base (.bl b)
  | .int i, _, h => by cases h; exact .base (.int i)
  | .str x, _, h => by cases h; exact .base (.str x)
def isI : V → Bool
  | .int _ => true
  | _ => false
/-- an integer within lo .. hi -/
def inW (lo hi : Int) : V → Bool
  | .int i => decide (lo ≤ i) && decide (i ≤ hi)
  | _ => false
theorem inW_int {lo hi i : Int} : inW lo hi (.int i) = true ↔ lo ≤ i ∧ i ≤ hi := by
  show (decide (lo ≤ i) && decide (i ≤ hi)) = true ↔ _
  simp
/-- the built-in names as they are -/
structure Bn (mg : Str → Option Value) : Prop where
  isi : mg "isinstance" = none
  int : mg "int" = none
  bool : mg "bool" = none
  str : mg "str" = none
  tuple : mg "tuple" = none
  list : mg "list" = none
  range : mg "range" = none
  len : mg "len" = none
  abs : mg "abs" = none
def lf (t w r : Int) : List (Str × V) := [("threads", .int t), ("words", .int w), ("records", .int r)]
/-- a layout stands at a -/
def LayAt (C : Addr) (H : Hp) (a : Addr) (t w r : Int) : Prop := ∃ dx, H a = some (.ins C dx (lf t w r))
structure LTxt (K : PySem.W.Frag) (mg : Str → Option Value) (C : Addr) : Prop where
  bn : Bn mg
  cl : Cls K C
  nT : NoAttr K C "threads"
  nW : NoAttr K C "words"
  nR : NoAttr K C "records"
def spWhole : Sp := fun vs H Q _ => ∃ v t, vs = [v] ∧ vty v = some t ∧ Q (.bl (isI v)) H
def spWithin : Sp := fun vs H Q _ => ∃ v t lo hi, vs = [v, .int lo, .int hi] ∧ vty v = some t ∧ Q (.bl (inW lo hi v)) H
def spL0 (C : Addr) (g : Int → Int → Int → V) : Sp := fun vs H Q _ => ∃ a t w r, vs = [.ref a] ∧ LayAt C H a t w r ∧ Q (g t w r) H
def spL1 (C : Addr) (g : Int → Int → Int → Int → V) : Sp := fun vs H Q _ => ∃ a t w r i, vs = [.ref a, .int i] ∧ LayAt C H a t w r ∧ Q (g t w r i) H
def spLV (C : Addr) (g : Int → Int → Int → V → V) : Sp := fun vs H Q _ => ∃ a t w r v ty, vs = [.ref a, v] ∧ vty v = some ty ∧ LayAt C H a t w r ∧ Q (g t w r v) H
/-- the cells -/
def cells (t w r : Int) : Int := 1 + t + t + w + r
def first (t : Int) : Int := 1 + t
def rec0 (t w : Int) : Int := 1 + t + t + w
def geB (x : Int) : V → Bool
  | .int i => decide (x ≤ i)
  | _ => false
def lastB (t w r : Int) (v : V) : Bool := inW 0 (cells t w r - 1) v && geB (first t + 0) v
def recB (t w r : Int) (v : V) : Bool := inW 0 (cells t w r - 1) v && geB (rec0 t w + 0) v
section
variable {P : Program} {w : World} {K : PySem.W.Frag} {mg : Str → Option Value} {base : Heap} {C : Addr}
theorem scWhole : FnScope ["value"] ["value"] (defScope sWhole) := ⟨rfl, rfl, rfl, by decide +kernel, rfl, by decide +kernel, by decide +kernel⟩
theorem go_whole (F : GT K mg "is_whole" sWhole ["value"]) (T : Bn mg) : GO P w K mg base CX0 1 "is_whole" ["value"] spWhole := by
  obtain ⟨f, fd, F, hm, hb⟩ := F
  refine ⟨f, fd, ?_, hm, F.kp, hb⟩
  refine F.ok scWhole (fun vs H Q E h => ?_) (fun cdv A outer s H vs Q E hr h => ?_)
  · obtain ⟨v, t, rfl, _⟩ := h
    rfl
  · obtain ⟨v, t, rfl, ht, k⟩ := h
    refine ⟨_, pss_one (ps_ret (pe_and (pe_callB call_isi (by rfl) T.isi (by decide +kernel) (pa_cons (pv 0) (pa_cons (pe_bltn (v := .ty "int") (by rfl) T.int (by decide +kernel) rfl) pa_nil)))
      (pe_one (pe_not (pe_callB call_isi (by rfl) T.isi (by decide +kernel) (pa_cons (pv 0) (pa_cons (pe_bltn (v := .ty "bool") (by rfl) T.bool (by decide +kernel) rfl) pa_nil))))))), ?_⟩
    have ty := ty_of (K := K) (H := H) ht
    cases v <;> cases ht
    · exact ⟨_, rfl, _, _, _, _, false, rfl, .ty "int", ty, kit_ty (by decide +kernel), false, rfl, k⟩
    · refine ⟨_, rfl, _, _, _, _, true, rfl, .ty "int", ty, kit_ty (by decide +kernel), true, rfl, ?_⟩
      exact iteT ⟨_, rfl, _, _, _, _, true, rfl, .ty "bool", ty, kit_ty (by decide +kernel), true, rfl, k⟩
    · refine ⟨_, rfl, _, _, _, _, true, rfl, .ty "int", ty, kit_ty (by decide +kernel), true, rfl, ?_⟩
      exact iteT ⟨_, rfl, _, _, _, _, false, rfl, .ty "bool", ty, kit_ty (by decide +kernel), false, rfl, k⟩
    · exact ⟨_, rfl, _, _, _, _, false, rfl, .ty "int", ty, kit_ty (by decide +kernel), false, rfl, k⟩
theorem scWithin : FnScope ["value", "low", "high"] ["value", "low", "high"] (defScope sWithin) := ⟨rfl, rfl, rfl, by decide +kernel, rfl, by decide +kernel, by decide +kernel⟩
theorem go_within (F : GT K mg "is_within" sWithin ["value", "low", "high"]) (G : GO P w K mg base CX0 1 "is_whole" ["value"] spWhole) : GO P w K mg base CX0 2 "is_within" ["value", "low", "high"] spWithin := by
  obtain ⟨f, fd, F, hm, hb⟩ := F
  refine ⟨f, fd, ?_, hm, F.kp, hb⟩
  refine F.ok scWithin (fun vs H Q E h => ?_) (fun cdv A outer s H vs Q E hr h => ?_)
  · obtain ⟨v, t, lo, hi, rfl, _⟩ := h
    rfl
  · obtain ⟨v, t, lo, hi, rfl, ht, k⟩ := h
    refine ⟨_, pss_one (ps_ret (pe_and (pc_ G hr (pa_cons (pv 0) pa_nil)) (pe_one (pe_chain op_le op_le (pv 1) (pv 0) (pv 2))))), ?_⟩
    refine ⟨_, rfl, v, t, rfl, ht, _, rfl, ?_⟩
    cases v <;> cases ht
    · exact iteF k
    · exact iteF k
    · rename_i i
      refine iteT ⟨_, rfl, _, rfl, _, _, rfl, rfl, _, rfl, ?_⟩
      have e : inW lo hi (.int i) = (decide (lo ≤ i) && decide (i ≤ hi)) := rfl
      rw [e] at k
      cases h1 : decide (lo ≤ i) with
      | true =>
        rw [h1] at k
        exact iteT ⟨_, rfl, _, _, rfl, rfl, by simpa using k⟩
      | false =>
        rw [h1] at k
        exact iteF (by simpa using k)
    · exact iteF k
theorem scEpoch : FnScope ["self"] ["self"] (defScope sEpoch) := ⟨rfl, rfl, rfl, by decide +kernel, rfl, by decide +kernel, by decide +kernel⟩
theorem mo_epoch (F : MT K C "epoch" "Layout.epoch" sEpoch ["self"]) : MO P w K mg base CX0 C 1 "epoch" ["self"] (spL0 C fun _ _ _ => .int 0) := by
  obtain ⟨f, fd, F, hm, hb⟩ := F
  refine ⟨f, fd, ?_, hm, hb⟩
  refine F.ok scEpoch (fun vs H Q E h => ?_) (fun cdv A outer s H vs Q E hr h => ?_)
  · obtain ⟨a, t, w, r, rfl, _⟩ := h
    rfl
  · obtain ⟨a, t, w, r, rfl, _, k⟩ := h
    exact ⟨_, pss_one (ps_ret pe_int), k⟩
theorem scESlot : FnScope ["self", "thread"] ["self", "thread"] (defScope sESlot) := ⟨rfl, rfl, rfl, by decide +kernel, rfl, by decide +kernel, by decide +kernel⟩
theorem mo_eslot (F : MT K C "epoch_slot" "Layout.epoch_slot" sESlot ["self", "thread"]) : MO P w K mg base CX0 C 1 "epoch_slot" ["self", "thread"] (spL1 C fun _ _ _ i => .int (1 + i)) := by
  obtain ⟨f, fd, F, hm, hb⟩ := F
  refine ⟨f, fd, ?_, hm, hb⟩
  refine F.ok scESlot (fun vs H Q E h => ?_) (fun cdv A outer s H vs Q E hr h => ?_)
  · obtain ⟨a, t, w, r, i, rfl, _⟩ := h
    rfl
  · obtain ⟨a, t, w, r, i, rfl, _, k⟩ := h
    exact ⟨_, pss_one (ps_ret (pe_op op_add pe_int (pv 1))), _, rfl, _, _, rfl, rfl, k⟩
theorem scCSlot : FnScope ["self", "thread"] ["self", "thread"] (defScope sCSlot) := ⟨rfl, rfl, rfl, by decide +kernel, rfl, by decide +kernel, by decide +kernel⟩
theorem mo_cslot (F : MT K C "call_slot" "Layout.call_slot" sCSlot ["self", "thread"]) (T : LTxt K mg C) (G : MO P w K mg base CX0 C 1 "epoch_slot" ["self", "thread"] (spL1 C fun _ _ _ i => .int (1 + i))) :
    MO P w K mg base CX0 C 2 "call_slot" ["self", "thread"] (spL1 C fun t _ _ i => .int (first t + i)) := by
  obtain ⟨f, fd, F, hm, hb⟩ := F
  refine ⟨f, fd, ?_, hm, hb⟩
  refine F.ok scCSlot (fun vs H Q E h => ?_) (fun cdv A outer s H vs Q E hr h => ?_)
  · obtain ⟨a, t, w, r, i, rfl, _⟩ := h
    rfl
  · obtain ⟨a, t, w, r, i, rfl, L, k⟩ := h
    obtain ⟨dx, h1⟩ := id L
    refine ⟨_, pss_one (ps_ret (pe_op op_add (pm_ G T.cl hr (pv 0) (pa_cons (pe_fld (pv 0) rfl) pa_nil)) (pv 1))), ?_⟩
    exact ⟨_, rfl, a, dx, _, rfl, h1, rfl, _, rfl, a, C, dx, _, _, rfl, h1, T.cl, T.nT, rfl, a, t, w, r, t, rfl, L, _, rfl, _, _, rfl, rfl, k⟩
theorem scWord : FnScope ["self", "index"] ["self", "index"] (defScope sWord) := ⟨rfl, rfl, rfl, by decide +kernel, rfl, by decide +kernel, by decide +kernel⟩
theorem mo_word (F : MT K C "word" "Layout.word" sWord ["self", "index"]) (T : LTxt K mg C) (G : MO P w K mg base CX0 C 2 "call_slot" ["self", "thread"] (spL1 C fun t _ _ i => .int (first t + i))) :
    MO P w K mg base CX0 C 3 "word" ["self", "index"] (spL1 C fun t _ _ i => .int (first t + t + i)) := by
  obtain ⟨f, fd, F, hm, hb⟩ := F
  refine ⟨f, fd, ?_, hm, hb⟩
  refine F.ok scWord (fun vs H Q E h => ?_) (fun cdv A outer s H vs Q E hr h => ?_)
  · obtain ⟨a, t, w, r, i, rfl, _⟩ := h
    rfl
  · obtain ⟨a, t, w, r, i, rfl, L, k⟩ := h
    obtain ⟨dx, h1⟩ := id L
    refine ⟨_, pss_one (ps_ret (pe_op op_add (pm_ G T.cl hr (pv 0) (pa_cons (pe_fld (pv 0) rfl) pa_nil)) (pv 1))), ?_⟩
    exact ⟨_, rfl, a, dx, _, rfl, h1, rfl, _, rfl, a, C, dx, _, _, rfl, h1, T.cl, T.nT, rfl, a, t, w, r, t, rfl, L, _, rfl, _, _, rfl, rfl, k⟩
theorem scRecord : FnScope ["self", "index"] ["self", "index"] (defScope sRecord) := ⟨rfl, rfl, rfl, by decide +kernel, rfl, by decide +kernel, by decide +kernel⟩
theorem mo_record (F : MT K C "record" "Layout.record" sRecord ["self", "index"]) (T : LTxt K mg C) (G : MO P w K mg base CX0 C 3 "word" ["self", "index"] (spL1 C fun t _ _ i => .int (first t + t + i))) :
    MO P w K mg base CX0 C 4 "record" ["self", "index"] (spL1 C fun t w _ i => .int (rec0 t w + i)) := by
  obtain ⟨f, fd, F, hm, hb⟩ := F
  refine ⟨f, fd, ?_, hm, hb⟩
  refine F.ok scRecord (fun vs H Q E h => ?_) (fun cdv A outer s H vs Q E hr h => ?_)
  · obtain ⟨a, t, w, r, i, rfl, _⟩ := h
    rfl
  · obtain ⟨a, t, w, r, i, rfl, L, k⟩ := h
    obtain ⟨dx, h1⟩ := id L
    refine ⟨_, pss_one (ps_ret (pe_op op_add (pm_ G T.cl hr (pv 0) (pa_cons (pe_fld (pv 0) rfl) pa_nil)) (pv 1))), ?_⟩
    exact ⟨_, rfl, a, dx, _, rfl, h1, rfl, _, rfl, a, C, dx, _, _, rfl, h1, T.cl, T.nW, rfl, a, t, w, r, w, rfl, L, _, rfl, _, _, rfl, rfl, k⟩
theorem scCells : FnScope ["self"] ["self"] (defScope sCells) := ⟨rfl, rfl, rfl, by decide +kernel, rfl, by decide +kernel, by decide +kernel⟩
theorem mo_cells (F : MT K C "cells" "Layout.cells" sCells ["self"]) (T : LTxt K mg C) (G : MO P w K mg base CX0 C 4 "record" ["self", "index"] (spL1 C fun t w _ i => .int (rec0 t w + i))) :
    MO P w K mg base CX0 C 5 "cells" ["self"] (spL0 C fun t w r => .int (cells t w r)) := by
  obtain ⟨f, fd, F, hm, hb⟩ := F
  refine ⟨f, fd, ?_, hm, hb⟩
  refine F.ok scCells (fun vs H Q E h => ?_) (fun cdv A outer s H vs Q E hr h => ?_)
  · obtain ⟨a, t, w, r, rfl, _⟩ := h
    rfl
  · obtain ⟨a, t, w, r, rfl, L, k⟩ := h
    obtain ⟨dx, h1⟩ := id L
    refine ⟨_, pss_one (ps_ret (pm_ G T.cl hr (pv 0) (pa_cons (pe_fld (pv 0) rfl) pa_nil))), ?_⟩
    exact ⟨_, rfl, a, dx, _, rfl, h1, rfl, _, rfl, a, C, dx, _, _, rfl, h1, T.cl, T.nR, rfl, a, t, w, r, r, rfl, L, k⟩
theorem scIsCell : FnScope ["self", "cell"] ["self", "cell"] (defScope sIsCell) := ⟨rfl, rfl, rfl, by decide +kernel, rfl, by decide +kernel, by decide +kernel⟩
theorem mo_iscell (F : MT K C "is_cell" "Layout.is_cell" sIsCell ["self", "cell"]) (T : LTxt K mg C) (G : MO P w K mg base CX0 C 5 "cells" ["self"] (spL0 C fun t w r => .int (cells t w r)))
    (GW : GO P w K mg base CX0 2 "is_within" ["value", "low", "high"] spWithin) : MO P w K mg base CX0 C 6 "is_cell" ["self", "cell"] (spLV C fun t w r v => .bl (inW 0 (cells t w r - 1) v)) := by
  obtain ⟨f, fd, F, hm, hb⟩ := F
  refine ⟨f, fd, ?_, hm, hb⟩
  refine F.ok scIsCell (fun vs H Q E h => ?_) (fun cdv A outer s H vs Q E hr h => ?_)
  · obtain ⟨a, t, w, r, v, ty, rfl, _⟩ := h
    rfl
  · obtain ⟨a, t, w, r, v, ty, rfl, hv, L, k⟩ := h
    obtain ⟨dx, h1⟩ := id L
    refine ⟨_, pss_one (ps_ret (pc_ GW (hr.mono (by decide)) (pa_cons (pv 1) (pa_cons pe_int (pa_cons (pe_op op_sub (pm0_ G T.cl hr (pv 0)) pe_int) pa_nil))))), ?_⟩
    exact ⟨_, rfl, _, rfl, a, dx, _, rfl, h1, rfl, a, t, w, r, rfl, L, _, _, rfl, rfl, v, ty, _, _, rfl, hv, k⟩
theorem scIsLast : FnScope ["self", "cell"] ["self", "cell"] (defScope sIsLast) := ⟨rfl, rfl, rfl, by decide +kernel, rfl, by decide +kernel, by decide +kernel⟩
theorem mo_islast (F : MT K C "is_lasting" "Layout.is_lasting" sIsLast ["self", "cell"]) (T : LTxt K mg C) (G : MO P w K mg base CX0 C 6 "is_cell" ["self", "cell"] (spLV C fun t w r v => .bl (inW 0 (cells t w r - 1) v)))
    (GC : MO P w K mg base CX0 C 2 "call_slot" ["self", "thread"] (spL1 C fun t _ _ i => .int (first t + i))) : MO P w K mg base CX0 C 7 "is_lasting" ["self", "cell"] (spLV C fun t w r v => .bl (lastB t w r v)) := by
  obtain ⟨f, fd, F, hm, hb⟩ := F
  refine ⟨f, fd, ?_, hm, hb⟩
  refine F.ok scIsLast (fun vs H Q E h => ?_) (fun cdv A outer s H vs Q E hr h => ?_)
  · obtain ⟨a, t, w, r, v, ty, rfl, _⟩ := h
    rfl
  · obtain ⟨a, t, w, r, v, ty, rfl, hv, L, k⟩ := h
    obtain ⟨dx, h1⟩ := id L
    refine ⟨_, pss_one (ps_ret (pe_and (pm_ G T.cl hr (pv 0) (pa_cons (pv 1) pa_nil)) (pe_one (pe_cmpR op_ge (pv 1) (pm_ GC T.cl (hr.mono (by decide)) (pv 0) (pa_cons pe_int pa_nil)) (nomark _))))), ?_⟩
    refine ⟨_, rfl, a, dx, _, rfl, h1, rfl, _, rfl, a, t, w, r, v, ty, rfl, hv, L, _, rfl, ?_⟩
    simp only [lastB] at k
    cases v <;> cases hv
    · exact iteF k
    · exact iteF k
    · rename_i i
      cases h2 : inW 0 (cells t w r - 1) (.int i) with
      | true =>
        rw [h2] at k
        exact iteT ⟨_, rfl, _, rfl, a, dx, _, rfl, h1, rfl, a, t, w, r, _, rfl, L, _, _, rfl, rfl, (by rw [Bool.true_and] at k; exact k)⟩
      | false =>
        rw [h2] at k
        exact iteF (by rw [Bool.false_and] at k; exact k)
    · exact iteF k
end
end Dk

set_option maxHeartbeats 4000000
/-! the refusals; a layout is made -/
namespace Dk
open PySem PySem.Spec PyProof.Rows L2
abbrev sPass : Stmt := top 14
abbrev bmVE : List Value := [.type "ValueError", .type "Exception", .type "BaseException", .type "object"]
/-- what the top has written of the refusals: NotValid at NV, LineError at LE -/
structure XTxt (K : PySem.W.Frag) (mg : Str → Option Value) (NV LE : Addr) : Prop where
  gN : mg "NotValid" = some (.ref NV)
  gL : mg "LineError" = some (.ref LE)
  xN : PySem.W.excIn K NV bmVE "ValueError.__new__" = true
  kN : PySem.W.keepIn K (.ref NV) = true
  sN : PySem.W.subIn K (.ref NV) (.type "BaseException") = some true
  tN : PySem.W.typeIn K (.ref NV) = some (.type "type")
  eN : PySem.W.exmOne K (.ref NV) (.ref LE) = some true
  eC : ExcC K NV
  kit : PySem.W.kitOne K (.ref NV) (.ref NV) = some true
def lok (t w r : Int) : Bool := inW 1 3 (.int t) && (inW 1 4 (.int w) && inW 4 200 (.int r))
structure LOk (t w r : Int) : Prop where
  t1 : 1 ≤ t
  t3 : t ≤ 3
  w1 : 1 ≤ w
  w4 : w ≤ 4
  r4 : 4 ≤ r
  r200 : r ≤ 200
theorem lok_iff {t w r : Int} : lok t w r = true ↔ LOk t w r := by
  unfold lok
  rw [Bool.and_eq_true, Bool.and_eq_true, inW_int, inW_int, inW_int]
  exact ⟨fun ⟨⟨a, b⟩, ⟨c, d⟩, e, f⟩ => ⟨a, b, c, d, e, f⟩, fun ⟨a, b, c, d, e, f⟩ => ⟨⟨a, b⟩, ⟨c, d⟩, e, f⟩⟩
def spLInit (C NV : Addr) : Sp := fun vs H Q E => ∃ p dx t w r, vs = [.ref p, .int t, .int w, .int r] ∧ H p = some (.ins C dx []) ∧
  (lok t w r = true → ∀ H', LayAt C H' p t w r → (∀ b o, H b = some o → b ≠ p → H' b = some o) → Q .non H') ∧ (lok t w r = false → E (.ref NV) none H)
def spTold (C : Addr) : Sp := fun vs H Q _ => ∃ t w r, vs = [.int t, .int w, .int r] ∧
  (lok t w r = true → ∀ p H', H p = none → LayAt C H' p t w r → Same H H' → Q (.ref p) H') ∧ (lok t w r = false → ∀ p H', H' p = some (.lst [.bl true]) → Same H H' → Q (.ref p) H')
def rIsE' (K : PySem.W.Frag) (D a : Addr) (cls : Value) (d : Option Addr) : List V → Hp → VK → Prop := fun xs H Q => cls = .ref D ∧ d = none ∧ rIsE K D a xs H Q
theorem call_isE' {X : Cx} {a D : Addr} {oe : Obj} {cls : Value} {d : Option Addr} {pn : List (Addr × Obj)} (C : ExcC X.K D) (hz : Zc cls d oe) (hf : ∃ vs, oe.data = .fields vs) :
    CallR (X.suite a ((a, oe) :: pn)) (.builtin "isinstance") (rIsE' X.K D a cls d) := by
  intro pins s σ H xs us Q I r h
  obtain ⟨rfl, rfl, h⟩ := h
  exact call_isE C hz hf pins s σ H xs us Q I r h
section
variable {P : Program} {w : World} {K : PySem.W.Frag} {mg : Str → Option Value} {base : Heap} {C NV LE : Addr}
theorem scLInit : FnScope ["self", "threads", "words", "records"] ["self", "threads", "words", "records"] (defScope sLInit) := ⟨rfl, rfl, rfl, by decide +kernel, rfl, by decide +kernel, by decide +kernel⟩
theorem ok_linit {f : Addr} {fd : FuncData} (F : Fun K "__init__" "Layout.__init__" sLInit f fd) (T : LTxt K mg C) (X0 : XTxt K mg NV LE) (G : GO P w K mg base CX0 2 "is_within" ["value", "low", "high"] spWithin) :
    FnOk P w K mg base (L2.CX P w) 3 f fd ["self", "threads", "words", "records"] (spLInit C NV) := by
  refine F.okX scLInit (fun vs H Q E h => ?_) (fun cdv A outer s H vs Q E hr h => ?_)
  · obtain ⟨p, dx, t, w, r, rfl, _⟩ := h
    rfl
  · obtain ⟨p, dx, t, w, r, rfl, hp, k1, k2⟩ := h
    refine ⟨_, pss_cons (ps_if (pt_not (PW.pt (pw_and (pt_val (pc_ G hr (pa_cons (pv 1) (pa_cons pe_int (pa_cons pe_int pa_nil))))) (pw_and (pt_val (pc_ G hr (pa_cons (pv 2) (pa_cons pe_int (pa_cons pe_int pa_nil)))))
        (pw_and1 (pt_val (pc_ G hr (pa_cons (pv 3) (pa_cons pe_int (pa_cons pe_int pa_nil))))))))))
        (pss_one (ps_raise rfl (takes_of rfl rfl rfl rfl) (pmk_own0 PySem.F.excBase_ValueError X0.xN X0.gN X0.kN (raises_own X0.sN X0.tN) rfl))) pss_nil)
      (pss_cons (ps_fld (pv 0) (pv 1) rfl) (pss_cons (ps_fld (pv 0) (pv 2) rfl) (pss_one (ps_fld (pv 0) (pv 3) rfl)))), ?_⟩
    have fin : lok t w r = true → tSeq (sFld K (tVar 0) (tVar 1) "threads") (tSeq (sFld K (tVar 0) (tVar 2) "words") (sFld K (tVar 0) (tVar 3) "records")) { nx := fun _ H' => Q .non H', rt := Q } (L2.start ["self", "threads", "words", "records"] [.ref p, .int t, .int w, .int r]) H := fun q => by
      refine ⟨_, rfl, _, rfl, p, C, dx, [], rfl, hp, T.cl, T.nT, (by show 0 < 1000; decide), _, rfl, _, rfl, p, C, dx, _, rfl, upd_same, T.cl, T.nW, (by show 1 < 1000; decide), _, rfl, _, rfl, p, C, dx, _, rfl, upd_same, T.cl, T.nR, (by show 2 < 1000; decide), ?_⟩
      exact k1 q _ ⟨dx, upd_same⟩ fun b o e hb => by rw [upd_ne hb, upd_ne hb, upd_ne hb]; exact e
    refine ⟨_, rfl, _, _, _, _, rfl, rfl, _, rfl, ?_⟩
    cases h1 : inW 1 3 (V.int t) with
    | false => exact iteF (iteT (k2 (by unfold lok; rw [h1]; rfl)))
    | true =>
      refine iteT ⟨_, rfl, _, _, _, _, rfl, rfl, _, rfl, ?_⟩
      cases h2 : inW 1 4 (V.int w) with
      | false => exact iteF (iteT (k2 (by unfold lok; rw [h1, h2]; rfl)))
      | true =>
        refine iteT ⟨_, rfl, _, _, _, _, rfl, rfl, _, rfl, ?_⟩
        cases h3 : inW 4 200 (V.int r) with
        | false => exact (iteT (k2 (by unfold lok; rw [h1, h2, h3]; rfl)))
        | true => exact (iteF (fin (by unfold lok; rw [h1, h2, h3]; rfl)))
/-- passing_values -/
def spPass (C : Addr) : Sp := fun vs H Q _ => ∃ a t w r, vs = [.ref a] ∧ LayAt C H a t w r ∧ LOk t w r ∧ ∀ p H', H p = none → H' p = some (.lst (.int 0 :: List.replicate t.toNat .non)) → Same H H' → Q (.ref p) H'
theorem flat1 : ∀ n : Nat, (List.replicate n [V.non]).flatten = List.replicate n V.non
  | 0 => rfl
  | n + 1 => by
    rw [List.replicate_succ, List.flatten_cons, flat1 n]
    rfl
theorem scPass : FnScope ["layout"] ["layout"] (defScope sPass) := ⟨rfl, rfl, rfl, by decide +kernel, rfl, by decide +kernel, by decide +kernel⟩
theorem go_pass (F : GT K mg "passing_values" sPass ["layout"]) (T : LTxt K mg C) : GO P w K mg base CX0 1 "passing_values" ["layout"] (spPass C) := by
  obtain ⟨f, fd, F, hm, hb⟩ := F
  refine ⟨f, fd, ?_, hm, F.kp, hb⟩
  refine F.ok scPass (fun vs H Q E h => ?_) (fun cdv A outer s H vs Q E hr h => ?_)
  · obtain ⟨a, t, w, r, rfl, _⟩ := h
    rfl
  · obtain ⟨a, t, w, r, rfl, ⟨dx, h1⟩, ok, k⟩ := h
    have q1 := ok.t1
    have q3 := ok.t3
    refine ⟨_, pss_one (ps_ret (pe_op op_cat (pe_lst (pa_cons pe_int pa_nil)) (pe_op op_rep (pe_lst (pa_cons pe_non pa_nil)) (pe_fld (pv 0) rfl)))), ?_⟩
    refine ⟨(by show 1 ≤ sizeLine; decide), fun p1 n1 => ⟨(by show 1 ≤ sizeLine; decide), fun p2 n2 => ?_⟩⟩
    have a1 : a ≠ p1 := ne_of_none h1 n1
    have e1 : upd H p1 (HO.lst [V.int 0]) a = some (.ins C dx (lf t w r)) := by rw [upd_ne a1]; exact h1
    have a2 : a ≠ p2 := ne_of_none e1 n2
    have p12 : p1 ≠ p2 := ne_of_none (upd_same (H := H) (a := p1) (o := HO.lst [V.int 0])) n2
    have hs : [V.non].length * t.toNat ≤ sizeLine := by
      have : sizeLine = 16777216 := sizeLine_eq
      simp only [List.length_singleton]
      omega
    refine ⟨_, rfl, a, C, dx, _, _, rfl, (by rw [upd_ne a2]; exact e1), T.cl, T.nT, rfl, _, _, _, rfl, rfl, upd_same, (by omega), (by omega), hs, fun p3 n3 => ?_⟩
    have p13 : p1 ≠ p3 := ne_of_none (by rw [upd_ne p12]; exact upd_same) n3
    refine ⟨p1, p3, _, _, rfl, rfl, (by rw [upd_ne p13, upd_ne p12]; exact upd_same), upd_same, ?_, fun p4 n4 => ?_⟩
    · rw [flat1, List.length_replicate]
      have : sizeLine = 16777216 := sizeLine_eq
      simp only [List.length_singleton]
      omega
    · have sm : Same H (upd (upd (upd H p1 (HO.lst [V.int 0])) p2 (HO.lst [V.non])) p3 (HO.lst (List.replicate t.toNat [V.non]).flatten)) := fun b o e => by
        have b1 := ne_of_none e n1
        have e' : upd H p1 (HO.lst [V.int 0]) b = some o := by rw [upd_ne b1]; exact e
        have b2 := ne_of_none e' n2
        have e'' : upd (upd H p1 (HO.lst [V.int 0])) p2 (HO.lst [V.non]) b = some o := by rw [upd_ne b2]; exact e'
        rw [upd_ne (ne_of_none e'' n3)]
        exact e''
      refine k p4 _ (sm.free n4) (by rw [upd_same, flat1]; rfl) fun b o e => ?_
      rw [upd_ne (ne_of_none (sm b o e) n4)]
      exact sm b o e
end
end Dk

set_option maxHeartbeats 4000000
/-! dicts over cells; the rule of a name = {k: v for ..} -/
namespace Dk
open PySem PySem.Spec PyProof.Rows L2
section
variable {X : Cx}
theorem ps_setDc {i : Nat} {y : Str} {py : Pos} {kx vx tg iter : Expr} {ifs : List Expr} {scope : Scope} {own : List (Str × Nat)} {pos spos : Pos} {wi : TI} {g : TG} {tt : TT} {tk tv : TE} (hc : X.calm = true) (hN : X.N.Nodup) (hy : X.N[i]? = some y) (hyl : X.env.scope.names.lookup y = some .local)
    (hsw : swapsWith (.DictComp kx vx [⟨tg, iter, ifs, 0⟩] scope pos) (some (.Name y py)) spos.line X.env = pure true) (hi : PI X tg iter wi) (ok : BlkOk X.N X.env.scope scope own)
    (hg : ∀ (s : Shared) (H : Hp) (C : Addr) (cl : List (Str × Addr)) (fp : List Addr), PG (X.blk s H scope (compEnvC scope cl C X.env) fp) tg g) (ht : ∀ (s : Shared) (H : Hp) (C : Addr) (cl : List (Str × Addr)) (fp : List Addr), PTs (X.blk s H scope (compEnvC scope cl C X.env) fp) ifs tt)
    (hk : ∀ (s : Shared) (H : Hp) (C : Addr) (cl : List (Str × Addr)) (fp : List Addr), PE (X.blk s H scope (compEnvC scope cl C X.env) fp) kx tk)
    (he : ∀ (s : Shared) (H : Hp) (C : Addr) (cl : List (Str × Addr)) (fp : List Addr), PE (X.blk s H scope (compEnvC scope cl C X.env) fp) vx tv) (hs : ∀ x, foldedSetIterable iter X.env x = pure x := by intro _; rfl) :
    PS X (.Assign [.Name y py] (.DictComp kx vx [⟨tg, iter, ifs, 0⟩] scope pos) spos) (tAsg (tDc wi g tt tk tv (own.map (·.2))) (gName i)) := by
  refine ⟨fun pins s σ H D I h => ?_⟩
  rw [exec_Assign_Name_used _ _ _ _ hsw]
  refine wpAny_bind (wpAny_standAt (wpAny_bind ?_))
  show wpAny _ X.A (do let _ ← comprehension (.DictComp kx vx [⟨tg, iter, ifs, 0⟩] scope pos) scope X.env (firstIterPos [⟨tg, iter, ifs, 0⟩] pos) newDict false (eval iter X.env) (some (assign (.Name y py) X.env))) _ _ s
  have h : tDc wi g tt tk tv (own.map (·.2)) σ H (fun x H1 => gName i x σ H1 D.nx) := h
  refine wpAny_bind (thn (dc_core (Qf := fun _ s' => SP X pins D .next s') hc hN I hi ok hg ht hk he hs h fun L C s' m H' I' q hn f => ?_) fun _ s' hq => wpAny_pure (wpAny_pure hq))
  show wpAny _ _ (assign (.Name y py) X.env (.ref L)) _ _ _
  refine wpAny_assign_Name (store_ok2 (v := V.ref L) I' hN hy (.inl hyl) rfl (fun s2 I2 ⟨a, sb, ha⟩ => ?_) (.inr hyl))
  obtain ⟨f0, f1, f2, f3, f4, f5⟩ := f
  have haC : C ≠ a := by
    rcases ha with z | z
    · rw [z]; exact f1
    · exact fun e => f4 y a z e.symm
  refine ⟨m, hn.sameBut sb haC, fun h3 sb3 => ?_⟩
  exact ⟨_, H', I2.turned (t' := s2.toks) (fun b o hb e => (sb3.2 b hb).trans e) f0 f1 f3 f4 f5, q⟩
theorem sw_trueD {kx vx : Expr} {gs : List Comprehension} {scope : Scope} {pos py : Pos} {y : Str} {l : Nat} {env : Env} (hk : env.scope.kind = .function) (hy : env.scope.names.lookup y = some .local) (hl : (py.line == pos.line) = true)
    (ha : (scope.names.any fun (n, k) => n == y && (k == .local || k == .cell)) = false) : swapsWith (.DictComp kx vx gs scope pos) (some (.Name y py)) l env = pure true := by
  have ky : env.kindOf y = some .local := hy
  have hb : env.blockKind = .function := by unfold Env.blockKind; rw [hk]; rfl
  unfold swapsWith
  simp only [hb, ky, ha, Expr.pos, hl]
  rfl
end
/-! ### a dict whose keys are f, f + 1, .. -/
def kv (f : Int) (n : Nat) (g : Nat → V) : List (Key × V) := (List.range n).map fun (j : Nat) => ((Sum.inl (f + (j : Int)) : Key), g j)
def setf (g : Nat → V) (j : Nat) (v : V) : Nat → V := fun i => if i = j then v else g i
theorem kv_len (f : Int) (n : Nat) (g : Nat → V) : (kv f n g).length = n := by unfold kv; rw [List.length_map, List.length_range]
theorem kv_congr {f : Int} {n : Nat} {g h : Nat → V} (e : ∀ j, j < n → g j = h j) : kv f n g = kv f n h := by
  unfold kv
  exact List.map_congr_left fun (j : Nat) hj => by rw [e j (List.mem_range.mp hj)]
theorem kv_succ (f : Int) (n : Nat) (g : Nat → V) : kv f (n + 1) g = kv f n g ++ [((Sum.inl (f + (n : Int)) : Key), g n)] := by
  unfold kv
  rw [List.range_succ, List.map_append]
  rfl
theorem kv_no (f : Int) (g : Nat → V) (i : Int) : ∀ n : Nat, (∀ j : Nat, j < n → f + (j : Int) ≠ i) → valV (kv f n g) (Sum.inl i : Key) = none
  | 0, _ => rfl
  | n + 1, h => by
    have ih := kv_no f g i n fun j hj => h j (by omega)
    rw [kv_succ, valV_snoc _ _ _ _ (kv_no f g (f + (n : Int)) n fun j hj e => by omega), if_neg (fun e => h n (by omega) (Sum.inl.inj e).symm)]
    exact ih
theorem kv_val (f : Int) (g : Nat → V) (j : Nat) : ∀ n : Nat, j < n → valV (kv f n g) (Sum.inl (f + (j : Int)) : Key) = some (g j)
  | 0, h => by omega
  | n + 1, h => by
    rw [kv_succ, valV_snoc _ _ _ _ (kv_no f g (f + (n : Int)) n fun j hj e => by omega)]
    by_cases e : j = n
    · subst e
      rw [if_pos rfl]
    · rw [if_neg (fun q => e (by have := Sum.inl.inj q; omega))]
      exact kv_val f g j n (by omega)
theorem kv_new (f : Int) (n : Nat) (g : Nat → V) (v : V) : putK (kv f n g) (Sum.inl (f + (n : Int)) : Key) v = kv f (n + 1) (setf g n v) := by
  rw [putK_new v (kv_no f g (f + (n : Int)) n fun j hj e => by omega), kv_succ]
  rw [kv_congr (h := setf g n v) (n := n) (fun j hj => by unfold setf; rw [if_neg (by omega)])]
  unfold setf
  rw [if_pos rfl]
theorem kv_put (f : Int) (n : Nat) (g : Nat → V) (j : Nat) (v : V) (hj : j < n) : putK (kv f n g) (Sum.inl (f + (j : Int)) : Key) v = kv f n (setf g j v) := by
  unfold putK
  rw [valV_any, kv_val f g j n hj, if_pos (by rfl)]
  unfold kv
  rw [List.map_map]
  refine List.map_congr_left fun i hi => ?_
  show (if (Sum.inl (f + (i : Int)) : Key) = Sum.inl (f + (j : Int)) then _ else _) = _
  by_cases e : i = j
  · subst e
    rw [if_pos rfl]
    unfold setf
    rw [if_pos rfl]
  · rw [if_neg (fun q => e (by have := Sum.inl.inj q; omega))]
    unfold setf
    rw [if_neg e]
theorem kv_at {f : Int} {n : Nat} {g : Nat → V} {i : Nat} {k : Key} {v : V} (h : (kv f n g)[i]? = some (k, v)) : i < n ∧ k = Sum.inl (f + (i : Int)) ∧ v = g i := by
  unfold kv at h
  rw [List.getElem?_map] at h
  cases e : (List.range n)[i]? with
  | none => rw [e] at h; cases h
  | some j =>
    rw [e] at h
    have hi : i < n := by
      have := (List.getElem?_eq_some_iff.mp e).1
      rwa [List.length_range] at this
    rw [List.getElem?_range hi] at e
    have ej : i = j := Option.some.inj e
    subst ej
    have := Option.some.inj h
    exact ⟨hi, (congrArg Prod.fst this).symm, (congrArg Prod.snd this).symm⟩
end Dk

set_option maxHeartbeats 4000000
/-! the trails and the notes of a new memory -/
namespace Dk
open PySem PySem.Spec PyProof.Rows L2
abbrev sTrails : Stmt := top 15
abbrev sNotes : Stmt := top 16
/-- the value of the j-th lasting cell, behind k words; the empty record is at E0 -/
def Init (E0 : Addr) (t w r : Nat) (k j : Nat) (v : V) : Prop :=
  if t ≤ j ∧ j < t + k then v = .int ((1 + t + j + w : Nat) : Int)
  else if t + w ≤ j ∧ j < t + w + k then v = .ref E0
  else v = .non
def seta (tl : Nat → Addr) (i : Nat) (p : Addr) : Nat → Addr := fun j => if j = i then p else tl j
theorem seta_same {tl : Nat → Addr} {i : Nat} {p : Addr} : seta tl i p i = p := if_pos rfl
theorem seta_ne {tl : Nat → Addr} {i j : Nat} {p : Addr} (h : j ≠ i) : seta tl i p j = tl j := if_neg h
theorem setf_same {g : Nat → V} {i : Nat} {v : V} : setf g i v i = v := if_pos rfl
theorem setf_ne {g : Nat → V} {i j : Nat} {v : V} (h : j ≠ i) : setf g i v j = g j := if_neg h
def sett (tr : Nat → List V) (i : Nat) (l : List V) : Nat → List V := fun j => if j = i then l else tr j
theorem sett_same {tr : Nat → List V} {i : Nat} {l : List V} : sett tr i l i = l := if_pos rfl
theorem sett_ne {tr : Nat → List V} {i j : Nat} {l : List V} (h : j ≠ i) : sett tr i l j = tr j := if_neg h
theorem setf_ref (tl : Nat → Addr) (i : Nat) (p : Addr) : setf (fun j => .ref (tl j)) i (.ref p) = fun j => .ref (seta tl i p j) := by
  funext j
  unfold setf seta
  by_cases c : j = i
  · rw [if_pos c, if_pos c]
  · rw [if_neg c, if_neg c]
/-- the dict of the trails at D: the key f + j has the list at tl j, which holds tr j -/
structure TrG (H : Hp) (D : Addr) (f : Int) (n : Nat) (tl : Nat → Addr) (tr : Nat → List V) : Prop where
  d : H D = some (.dK (kv f n fun j => .ref (tl j)))
  l : ∀ j, j < n → H (tl j) = some (.lst (tr j))
  inj : ∀ i j, i < n → j < n → tl i = tl j → i = j
theorem TrG.same {H H' : Hp} {D : Addr} {f : Int} {n : Nat} {tl : Nat → Addr} {tr : Nat → List V} (R : TrG H D f n tl tr) (s : Same H H') : TrG H' D f n tl tr := ⟨s _ _ R.d, fun j hj => s _ _ (R.l j hj), R.inj⟩
/-- a new list p is put in the place of the i-th -/
theorem TrG.put {H H1 : Hp} {D p : Addr} {f : Int} {n i : Nat} {tl : Nat → Addr} {tr : Nat → List V} {l : List V} (R : TrG H D f n tl tr) (s : Same H H1) (hp : H p = none) (h1 : H1 p = some (.lst l)) (hi : i < n) :
    TrG (upd H1 D (.dK (putK (kv f n fun j => .ref (tl j)) (Sum.inl (f + (i : Int)) : Key) (.ref p)))) D f n (seta tl i p) (sett tr i l) := by
  have nD : p ≠ D := (ne_of_none R.d hp).symm
  refine ⟨?_, fun j hj => ?_, fun j l hj hl e => ?_⟩
  · rw [upd_same, kv_put _ _ _ _ _ hi, setf_ref]
  · by_cases c : j = i
    · rw [c, seta_same, sett_same, upd_ne nD]
      exact h1
    · rw [seta_ne c, sett_ne c]
      have e1 := s _ _ (R.l j hj)
      rw [upd_ne (ne_of (s _ _ (R.l j hj)) (s _ _ R.d) (by intro z; cases z))]
      exact e1
  · have np : ∀ j, j < n → tl j ≠ p := fun j hj => ne_of_none (R.l j hj) hp
    by_cases c : j = i
    · by_cases c2 : l = i
      · omega
      · rw [c, seta_same, seta_ne c2] at e
        exact absurd e.symm (np l hl)
    · by_cases c2 : l = i
      · rw [seta_ne c, c2, seta_same] at e
        exact absurd e (np j hj)
      · rw [seta_ne c, seta_ne c2] at e
        exact R.inj j l hj hl e
/-- a new list p comes for the key behind the last -/
theorem TrG.snoc {H H1 : Hp} {D p : Addr} {f : Int} {n : Nat} {tl : Nat → Addr} {tr : Nat → List V} {l : List V} (R : TrG H D f n tl tr) (s : Same H H1) (hp : H p = none) (h1 : H1 p = some (.lst l)) :
    TrG (upd H1 D (.dK (putK (kv f n fun j => .ref (tl j)) (Sum.inl (f + (n : Int)) : Key) (.ref p)))) D f (n + 1) (seta tl n p) (sett tr n l) := by
  have nD : p ≠ D := (ne_of_none R.d hp).symm
  refine ⟨?_, fun j hj => ?_, fun j l hj hl e => ?_⟩
  · rw [upd_same, kv_new, setf_ref]
  · by_cases c : j = n
    · rw [c, seta_same, sett_same, upd_ne nD]
      exact h1
    · rw [seta_ne c, sett_ne c]
      have e1 := s _ _ (R.l j (by omega))
      rw [upd_ne (ne_of e1 (s _ _ R.d) (by intro z; cases z))]
      exact e1
  · have np : ∀ j, j < n → tl j ≠ p := fun j hj => ne_of_none (R.l j hj) hp
    by_cases c : j = n
    · by_cases c2 : l = n
      · omega
      · rw [c, seta_same, seta_ne c2] at e
        exact absurd e.symm (np l (by omega))
    · by_cases c2 : l = n
      · rw [seta_ne c, c2, seta_same] at e
        exact absurd e (np j (by omega))
      · rw [seta_ne c, seta_ne c2] at e
        exact R.inj j l (by omega) (by omega) e
/-- the trails of a new memory behind k words -/
structure TrAt (E0 : Addr) (H : Hp) (D : Addr) (t w r : Nat) (tl : Nat → Addr) (tr : Nat → List V) (k : Nat) (H0 : Hp) : Prop where
  g : TrG H D ((1 + t : Nat) : Int) (t + w + r) tl tr
  ini : ∀ j, j < t + w + r → ∃ v, tr j = [v] ∧ Init E0 t w r k j v
  new : ∀ j, j < t + w + r → H0 (tl j) = none
  nD : H0 D = none
structure NOk (t w r : Nat) : Prop where
  t1 : 1 ≤ t
  t3 : t ≤ 3
  w1 : 1 ≤ w
  w4 : w ≤ 4
  r4 : 4 ≤ r
  r200 : r ≤ 200
theorem NOk.lok {t w r : Nat} (h : NOk t w r) : LOk (t : Int) w r := ⟨by have := h.t1; omega, by have := h.t3; omega, by have := h.w1; omega, by have := h.w4; omega, by have := h.r4; omega, by have := h.r200; omega⟩
theorem first_n (t : Nat) : first (t : Int) + 0 = ((1 + t : Nat) : Int) := by unfold first; omega
theorem cells_n (t w r : Nat) : cells (t : Int) w r = ((1 + t + (t + w + r) : Nat) : Int) := by unfold cells; omega
def spTrails (C E0 : Addr) : Sp := fun vs H Q _ => ∃ (a : Addr) (t w r : Nat), vs = [.ref a] ∧ LayAt C H a t w r ∧ NOk t w r ∧
  ∀ (D : Addr) (tl : Nat → Addr) (tr : Nat → List V) (H' : Hp), TrAt E0 H' D t w r tl tr w H → Same H H' → Q (.ref D) H'
def spNotes (C : Addr) : Sp := fun vs H Q _ => ∃ (a : Addr) (t w r : Nat), vs = [.ref a] ∧ LayAt C H a t w r ∧ NOk t w r ∧
  ∀ (D : Addr) (na : List Addr) (H' : Hp), H' D = some (.lst (na.map V.ref)) → na.length = t → na.Nodup → (∀ a, a ∈ na → H' a = some (.dK []) ∧ H a = none) → H D = none → Same H H' → Q (.ref D) H'
section
variable {P : Program} {w : World} {K : PySem.W.Frag} {mg : Str → Option Value} {base : Heap} {C E0 : Addr}
theorem scTrails : FnScope ["layout", "trails", "index", "cell"] ["layout"] (defScope sTrails) := ⟨rfl, rfl, rfl, by decide +kernel, rfl, by decide +kernel, by decide +kernel⟩
theorem go_trails (F : GT K mg "first_trails" sTrails ["layout"]) (T : LTxt K mg C) (gEm : mg "EMPTY" = some (.ref E0)) (GS : MO P w K mg base CX0 C 2 "call_slot" ["self", "thread"] (spL1 C fun t _ _ i => .int (first t + i)))
    (GW : MO P w K mg base CX0 C 3 "word" ["self", "index"] (spL1 C fun t _ _ i => .int (first t + t + i))) (GR : MO P w K mg base CX0 C 4 "record" ["self", "index"] (spL1 C fun t w _ i => .int (rec0 t w + i)))
    (GC : MO P w K mg base CX0 C 5 "cells" ["self"] (spL0 C fun t w r => .int (cells t w r))) : GO P w K mg base CX0 6 "first_trails" ["layout"] (spTrails C E0) := by
  obtain ⟨f, fd, F, hm, hb⟩ := F
  refine ⟨f, fd, ?_, hm, F.kp, hb⟩
  refine F.ok scTrails (fun vs H Q E h => ?_) (fun cdv A outer s H vs Q E hr h => ?_)
  · obtain ⟨a, t, w, r, rfl, _⟩ := h
    rfl
  · obtain ⟨a, t, w, r, rfl, L, ok, k⟩ := h
    obtain ⟨dx, h1⟩ := id L
    have hu := hu_of hr
    have hr2 : Room 2 _ := hr.mono (by decide)
    have hr3 : Room 3 _ := hr.mono (by decide)
    have hr4 : Room 4 _ := hr.mono (by decide)
    refine ⟨_, pss_cons (ps_setDc (i := 1) (own := [("cell", 3)]) (g := gName 3) (tt := tYes) rfl scTrails.nd rfl rfl (sw_trueD rfl rfl rfl (by decide +kernel))
        (pi_range2 rfl T.bn.range (pa_cons (pm_ GS T.cl hr2 (pv 0) (pa_cons pe_int pa_nil)) (pa_cons (pm0_ GC T.cl hr (pv 0)) pa_nil)))
        (blkOk_by (N := ["layout", "trails", "index", "cell"]) (sc := defScope sTrails) (by decide +kernel)) (fun _ _ _ _ _ => pg_name (i := 3) scTrails.nd rfl (Or.inl rfl)) (fun _ _ _ _ _ => pts_nil) (fun _ _ _ _ _ => pv 3) (fun _ _ _ _ _ => pe_lst (pa_cons pe_non pa_nil)))
      (pss_cons (ps_for PassesOwn.never rfl (pi_range1 rfl T.bn.range (pa_cons (pe_fld (pv 0) rfl) pa_nil)) (pg_name (i := 2) scTrails.nd rfl (Or.inl rfl))
        (pss_cons (ps_dput hu (pv 1) (pm_ GW T.cl hr3 (pv 0) (pa_cons (pv 2) pa_nil)) (pe_lst (pa_cons (pm_ GR T.cl hr4 (pv 0) (pa_cons (pv 2) pa_nil)) pa_nil)) rfl)
        (pss_one (ps_dput hu (pv 1) (pm_ GR T.cl hr4 (pv 0) (pa_cons (pv 2) pa_nil)) (pe_lst (pa_cons (pe_glob (v := .ref E0) rfl gEm rfl) pa_nil)) rfl))))
      (pss_one (ps_ret (pv 1)))), ?_⟩
    have hsl : sizeLine = 16777216 := sizeLine_eq
    have q1 := ok.t1
    have q2 := ok.t3
    have q3 := ok.w1
    have q4 := ok.w4
    have q5 := ok.r4
    have q6 := ok.r200
    have hf := first_n t
    have hc := cells_n t w r
    refine ⟨_, rfl, a, dx, _, rfl, h1, rfl, a, t, w, r, 0, rfl, L, _, rfl, a, dx, _, rfl, h1, rfl, a, t, w, r, rfl, L, _, _, rfl, ⟨by omega, by omega, by omega, by omega⟩, fun D hD => ?_⟩
    rw [hf, hc]
    have en : (((1 + t + (t + w + r) : Nat) : Int) - ((1 + t : Nat) : Int)).toNat = t + w + r := by omega
    rw [en]
    refine dc_it walk_range (fun i H' => ∃ (tl : Nat → Addr) (tr : Nat → List V), TrG H' D ((1 + t : Nat) : Int) i tl tr ∧ (∀ j, j < i → tr j = [.non] ∧ H (tl j) = none) ∧ Same H H')
      ⟨fun _ => 0, fun _ => [], ⟨upd_same, fun j h => by omega, fun j l h => by omega⟩, fun j h => by omega, fun b o e => by rw [upd_ne (ne_of_none e hD)]; exact e⟩ (fun _ _ _ _ => trivial) ?_ ?_
    · rintro i x H9 H1 hi ⟨tl, tr, R, hl, sm⟩ ⟨rfl, rfl⟩
      refine ⟨rfl, _, rfl, (by show 1 ≤ sizeLine; decide), fun p hp => ?_⟩
      have pD : D ≠ p := ne_of_none R.d hp
      have s1 : Same H1 (upd H1 p (.lst [.non])) := fun b o e => by rw [upd_ne (ne_of_none e hp)]; exact e
      refine ⟨_, Sum.inl _, rfl, (by rw [upd_ne pD]; exact R.d), (by rw [kv_len]; omega), _, _, R.snoc s1 hp upd_same, fun j hj => ?_, fun b o e => ?_⟩
      · by_cases c : j = i
        · rw [c, seta_same, sett_same]
          exact ⟨rfl, sm.free hp⟩
        · rw [seta_ne c, sett_ne c]
          exact hl j (by omega)
      · rw [upd_ne (ne_of_none e hD)]
        exact s1 _ _ (sm b o e)
    · rintro H1 ⟨tl, tr, R, hl, sm⟩
      have R0 : TrAt E0 H1 D t w r tl tr 0 H := by
        refine ⟨R, fun j hj => ⟨.non, (hl j hj).1, ?_⟩, fun j hj => (hl j hj).2, hD⟩
        unfold Init
        rw [if_neg (by omega), if_neg (by omega)]
      have h1' := sm _ _ h1
      refine ⟨_, rfl, a, C, dx, _, _, rfl, h1', T.cl, T.nW, rfl, _, rfl, by omega, by omega, for_range (lo := 0) (n := (w : Int).toNat)
        (fun i σ H2 => ∃ (v c : Option V) (tl : Nat → Addr) (tr : Nat → List V), σ = [some (.ref a), some (.ref D), v, c] ∧ TrAt E0 H2 D t w r tl tr i H ∧ Same H H2) ⟨_, _, tl, tr, rfl, R0, sm⟩ ?_ ?_⟩
      · rintro i σ H2 hi ⟨v, c, tl2, tr2, rfl, R, sm2⟩
        have g1 := sm2 _ _ h1
        have L2 : LayAt C H2 a t w r := ⟨dx, g1⟩
        have hw : i < w := by omega
        -- trails[layout.word(index)] = [layout.record(index)]
        refine ⟨_, rfl, a, dx, _, rfl, g1, rfl, _, rfl, a, t, w, r, _, rfl, L2, (by show 1 ≤ sizeLine; decide), fun p hp => ?_⟩
        have sp1 : Same H2 (upd H2 p (HO.lst [V.int (rec0 (t : Int) w + (0 + (i : Int)))])) := fun b o e => by rw [upd_ne (ne_of_none e hp)]; exact e
        have k1 : (first (t : Int) + t + (0 + (i : Int))) = ((1 + t : Nat) : Int) + ((t + i : Nat) : Int) := by unfold first; omega
        refine ⟨_, rfl, _, rfl, a, dx, _, rfl, sp1 _ _ g1, rfl, _, rfl, a, t, w, r, _, rfl, ⟨dx, sp1 _ _ g1⟩, D, _, rfl, DPut.k (k := Sum.inl _) (sp1 _ _ R.g.d) (by rw [kv_len]; omega), ?_⟩
        rw [k1]
        have R1 := R.g.put sp1 hp upd_same (i := t + i) (by omega)
        have s3 : Same H _ := fun b o e => (show upd (upd H2 p (HO.lst [V.int (rec0 (t : Int) w + (0 + (i : Int)))])) D (.dK (putK (kv ((1 + t : Nat) : Int) (t + w + r) fun j => .ref (tl2 j)) (Sum.inl (((1 + t : Nat) : Int) + ((t + i : Nat) : Int)) : Key) (.ref p))) b = some o from by
          rw [upd_ne (ne_of_none e hD)]
          exact sp1 _ _ (sm2 b o e))
        have it3 : ∀ j, j < t + w + r → ∃ v, sett tr2 (t + i) [V.int (rec0 (t : Int) w + (0 + (i : Int)))] j = [v] ∧ (j = t + i → v = .int (rec0 (t : Int) w + (0 + (i : Int)))) ∧ (j ≠ t + i → Init E0 t w r i j v) := fun j hj => by
          by_cases c : j = t + i
          · exact ⟨_, (by rw [c, sett_same]), fun _ => rfl, fun h => absurd c h⟩
          · obtain ⟨v, e1, e2⟩ := R.ini j hj
            exact ⟨v, (by rw [sett_ne c]; exact e1), fun h => absurd h c, fun _ => e2⟩
        generalize hH3 : upd (upd H2 p (HO.lst [V.int (rec0 (t : Int) w + (0 + (i : Int)))])) D (.dK (putK (kv ((1 + t : Nat) : Int) (t + w + r) fun j => .ref (tl2 j)) (Sum.inl (((1 + t : Nat) : Int) + ((t + i : Nat) : Int)) : Key) (.ref p))) = H3 at R1 s3 ⊢
        have n3 : ∀ j, j < t + w + r → H (seta tl2 (t + i) p j) = none := fun j hj => by
          by_cases c : j = t + i
          · rw [c, seta_same]
            exact sm2.free hp
          · rw [seta_ne c]
            exact R.new j hj
        generalize htr3 : sett tr2 (t + i) [V.int (rec0 (t : Int) w + (0 + (i : Int)))] = tr3 at R1 it3
        generalize htl3 : seta tl2 (t + i) p = tl3 at R1 n3
        -- trails[layout.record(index)] = [("items", ())]
        refine ⟨(by show 1 ≤ sizeLine; decide), fun p2 hp2 => ?_⟩
        have s36 : Same H3 (upd H3 p2 (.lst [.ref E0])) := fun b o e => by rw [upd_ne (ne_of_none e hp2)]; exact e
        have g3 := s36 _ _ (s3 _ _ h1)
        have hp23 : H3 p2 = none := hp2
        have k2 : (rec0 (t : Int) w + (0 + (i : Int))) = ((1 + t : Nat) : Int) + ((t + w + i : Nat) : Int) := by unfold rec0; omega
        refine ⟨_, rfl, _, rfl, a, dx, _, rfl, g3, rfl, _, rfl, a, t, w, r, _, rfl, ⟨dx, g3⟩, D, _, rfl, DPut.k (k := Sum.inl _) (s36 _ _ R1.d) (by rw [kv_len]; omega), ?_⟩
        rw [k2]
        have R2 := R1.put s36 hp23 upd_same (i := t + w + i) (by omega)
        refine ⟨_, _, _, _, rfl, ⟨R2, fun j hj => ?_, fun j hj => ?_, hD⟩, fun b o e => ?_⟩
        · by_cases c : j = t + w + i
          · refine ⟨.ref E0, (by rw [c, sett_same]), ?_⟩
            unfold Init
            rw [if_neg (by omega), if_pos (by omega)]
          · obtain ⟨v, e1, e2, e3⟩ := it3 j hj
            refine ⟨v, (by rw [sett_ne c]; exact e1), ?_⟩
            unfold Init
            by_cases c1 : j = t + i
            · rw [if_pos (by omega), e2 c1]
              exact congrArg V.int (by rw [c1]; unfold rec0; omega)
            · have e3 := e3 c1
              unfold Init at e3
              by_cases c2 : t ≤ j ∧ j < t + i
              · rw [if_pos c2] at e3
                rw [if_pos (by omega)]
                exact e3
              · rw [if_neg c2] at e3
                rw [if_neg (by omega)]
                by_cases c3 : t + w ≤ j ∧ j < t + w + i
                · rw [if_pos c3] at e3
                  rw [if_pos (by omega)]
                  exact e3
                · rw [if_neg c3] at e3
                  rw [if_neg (by omega)]
                  exact e3
        · by_cases c : j = t + w + i
          · rw [c, seta_same]
            exact s3.free hp23
          · rw [seta_ne c]
            exact n3 j hj
        · rw [upd_ne (ne_of_none e hD)]
          exact s36 _ _ (s3 b o e)
      · rintro σ H2 ⟨v, c, tl2, tr2, rfl, R, sm2⟩
        have ew : (w : Int).toNat = w := by omega
        rw [ew] at R
        exact ⟨_, rfl, k D tl2 tr2 H2 R sm2⟩
theorem scNotes : FnScope ["layout", "thread"] ["layout"] (defScope sNotes) := ⟨rfl, rfl, rfl, by decide +kernel, rfl, by decide +kernel, by decide +kernel⟩
theorem go_notes (F : GT K mg "no_notes" sNotes ["layout"]) (T : LTxt K mg C) : GO P w K mg base CX0 1 "no_notes" ["layout"] (spNotes C) := by
  obtain ⟨f, fd, F, hm, hb⟩ := F
  refine ⟨f, fd, ?_, hm, F.kp, hb⟩
  refine F.ok scNotes (fun vs H Q E h => ?_) (fun cdv A outer s H vs Q E hr h => ?_)
  · obtain ⟨a, t, w, r, rfl, _⟩ := h
    rfl
  · obtain ⟨a, t, w, r, rfl, L, ok, k⟩ := h
    obtain ⟨dx, h1⟩ := id L
    refine ⟨_, pss_one (ps_ret (pe_lc (own := [("thread", 1)]) (g := gName 1) (tt := tYes) rfl scNotes.nd (pi_range1 rfl T.bn.range (pa_cons (pe_fld (pv 0) rfl) pa_nil))
      (blkOk_by (N := ["layout", "thread"]) (sc := defScope sNotes) (by decide +kernel)) (fun _ _ _ _ _ => pg_name (i := 1) scNotes.nd rfl (Or.inl rfl)) (fun _ _ _ _ _ => pts_nil) (fun _ _ _ _ _ => pe_dnewK))), ?_⟩
    have q1 := ok.t1
    have q3 := ok.t3
    refine ⟨_, rfl, a, C, dx, _, _, rfl, h1, T.cl, T.nT, rfl, _, rfl, by omega, by omega, fun D hD => lc_range (lo := 0) (n := (t : Int).toNat)
      (fun i H' => ∃ na : List Addr, H' D = some (.lst (na.map V.ref)) ∧ na.length = i ∧ na.Nodup ∧ (∀ a, a ∈ na → H' a = some (.dK []) ∧ H a = none) ∧ Same H H') ⟨[], upd_same, rfl, List.nodup_nil, fun a h => by simp at h, fun b o e => by rw [upd_ne (ne_of_none e hD)]; exact e⟩ ?_ ?_⟩
    · rintro i H' hi ⟨na, hl, len, nd, all, sm⟩
      refine ⟨rfl, fun p hp => ?_⟩
      have pD : D ≠ p := ne_of_none hl hp
      have hsz : na.length < sizeLine := by
        have : sizeLine = 16777216 := sizeLine_eq
        omega
      refine ⟨na.map V.ref, (by rw [upd_ne pD]; exact hl), (by rw [List.length_map]; exact hsz), na ++ [p], ?_, by simp [len], ?_, ?_, ?_⟩
      · rw [upd_same, List.map_append]
        rfl
      · refine nd_snoc nd fun m => ?_
        have := (all p m).1
        rw [hp] at this
        cases this
      · intro b hb
        rcases List.mem_append.mp hb with m | m
        · obtain ⟨e1, e2⟩ := all b m
          have bD : b ≠ D := ne_of e1 hl (by intro z; cases z)
          rw [upd_ne bD, upd_ne (ne_of_none e1 hp)]
          exact ⟨e1, e2⟩
        · have e := List.mem_singleton.mp m
          subst e
          rw [upd_ne pD.symm, upd_same]
          exact ⟨rfl, sm.free hp⟩
      · intro b o e
        have e1 := sm b o e
        rw [upd_ne (ne_of_none e hD), upd_ne (ne_of_none e1 hp)]
        exact e1
    · rintro H' ⟨na, hl, len, nd, all, sm⟩
      exact k D na H' hl (by omega) nd all hD sm
end
end Dk

set_option maxHeartbeats 4000000
/-! a memory is made -/
namespace Dk
open PySem PySem.Spec PyProof.Rows L2
abbrev sMInit : Stmt := inClass (top 17) 0
/-- what a memory holds -/
structure MS where
  count : Int
  ps : List V
  tr : Nat → List V
  lost : Nat → Int
  notes : List (List (Key × V))
  log : List V
/-- where its parts stand -/
structure Adr where
  a : Addr
  pl : Addr
  td : Addr
  ld : Addr
  nl : Addr
  gl : Addr
  tl : Nat → Addr
  na : List Addr
def mf (A : Adr) (c : Int) : List (Str × V) := [("layout", .ref A.a), ("count", .int c), ("_passing", .ref A.pl), ("_trails", .ref A.td), ("_lost", .ref A.ld), ("_notes", .ref A.nl), ("_log", .ref A.gl)]
structure MemAt (C M : Addr) (H : Hp) (m : Addr) (t w r : Nat) (A : Adr) (S : MS) : Prop where
  ob : ∃ dx, H m = some (.ins M dx (mf A S.count))
  lay : LayAt C H A.a t w r
  ps : H A.pl = some (.lst S.ps)
  tr : TrG H A.td ((1 + t : Nat) : Int) (t + w + r) A.tl S.tr
  ld : H A.ld = some (.dK (kv ((1 + t : Nat) : Int) (t + w + r) fun j => .int (S.lost j)))
  nl : H A.nl = some (.lst (A.na.map V.ref))
  nn : A.na.length = t
  nd : A.na.Nodup
  no : ∀ (i : Nat) (b : Addr), A.na[i]? = some b → ∃ ns, S.notes[i]? = some ns ∧ H b = some (.dK ns)
  gl : H A.gl = some (.lst S.log)
  d1 : ∀ j, j < t + w + r → A.tl j ≠ A.pl ∧ A.tl j ≠ A.gl ∧ A.tl j ≠ A.nl
  d2 : A.pl ≠ A.gl ∧ A.pl ≠ A.nl ∧ A.gl ≠ A.nl
  d3 : A.td ≠ A.ld
  d4 : ∀ b, b ∈ A.na → b ≠ A.td ∧ b ≠ A.ld
  d5 : m ≠ A.a
/-- the addresses that are the memory's own -/
def Foot (m : Addr) (A : Adr) (n : Nat) (b : Addr) : Prop := b = m ∨ b = A.pl ∨ b = A.td ∨ b = A.ld ∨ b = A.nl ∨ b = A.gl ∨ (∃ j, j < n ∧ b = A.tl j) ∨ b ∈ A.na
def S0 (t : Nat) (tr : Nat → List V) : MS := ⟨0, .int 0 :: List.replicate t .non, tr, fun _ => 0, List.replicate t [], []⟩
structure MTxt (K : PySem.W.Frag) (M : Addr) : Prop where
  cl : Cls K M
  nL : NoAttr K M "layout"
  nC : NoAttr K M "count"
  nP : NoAttr K M "_passing"
  nT : NoAttr K M "_trails"
  nO : NoAttr K M "_lost"
  nN : NoAttr K M "_notes"
  nG : NoAttr K M "_log"
/-- all but what stands at p is as it was -/
def Keep (p : Addr) (H H' : Hp) : Prop := ∀ b o, H b = some o → b ≠ p → H' b = some o
theorem Keep.of {p : Addr} {H H' : Hp} (s : Same H H') : Keep p H H' := fun b o e _ => s b o e
theorem Keep.trans {p : Addr} {H H1 H2 : Hp} (a : Keep p H H1) (b : Keep p H1 H2) : Keep p H H2 := fun c o e h => b c o (a c o e h) h
theorem Keep.up {p : Addr} {H : Hp} {o : HO} : Keep p H (upd H p o) := fun b u e h => by rw [upd_ne h]; exact e
def spMInit (C M E0 : Addr) : Sp := fun vs H Q _ => ∃ (p dx a : Addr) (t w r : Nat), vs = [.ref p, .ref a] ∧ H p = some (.ins M dx []) ∧ LayAt C H a t w r ∧ NOk t w r ∧
  ∀ (A : Adr) (tr : Nat → List V) (H' : Hp), A.a = a → MemAt C M H' p t w r A (S0 t tr) → (∀ j, j < t + w + r → ∃ v, tr j = [v] ∧ Init E0 t w r w j v) → Keep p H H' → (∀ b, Foot p A (t + w + r) b → b = p ∨ H b = none) → Q .non H'
section
variable {P : Program} {w : World} {K : PySem.W.Frag} {mg : Str → Option Value} {base : Heap} {C M E0 : Addr}
theorem scMInit : FnScope ["self", "layout", "cell"] ["self", "layout"] (defScope sMInit) := ⟨rfl, rfl, rfl, by decide +kernel, rfl, by decide +kernel, by decide +kernel⟩
theorem ok_minit {f : Addr} {fd : FuncData} (F : Fun K "__init__" "Memory.__init__" sMInit f fd) (T : LTxt K mg C) (TM : MTxt K M) (GP : GO P w K mg base CX0 1 "passing_values" ["layout"] (spPass C))
    (GT : GO P w K mg base CX0 6 "first_trails" ["layout"] (spTrails C E0)) (GN : GO P w K mg base CX0 1 "no_notes" ["layout"] (spNotes C)) : FnOk P w K mg base CX0 7 f fd ["self", "layout"] (spMInit C M E0) := by
  refine F.ok scMInit (fun vs H Q E h => ?_) (fun cdv A outer s H vs Q E hr h => ?_)
  · obtain ⟨p, dx, a, t, w, r, rfl, _⟩ := h
    rfl
  · obtain ⟨p, dx, a, t, w, r, rfl, hp, L, ok, k⟩ := h
    obtain ⟨da, ha⟩ := id L
    have hr1 : Room 1 _ := hr.mono (by decide)
    have pa : p ≠ a := ne_of hp ha (by intro z; cases z)
    refine ⟨_, pss_cons (ps_fld (pv 0) (pv 1) rfl) (pss_cons (ps_fld (pv 0) pe_int rfl) (pss_cons (ps_fld (pv 0) (pc_ GP hr1 (pa_cons (pv 1) pa_nil)) rfl)
      (pss_cons (ps_fld (pv 0) (pc_ GT hr (pa_cons (pv 1) pa_nil)) rfl)
      (pss_cons (ps_fld (pv 0) (pe_lock (pe_dc (own := [("cell", 2)]) (g := gName 2) (tt := tYes) rfl scMInit.nd (pi_keys (pe_fld (pv 0) rfl)) (blkOk_by (N := ["self", "layout", "cell"]) (sc := defScope sMInit) (by decide +kernel))
        (fun _ _ _ _ _ => pg_name (i := 2) scMInit.nd rfl (Or.inl rfl)) (fun _ _ _ _ _ => pts_nil) (fun _ _ _ _ _ => pv 2) (fun _ _ _ _ _ => pe_int))) rfl)
      (pss_cons (ps_fld (pv 0) (pc_ GN hr1 (pa_cons (pv 1) pa_nil)) rfl) (pss_one (ps_fld (pv 0) (pe_lst pa_nil) rfl))))))), ?_⟩
    -- self.layout = layout; self.count = 0
    refine ⟨_, rfl, _, rfl, p, M, dx, [], rfl, hp, TM.cl, TM.nL, (by show 0 < 1000; decide), ?_⟩
    refine ⟨_, rfl, p, M, dx, _, rfl, upd_same, TM.cl, TM.nC, (by show 1 < 1000; decide), ?_⟩
    generalize hH2 : upd (upd H p _) p _ = H2
    have k2 : Keep p H H2 := by rw [← hH2]; exact Keep.up.trans Keep.up
    have p2 : H2 p = some (.ins M dx [("layout", .ref a), ("count", .int 0)]) := by rw [← hH2]; exact upd_same
    -- self._passing = passing_values(layout)
    refine ⟨_, rfl, a, t, w, r, rfl, ⟨da, k2 _ _ ha pa.symm⟩, ok.lok, fun pl H3 npl hpl s3 => ?_⟩
    refine ⟨_, rfl, p, M, dx, _, rfl, s3 _ _ p2, TM.cl, TM.nP, (by show 2 < 1000; decide), ?_⟩
    generalize hH4 : upd H3 p _ = H4
    have k4 : Keep p H2 H4 := by rw [← hH4]; exact (Keep.of s3).trans Keep.up
    have p4 : H4 p = some (.ins M dx [("layout", .ref a), ("count", .int 0), ("_passing", .ref pl)]) := by rw [← hH4]; exact upd_same
    have plp : pl ≠ p := (ne_of_none p2 npl).symm
    have e4 : H4 pl = some (.lst (.int 0 :: List.replicate (t : Int).toNat .non)) := by rw [← hH4, upd_ne plp]; exact hpl
    -- self._trails = first_trails(layout)
    refine ⟨_, rfl, a, t, w, r, rfl, ⟨da, k4 _ _ (k2 _ _ ha pa.symm) pa.symm⟩, ok, fun td tl tr H5 R s5 => ?_⟩
    refine ⟨_, rfl, p, M, dx, _, rfl, s5 _ _ p4, TM.cl, TM.nT, (by show 3 < 1000; decide), ?_⟩
    generalize hH6 : upd H5 p _ = H6
    have k56 : Keep p H5 H6 := by rw [← hH6]; exact Keep.up
    have k6 : Keep p H4 H6 := (Keep.of s5).trans k56
    have p6 : H6 p = some (.ins M dx [("layout", .ref a), ("count", .int 0), ("_passing", .ref pl), ("_trails", .ref td)]) := by rw [← hH6]; exact upd_same
    have tdp : td ≠ p := (ne_of_none p4 R.nD).symm
    have tlp : ∀ j, j < t + w + r → tl j ≠ p := fun j hj => (ne_of_none p4 (R.new j hj)).symm
    have G6 : TrG H6 td ((1 + t : Nat) : Int) (t + w + r) tl tr := ⟨k56 _ _ R.g.d tdp, fun j hj => k56 _ _ (R.g.l j hj) (tlp j hj), R.g.inj⟩
    -- self._lost = {cell: 0 for cell in self._trails}
    refine ⟨td, _, G6.d, trivial, fun od => ?_⟩
    have tdp' : p ≠ td := tdp.symm
    have f6 : upd H6 td (.frz od (.dK (kv ((1 + t : Nat) : Int) (t + w + r) fun j => .ref (tl j)))) p = some (.ins M dx [("layout", .ref a), ("count", .int 0), ("_passing", .ref pl), ("_trails", .ref td)]) := by rw [upd_ne tdp']; exact p6
    refine ⟨_, rfl, p, M, dx, _, _, rfl, f6, TM.cl, TM.nT, rfl, td, od, rfl, .inl ⟨_, upd_same, fun D hD => ?_⟩⟩
    have tdD : td ≠ D := ne_of_none upd_same hD
    refine dc_it walk_keys (fun i H' => H' D = some (.dK (kv ((1 + t : Nat) : Int) i fun _ => .int 0)) ∧ Same (upd H6 td (.frz od (.dK (kv ((1 + t : Nat) : Int) (t + w + r) fun j => .ref (tl j))))) H')
      ⟨upd_same, fun b o e => by rw [upd_ne (ne_of_none e hD)]; exact e⟩ (fun i H' _ q => q.2 _ _ upd_same) ?_ ?_
    · rintro i x H9 H1 hi ⟨hd, sm⟩ ⟨rfl, kk, v, e, rfl⟩
      obtain ⟨hi', rfl, rfl⟩ := kv_at e
      refine ⟨rfl, _, rfl, _, Sum.inl _, rfl, hd, (by rw [kv_len]; have : sizeLine = 16777216 := sizeLine_eq; have := ok.t3; have := ok.w4; have := ok.r200; omega), ?_, fun b o e => ?_⟩
      · rw [upd_same, kv_new]
        refine congrArg (fun q => some (HO.dK q)) (kv_congr fun j hj => ?_)
        unfold setf
        split <;> rfl
      · rw [upd_ne (ne_of_none e hD)]
        exact sm b o e
    · rintro H7 ⟨hd, sm⟩
      rw [kv_len] at hd
      refine ⟨sm _ _ upd_same, ?_⟩
      have e8 : Same H6 (upd H7 td (.dK (kv ((1 + t : Nat) : Int) (t + w + r) fun j => .ref (tl j)))) := fun b o e => by
        by_cases c : b = td
        · subst c
          rw [upd_same]
          exact G6.d.symm.trans e
        · rw [upd_ne c]
          refine sm b o ?_
          rw [upd_ne c]
          exact e
      have hd8 : upd H7 td (.dK (kv ((1 + t : Nat) : Int) (t + w + r) fun j => .ref (tl j))) D = some (.dK (kv ((1 + t : Nat) : Int) (t + w + r) fun _ => .int 0)) := by rw [upd_ne tdD.symm]; exact hd
      have nD6 : H6 D = none := by
        rw [upd_ne tdD.symm] at hD
        exact hD
      generalize hH8 : upd H7 td _ = H8 at e8 hd8 ⊢
      have pD : D ≠ p := (ne_of_none p6 nD6).symm
      refine ⟨_, rfl, p, M, dx, _, rfl, e8 _ _ p6, TM.cl, TM.nO, (by show 4 < 1000; decide), ?_⟩
      generalize hH9 : upd H8 p _ = H9
      have k9 : Keep p H6 H9 := by rw [← hH9]; exact (Keep.of e8).trans Keep.up
      have p9 : H9 p = some (.ins M dx [("layout", .ref a), ("count", .int 0), ("_passing", .ref pl), ("_trails", .ref td), ("_lost", .ref D)]) := by rw [← hH9]; exact upd_same
      have d9 : H9 D = some (.dK (kv ((1 + t : Nat) : Int) (t + w + r) fun _ => .int 0)) := by rw [← hH9, upd_ne pD]; exact hd8
      -- self._notes = no_notes(layout)
      have a9 := k9 _ _ (k6 _ _ (k4 _ _ (k2 _ _ ha pa.symm) pa.symm) pa.symm) pa.symm
      refine ⟨_, rfl, a, t, w, r, rfl, ⟨da, a9⟩, ok, fun nl na H10 hnl hlen hnd hall nnl s10 => ?_⟩
      refine ⟨_, rfl, p, M, dx, _, rfl, s10 _ _ p9, TM.cl, TM.nN, (by show 5 < 1000; decide), ?_⟩
      generalize hH11 : upd H10 p _ = H11
      have k10 : Keep p H10 H11 := by rw [← hH11]; exact Keep.up
      have k11 : Keep p H9 H11 := (Keep.of s10).trans k10
      have p11 : H11 p = some (.ins M dx [("layout", .ref a), ("count", .int 0), ("_passing", .ref pl), ("_trails", .ref td), ("_lost", .ref D), ("_notes", .ref nl)]) := by rw [← hH11]; exact upd_same
      have nlp : nl ≠ p := (ne_of_none p9 nnl).symm
      have nap : ∀ b, b ∈ na → b ≠ p := fun b hb => (ne_of_none p9 (hall b hb).2).symm
      -- self._log = []
      refine ⟨(by show 0 ≤ sizeLine; exact Nat.zero_le _), fun gl ngl => ?_⟩
      have glp : gl ≠ p := (ne_of_none p11 ngl).symm
      refine ⟨_, rfl, p, M, dx, _, rfl, (by rw [upd_ne glp.symm]; exact p11), TM.cl, TM.nG, (by show 6 < 1000; decide), ?_⟩
      generalize hH12 : upd (upd H11 gl _) p _ = H12
      have k12 : Keep p H11 H12 := by
        rw [← hH12]
        intro b o e h
        rw [upd_ne h, upd_ne (ne_of_none e ngl)]
        exact e
      have p12 : H12 p = some (.ins M dx [("layout", .ref a), ("count", .int 0), ("_passing", .ref pl), ("_trails", .ref td), ("_lost", .ref D), ("_notes", .ref nl), ("_log", .ref gl)]) := by rw [← hH12]; exact upd_same
      have g12 : H12 gl = some (.lst []) := by rw [← hH12, upd_ne glp, upd_same]
      have k6z : Keep p H6 H12 := (k9.trans k11).trans k12
      have k4z : Keep p H4 H12 := k6.trans k6z
      have pl12 := k4z _ _ e4 plp
      have et : (t : Int).toNat = t := by omega
      rw [et] at pl12
      have kz : Keep p H H12 := (k2.trans k4).trans k4z
      have nl11 : H11 nl = some (.lst (na.map V.ref)) := k10 _ _ hnl nlp
      have pl4 : H4 pl ≠ none := by rw [e4]; intro z; cases z
      have frN : ∀ {b : Addr}, b ≠ p → H4 b = none → H b = none := fun {b} hb e => by
        cases q : H b with
        | none => rfl
        | some o =>
          have := k4 _ _ (k2 _ _ q hb) hb
          rw [e] at this
          cases this
      have frN2 : ∀ {b : Addr}, b ≠ p → H6 b = none → H4 b = none := fun {b} hb e => by
        cases q : H4 b with
        | none => rfl
        | some o =>
          have := k6 _ _ q hb
          rw [e] at this
          cases this
      have frN3 : ∀ {b : Addr}, b ≠ p → H9 b = none → H6 b = none := fun {b} hb e => by
        cases q : H6 b with
        | none => rfl
        | some o =>
          have := k9 _ _ q hb
          rw [e] at this
          cases this
      have frN4 : ∀ {b : Addr}, b ≠ p → H11 b = none → H9 b = none := fun {b} hb e => by
        cases q : H9 b with
        | none => rfl
        | some o =>
          have := k11 _ _ q hb
          rw [e] at this
          cases this
      refine k ⟨a, pl, td, D, nl, gl, tl, na⟩ tr H12 rfl ⟨⟨dx, p12⟩, ⟨da, k12 _ _ (k11 _ _ a9 pa.symm) pa.symm⟩, pl12, ⟨k6z _ _ G6.d tdp, fun j hj => k6z _ _ (G6.l j hj) (tlp j hj), G6.inj⟩, k12 _ _ (k11 _ _ d9 pD) pD, k12 _ _ nl11 nlp, hlen, hnd, ?_, g12, ?_, ?_, ?_, ?_, pa⟩ ?_ kz ?_
      · intro i b hb
        have hm := List.mem_of_getElem? hb
        refine ⟨[], ?_, k12 _ _ (k10 _ _ (hall b hm).1 (nap b hm)) (nap b hm)⟩
        have hi : i < t := by
          have q : i < na.length := (List.getElem?_eq_some_iff.mp hb).1
          omega
        show (List.replicate t ([] : List (Key × V)))[i]? = some []
        rw [List.getElem?_replicate, if_pos hi]
      · intro j hj
        have e6 := k6z
        refine ⟨fun e => ?_, fun e => ?_, fun e => ?_⟩
        · have := R.new j hj
          have e : tl j = pl := e
          rw [e] at this
          exact pl4 this
        · have e : tl j = gl := e
          have := k11 _ _ (k9 _ _ (G6.l j hj) (tlp j hj)) (tlp j hj)
          rw [e, ngl] at this
          cases this
        · have e : tl j = nl := e
          have := k9 _ _ (G6.l j hj) (tlp j hj)
          rw [e, nnl] at this
          cases this
      · have q9 := k9 _ _ (k6 _ _ e4 plp) plp
        have q11 := k11 _ _ q9 plp
        refine ⟨fun e => ?_, fun e => ?_, fun e => ?_⟩
        · have e : pl = gl := e
          rw [e, ngl] at q11
          cases q11
        · have e : pl = nl := e
          rw [e, nnl] at q9
          cases q9
        · have e : gl = nl := e
          rw [← e, ngl] at nl11
          cases nl11
      · exact tdD
      · intro b hb
        have e9 := (hall b hb).2
        refine ⟨fun e => ?_, fun e => ?_⟩
        · have e : b = td := e
          have := k9 _ _ G6.d tdp
          rw [← e, e9] at this
          cases this
        · have e : b = D := e
          rw [← e, e9] at d9
          cases d9
      · intro j hj
        obtain ⟨v, e1, e2⟩ := R.ini j hj
        exact ⟨v, e1, e2⟩
      · intro b hb
        by_cases hbp : b = p
        · exact .inl hbp
        · refine .inr ?_
          rcases hb with e | e | e | e | e | e | ⟨j, hj, e⟩ | e
          · exact absurd e hbp
          · have e : b = pl := e
            rw [e]
            cases q : H pl with
            | none => rfl
            | some o =>
              have := k2 _ _ q plp
              rw [npl] at this
              cases this
          · have e : b = td := e
            rw [e]
            exact frN tdp R.nD
          · have e : b = D := e
            rw [e]
            exact frN pD (frN2 pD nD6)
          · have e : b = nl := e
            rw [e]
            exact frN nlp (frN2 nlp (frN3 nlp nnl))
          · have e : b = gl := e
            rw [e]
            exact frN glp (frN2 glp (frN3 glp (frN4 glp ngl)))
          · have e : b = tl j := e
            rw [e]
            exact frN (tlp j hj) (R.new j hj)
          · exact frN hbp (frN2 hbp (frN3 hbp (hall b e).2))
end
end Dk

set_option maxHeartbeats 4000000
/-! a memory is looked at -/
namespace Dk
open PySem PySem.Spec PyProof.Rows L2
abbrev sPeek : Stmt := inClass (top 17) 2
abbrev sLasting : Stmt := inClass (top 17) 3
abbrev sTrail : Stmt := inClass (top 17) 4
abbrev sAsk : Stmt := inClass (top 17) 8
/-- the present value of the cell i -/
def cellV (S : MS) (t i : Nat) : Option V := if i < 1 + t then S.ps[i]? else (S.tr (i - (1 + t))).getLast?
theorem inW_nat {n i : Nat} : inW 0 (((n : Nat) : Int) - 1) (.int (i : Int)) = decide (i < n) := by
  show (decide ((0 : Int) ≤ (i : Int)) && decide ((i : Int) ≤ (n : Int) - 1)) = _
  by_cases c : i < n
  · rw [decide_eq_true c, decide_eq_true (by omega), decide_eq_true (by omega)]
    rfl
  · rw [decide_eq_false c, decide_eq_false (p := (i : Int) ≤ (n : Int) - 1) (by omega)]
    exact Bool.and_false _
theorem lastB_nat {t w r i : Nat} : lastB (t : Int) w r (.int (i : Int)) = decide (1 + t ≤ i ∧ i < 1 + t + (t + w + r)) := by
  unfold lastB
  rw [cells_n, inW_nat, first_n]
  show (decide (i < 1 + t + (t + w + r)) && decide (((1 + t : Nat) : Int) ≤ (i : Int))) = _
  by_cases c : i < 1 + t + (t + w + r)
  · by_cases d : 1 + t ≤ i
    · rw [decide_eq_true c, decide_eq_true (by omega), decide_eq_true ⟨d, c⟩]
      rfl
    · rw [decide_eq_true c, decide_eq_false (p := ((1 + t : Nat) : Int) ≤ (i : Int)) (by omega), decide_eq_false (p := 1 + t ≤ i ∧ i < 1 + t + (t + w + r)) (fun z => d z.1)]
      rfl
  · rw [decide_eq_false c, decide_eq_false (p := 1 + t ≤ i ∧ i < 1 + t + (t + w + r)) (fun z => c z.2)]
    rfl
theorem recB_nat {t w r i : Nat} : recB (t : Int) w r (.int (i : Int)) = decide (1 + t + t + w ≤ i ∧ i < 1 + t + (t + w + r)) := by
  unfold recB
  rw [cells_n, inW_nat]
  show (decide (i < 1 + t + (t + w + r)) && decide (rec0 (t : Int) w + 0 ≤ (i : Int))) = _
  unfold rec0
  by_cases c : i < 1 + t + (t + w + r)
  · by_cases d : 1 + t + t + w ≤ i
    · rw [decide_eq_true c, decide_eq_true (by omega), decide_eq_true ⟨d, c⟩]
      rfl
    · rw [decide_eq_true c, decide_eq_false (p := (1 + (t : Int) + t + w + 0 ≤ (i : Int))) (by omega), decide_eq_false (p := 1 + t + t + w ≤ i ∧ i < 1 + t + (t + w + r)) (fun z => d z.1)]
      rfl
  · rw [decide_eq_false c, decide_eq_false (p := 1 + t + t + w ≤ i ∧ i < 1 + t + (t + w + r)) (fun z => c z.2)]
    rfl
theorem atI_getLast {xs : List V} {v : V} (h : xs.getLast? = some v) : atI xs (-1) = some v := by
  have : xs ≠ [] := by
    intro e
    rw [e] at h
    cases h
  have e := List.dropLast_concat_getLast this
  have h : xs.getLast this = v := by
    have e2 := List.getLast?_eq_some_getLast this
    rw [h] at e2
    exact (Option.some.inj e2).symm
  rw [h] at e
  rw [← e]
  exact atI_last _ _
def spPeek (C M : Addr) : Sp := fun vs H Q _ => ∃ (m : Addr) (t w r i : Nat) (A : Adr) (S : MS) (v : V), vs = [.ref m, .int (i : Int)] ∧ MemAt C M H m t w r A S ∧ i < 1 + t + (t + w + r) ∧ cellV S t i = some v ∧ Q v H
def spAsk (C M NV : Addr) : Sp := fun vs H Q E => ∃ (m : Addr) (t w r i : Nat) (A : Adr) (S : MS), vs = [.ref m, .int (i : Int)] ∧ MemAt C M H m t w r A S ∧
  ((1 + t ≤ i ∧ i < 1 + t + (t + w + r)) → Q .non H) ∧ (¬ (1 + t ≤ i ∧ i < 1 + t + (t + w + r)) → E (.ref NV) none H)
def spLasting (C M NV : Addr) : Sp := fun vs H Q E => ∃ (m : Addr) (t w r i : Nat) (A : Adr) (S : MS), vs = [.ref m, .int (i : Int)] ∧ MemAt C M H m t w r A S ∧
  ((1 + t ≤ i ∧ i < 1 + t + (t + w + r)) → ∃ v, (S.tr (i - (1 + t)))[0]? = some v ∧ Q v H) ∧ (¬ (1 + t ≤ i ∧ i < 1 + t + (t + w + r)) → E (.ref NV) none H)
def spTrail (C M NV : Addr) : Sp := fun vs H Q E => ∃ (m : Addr) (t w r i : Nat) (A : Adr) (S : MS), vs = [.ref m, .int (i : Int)] ∧ MemAt C M H m t w r A S ∧
  ((1 + t ≤ i ∧ i < 1 + t + (t + w + r)) → ∀ p, H p = none → Q (.ref p) (upd H p (.lst (S.tr (i - (1 + t)))))) ∧ (¬ (1 + t ≤ i ∧ i < 1 + t + (t + w + r)) → E (.ref NV) none H)
section
variable {P : Program} {w : World} {K : PySem.W.Frag} {mg : Str → Option Value} {base : Heap} {C M NV LE : Addr}
theorem scPeek : FnScope ["self", "cell"] ["self", "cell"] (defScope sPeek) := ⟨rfl, rfl, rfl, by decide +kernel, rfl, by decide +kernel, by decide +kernel⟩
theorem mo_peek (F : MT K M "peek" "Memory.peek" sPeek ["self", "cell"]) (T : LTxt K mg C) (TM : MTxt K M) (GI : MO P w K mg base CX0 C 6 "is_cell" ["self", "cell"] (spLV C fun t w r v => .bl (inW 0 (cells t w r - 1) v)))
    (GL : MO P w K mg base CX0 C 7 "is_lasting" ["self", "cell"] (spLV C fun t w r v => .bl (lastB t w r v))) : MO P w K mg base CX0 M 8 "peek" ["self", "cell"] (spPeek C M) := by
  obtain ⟨f, fd, F, hm, hb⟩ := F
  refine ⟨f, fd, ?_, hm, hb⟩
  refine F.ok scPeek (fun vs H Q E h => ?_) (fun cdv A outer s H vs Q E hr h => ?_)
  · obtain ⟨m, t, w, r, i, A, S, v, rfl, _⟩ := h
    rfl
  · obtain ⟨m, t, w, r, i, B, S, v, rfl, D, hi, hv, k⟩ := h
    obtain ⟨dx, h1⟩ := D.ob
    obtain ⟨da, ha⟩ := D.lay
    have hu := hu_of hr
    refine ⟨_, pss_cons (ps_if (pt_not (pt_val (pm_ GI T.cl (hr.mono (by decide)) (pe_fld (pv 0) rfl) (pa_cons (pv 1) pa_nil)))) (pss_one ps_never) pss_nil)
      (pss_cons (ps_if (pt_val (pm_ GL T.cl hr (pe_fld (pv 0) rfl) (pa_cons (pv 1) pa_nil))) (pss_one (ps_ret (pe_ix ix_list (pe_dget hu (pe_fld (pv 0) rfl) (pv 1) (fun _ _ => rfl)) (pe_un un_neg pe_int) (fun _ _ => rfl)))) pss_nil)
      (pss_one (ps_ret (pe_ix ix_list (pe_fld (pv 0) rfl) (pv 1) (fun _ _ => rfl))))), ?_⟩
    refine ⟨_, rfl, m, M, dx, _, _, rfl, h1, TM.cl, TM.nL, rfl, B.a, da, _, rfl, ha, rfl, _, rfl, B.a, t, w, r, _, "int", rfl, rfl, ⟨da, ha⟩, _, rfl, ?_⟩
    rw [cells_n, inW_nat, decide_eq_true hi]
    refine iteF ?_
    refine ⟨_, rfl, m, M, dx, _, _, rfl, h1, TM.cl, TM.nL, rfl, B.a, da, _, rfl, ha, rfl, _, rfl, B.a, t, w, r, _, "int", rfl, rfl, ⟨da, ha⟩, _, rfl, ?_⟩
    rw [lastB_nat]
    unfold cellV at hv
    by_cases c : i < 1 + t
    · rw [if_pos c] at hv
      rw [decide_eq_false (by omega)]
      refine iteF ?_
      exact ⟨_, rfl, m, M, dx, _, _, rfl, h1, TM.cl, TM.nP, rfl, _, rfl, B.pl, _, _, _, rfl, rfl, SqL.of D.ps, atI_nat hv, k⟩
    · rw [if_neg c] at hv
      rw [decide_eq_true (by omega)]
      refine iteT ?_
      have hj : i - (1 + t) < t + w + r := by omega
      have ei : ((1 + t : Nat) : Int) + ((i - (1 + t) : Nat) : Int) = (i : Int) := by omega
      have g : DGet H B.td (.int (i : Int)) (some (.ref (B.tl (i - (1 + t))))) := by
        have := DGet.k (k := (Sum.inl (i : Int) : Key)) D.tr.d
        rw [← ei, kv_val _ _ _ _ hj, ei] at this
        exact this
      exact ⟨_, rfl, m, M, dx, _, _, rfl, h1, TM.cl, TM.nT, rfl, _, rfl, B.td, _, rfl, g, 1, rfl, B.tl (i - (1 + t)), _, _, _, rfl, rfl, SqL.of (D.tr.l _ hj), atI_getLast hv, k⟩
theorem scAsk : FnScope ["self", "cell"] ["self", "cell"] (defScope sAsk) := ⟨rfl, rfl, rfl, by decide +kernel, rfl, by decide +kernel, by decide +kernel⟩
theorem mo_ask (F : MT K M "_ask_lasting" "Memory._ask_lasting" sAsk ["self", "cell"]) (T : LTxt K mg C) (TM : MTxt K M) (X0 : XTxt K mg NV LE)
    (GL : MO P w K mg base CX0 C 7 "is_lasting" ["self", "cell"] (spLV C fun t w r v => .bl (lastB t w r v))) : MO P w K mg base (L2.CX P w) M 8 "_ask_lasting" ["self", "cell"] (spAsk C M NV) := by
  obtain ⟨f, fd, F, hm, hb⟩ := F
  refine ⟨f, fd, ?_, hm, hb⟩
  refine F.okX scAsk (fun vs H Q E h => ?_) (fun cdv A outer s H vs Q E hr h => ?_)
  · obtain ⟨m, t, w, r, i, A, S, rfl, _⟩ := h
    rfl
  · obtain ⟨m, t, w, r, i, B, S, rfl, D, k1, k2⟩ := h
    obtain ⟨dx, h1⟩ := D.ob
    obtain ⟨da, ha⟩ := D.lay
    refine ⟨_, pss_one (ps_if (pt_not (pt_val (pm_ GL T.cl hr (pe_fld (pv 0) rfl) (pa_cons (pv 1) pa_nil))))
      (pss_one (ps_raise rfl (takes_of rfl rfl rfl rfl) (pmk_own0 PySem.F.excBase_ValueError X0.xN X0.gN X0.kN (raises_own X0.sN X0.tN) rfl))) pss_nil), ?_⟩
    refine ⟨_, rfl, m, M, dx, _, _, rfl, h1, TM.cl, TM.nL, rfl, B.a, da, _, rfl, ha, rfl, _, rfl, B.a, t, w, r, _, "int", rfl, rfl, ⟨da, ha⟩, _, rfl, ?_⟩
    rw [lastB_nat]
    by_cases c : 1 + t ≤ i ∧ i < 1 + t + (t + w + r)
    · rw [decide_eq_true c]
      exact iteF (k1 c)
    · rw [decide_eq_false c]
      exact iteT (k2 c)
theorem scLasting : FnScope ["self", "cell"] ["self", "cell"] (defScope sLasting) := ⟨rfl, rfl, rfl, by decide +kernel, rfl, by decide +kernel, by decide +kernel⟩
theorem mo_lasting (F : MT K M "lasting" "Memory.lasting" sLasting ["self", "cell"]) (TM : MTxt K M) (GA : MO P w K mg base (L2.CX P w) M 8 "_ask_lasting" ["self", "cell"] (spAsk C M NV)) :
    MO P w K mg base (L2.CX P w) M 9 "lasting" ["self", "cell"] (spLasting C M NV) := by
  obtain ⟨f, fd, F, hm, hb⟩ := F
  refine ⟨f, fd, ?_, hm, hb⟩
  refine F.okX scLasting (fun vs H Q E h => ?_) (fun cdv A outer s H vs Q E hr h => ?_)
  · obtain ⟨m, t, w, r, i, A, S, rfl, _⟩ := h
    rfl
  · obtain ⟨m, t, w, r, i, B, S, rfl, D, k1, k2⟩ := h
    obtain ⟨dx, h1⟩ := D.ob
    have hu := hu_of hr
    refine ⟨_, pss_cons (ps_expr (pmE_ (E := fun _ => E) GA TM.cl hr (fun σ => passAt (takes_of rfl rfl rfl rfl) σ) (pv 0) (pa_cons (pv 1) pa_nil)))
      (pss_one (ps_ret (pe_ix ix_list (pe_dget hu (pe_fld (pv 0) rfl) (pv 1) (fun _ _ => rfl)) pe_int (fun _ _ => rfl)))), ?_⟩
    refine ⟨_, rfl, m, dx, _, rfl, h1, rfl, _, rfl, m, t, w, r, i, B, S, rfl, D, fun c => ?_, k2⟩
    obtain ⟨v, hv, q⟩ := k1 c
    have hj : i - (1 + t) < t + w + r := by omega
    have ei : ((1 + t : Nat) : Int) + ((i - (1 + t) : Nat) : Int) = (i : Int) := by omega
    have g : DGet H B.td (.int (i : Int)) (some (.ref (B.tl (i - (1 + t))))) := by
      have := DGet.k (k := (Sum.inl (i : Int) : Key)) D.tr.d
      rw [← ei, kv_val _ _ _ _ hj, ei] at this
      exact this
    exact ⟨_, rfl, m, M, dx, _, _, rfl, h1, TM.cl, TM.nT, rfl, _, rfl, B.td, _, rfl, g, B.tl (i - (1 + t)), _, _, _, rfl, rfl, SqL.of (D.tr.l _ hj), atI_nat (j := 0) hv, q⟩
theorem scTrail : FnScope ["self", "cell"] ["self", "cell"] (defScope sTrail) := ⟨rfl, rfl, rfl, by decide +kernel, rfl, by decide +kernel, by decide +kernel⟩
theorem mo_trail (F : MT K M "trail" "Memory.trail" sTrail ["self", "cell"]) (T : LTxt K mg C) (TM : MTxt K M) (GA : MO P w K mg base (L2.CX P w) M 8 "_ask_lasting" ["self", "cell"] (spAsk C M NV)) :
    MO P w K mg base (L2.CX P w) M 9 "trail" ["self", "cell"] (spTrail C M NV) := by
  obtain ⟨f, fd, F, hm, hb⟩ := F
  refine ⟨f, fd, ?_, hm, hb⟩
  refine F.okX scTrail (fun vs H Q E h => ?_) (fun cdv A outer s H vs Q E hr h => ?_)
  · obtain ⟨m, t, w, r, i, A, S, rfl, _⟩ := h
    rfl
  · obtain ⟨m, t, w, r, i, B, S, rfl, D, k1, k2⟩ := h
    obtain ⟨dx, h1⟩ := D.ob
    have hu := hu_of hr
    refine ⟨_, pss_cons (ps_expr (pmE_ (E := fun _ => E) GA TM.cl hr (fun σ => passAt (takes_of rfl rfl rfl rfl) σ) (pv 0) (pa_cons (pv 1) pa_nil)))
      (pss_one (ps_ret (pe_callTy call_list_of (by rfl) T.bn.list (by decide +kernel) (pa_cons (pe_dget hu (pe_fld (pv 0) rfl) (pv 1) (fun _ _ => rfl)) pa_nil)))), ?_⟩
    refine ⟨_, rfl, m, dx, _, rfl, h1, rfl, _, rfl, m, t, w, r, i, B, S, rfl, D, fun c => ?_, k2⟩
    have q := k1 c
    have hj : i - (1 + t) < t + w + r := by omega
    have ei : ((1 + t : Nat) : Int) + ((i - (1 + t) : Nat) : Int) = (i : Int) := by omega
    have g : DGet H B.td (.int (i : Int)) (some (.ref (B.tl (i - (1 + t))))) := by
      have := DGet.k (k := (Sum.inl (i : Int) : Key)) D.tr.d
      rw [← ei, kv_val _ _ _ _ hj, ei] at this
      exact this
    exact ⟨_, rfl, m, M, dx, _, _, rfl, h1, TM.cl, TM.nT, rfl, _, rfl, B.td, _, rfl, g, B.tl (i - (1 + t)), _, rfl, .inl (SqL.of (D.tr.l _ hj)), q⟩
end
end Dk

set_option maxHeartbeats 4000000
/-! the tape of a law -/
namespace Dk
open PySem PySem.Spec PyProof.Rows L2
abbrev sTape : Stmt := top 19
abbrev sAt : Stmt := top 20
def Small (ms : List Int) : Prop := ∀ v, v ∈ ms → 0 ≤ v ∧ v < 1000
theorem Small.snoc {ms : List Int} {v : Int} (h : Small ms) (a : 0 ≤ v) (b : v < 1000) : Small (ms ++ [v]) := fun x hx => by
  rcases List.mem_append.mp hx with m | m
  · exact h x m
  · rw [List.mem_singleton.mp m]
    exact ⟨a, b⟩
def atD (ms : List Int) (k : Nat) : Int := (ms[k]?).getD 0
theorem atD_small {ms : List Int} {k : Nat} (h : Small ms) : 0 ≤ atD ms k ∧ atD ms k < 1000 := by
  unfold atD
  cases e : ms[k]? with
  | none => exact ⟨by decide, by decide⟩
  | some v => exact h v (List.mem_of_getElem? e)
def spTape (K : PySem.W.Frag) : Sp := fun vs H Q _ => ∃ (a : Addr) (ns : List Int), vs = [.ref a] ∧ SqL K H a (ns.map V.int) ∧ ns.length ≤ 63 ∧
  ∀ (p : Addr) (ms : List Int) (H' : Hp), H p = none → H' p = some (.lst (ms.map V.int)) → Small ms → ms.length ≤ 3780 → Same H H' → Q (.ref p) H'
def spAt (K : PySem.W.Frag) : Sp := fun vs H Q _ => ∃ (p : Addr) (ms : List Int) (k : Nat), vs = [.ref p, .int (k : Int)] ∧ SqL K H p (ms.map V.int) ∧ Q (.int (atD ms k)) H
section
variable {P : Program} {w : World} {K : PySem.W.Frag} {mg : Str → Option Value} {base : Heap}
theorem scTape : FnScope ["script", "tape", "k", "value", "step"] ["script"] (defScope sTape) := ⟨rfl, rfl, rfl, by decide +kernel, rfl, by decide +kernel, by decide +kernel⟩
theorem go_tape (F : GT K mg "_law_tape" sTape ["script"]) (T : Bn mg) : GO P w K mg base CX0 1 "_law_tape" ["script"] (spTape K) := by
  obtain ⟨f, fd, F, hm, hb⟩ := F
  refine ⟨f, fd, ?_, hm, F.kp, hb⟩
  refine F.ok scTape (fun vs H Q E h => ?_) (fun cdv A outer s H vs Q E hr h => ?_)
  · obtain ⟨a, ns, rfl, _⟩ := h
    rfl
  · obtain ⟨a, ns, rfl, hS, hlen, k⟩ := h
    have hsl : sizeLine = 16777216 := sizeLine_eq
    refine ⟨_, pss_cons (ps_set (i := 1) scTape.nd rfl (Or.inl rfl) (pe_lst pa_nil))
      (pss_cons (ps_for PassesOwn.never rfl (pi_range1 rfl T.range (pa_cons (pe_callB call_len_seq (by rfl) T.len PySem.boot_len (pa_cons (pv 0) pa_nil)) pa_nil)) (pg_name (i := 2) scTape.nd rfl (Or.inl rfl))
        (pss_cons (ps_set (i := 3) scTape.nd rfl (Or.inl rfl) (pe_callB call_abs (by rfl) T.abs (by decide +kernel) (pa_cons (pe_callTy call_int1 (by rfl) T.int (by decide +kernel) (pa_cons (pe_ix ix_list (pv 0) (pv 2) (fun _ _ => rfl)) pa_nil)) pa_nil)))
        (pss_one (ps_if (pt_cmpR op_ge (pv 3) (pe_op op_pow pe_int pe_int) (nomark _))
          (pss_one (ps_for PassesOwn.never rfl (pi_range1 rfl T.range (pa_cons pe_int pa_nil)) (pg_name (i := 4) scTape.nd rfl (Or.inl rfl))
            (pss_one (ps_if (pt_cmpR op_gt (pv 3) pe_int (nomark _))
              (pss_cons (ps_expr (pe_bm PySem.F.plainAttrs_list PySem.F.slot_list_append PySem.F.type_list_append mt_append (pv 1) (pa_cons (pe_op op_mod (pv 3) pe_int) pa_nil)))
              (pss_one (ps_set (i := 3) scTape.nd rfl (Or.inl rfl) (pe_op op_fdiv (pv 3) pe_int)))) pss_nil))))
          (pss_one (ps_for PassesOwn.never rfl (pi_range1 rfl T.range (pa_cons pe_int pa_nil)) (pg_name (i := 4) scTape.nd rfl (Or.inl rfl))
            (pss_cons (ps_set (i := 3) scTape.nd rfl (Or.inl rfl) (pe_op op_mod (pe_op op_add (pe_op op_add (pe_op op_mul (pv 3) pe_int) (pe_op op_mul pe_int (pe_op op_add (pv 2) pe_int))) (pe_op op_mul pe_int (pv 4))) pe_int))
            (pss_cons (ps_set (i := 3) scTape.nd rfl (Or.inl rfl) (pe_op op_mod (pe_op op_mul (pv 3) pe_int) pe_int))
            (pss_one (ps_expr (pe_bm PySem.F.plainAttrs_list PySem.F.slot_list_append PySem.F.type_list_append mt_append (pv 1) (pa_cons (pe_op op_mod (pe_op op_fdiv (pv 3) pe_int) pe_int) pa_nil))))))))))))
      (pss_one (ps_ret (pv 1)))), ?_⟩
    -- tape = []
    refine ⟨(by show 0 ≤ sizeLine; exact Nat.zero_le _), fun D hD => ?_⟩
    have s0 : Same H (upd H D (.lst [])) := fun b o e => by rw [upd_ne (ne_of_none e hD)]; exact e
    refine ⟨_, rfl, a, _, rfl, .inl (s0.seq hS), _, rfl, (by rw [List.length_map]; omega), (by rw [List.length_map]; omega), for_range (lo := 0) (n := ((ns.map V.int).length : Int).toNat)
      (fun i σ H2 => ∃ (x y z : Option V) (ms : List Int), σ = [some (.ref a), some (.ref D), x, y, z] ∧ H2 D = some (.lst (ms.map V.int)) ∧ Small ms ∧ ms.length ≤ 60 * i ∧ Same H H2) ⟨_, _, _, [], rfl, upd_same, fun v h => by simp at h, by simp, s0⟩ ?_ ?_⟩
    · rintro i σ H2 hi ⟨x, y, z, ms, rfl, hl, sm, len, s2⟩
      have hi' : i < ns.length := by
        rw [List.length_map] at hi
        omega
      have hv : (ns.map V.int)[i]? = some (V.int ns[i]) := by rw [List.getElem?_map, List.getElem?_eq_getElem hi']; rfl
      refine ⟨_, rfl, _, rfl, a, _, _, _, rfl, rfl, s2.seq hS, at_of (j := i) (by omega) hv, .inl ⟨_, rfl, _, rfl, ?_⟩⟩
      generalize hval : (if ns[i] < 0 then -ns[i] else ns[i]) = val
      refine ⟨_, rfl, _, _, rfl, rfl, ⟨by decide, by decide, by decide⟩, _, _, rfl, rfl, _, rfl, ite2 (fun _ => ?_) (fun _ => ?_)⟩
      · refine ⟨60, rfl, by decide, by decide, for_range (lo := 0) (n := (60 : Int).toNat)
          (fun l σ H2 => ∃ (val : Int) (z : Option V) (ms' : List Int), σ = [some (.ref a), some (.ref D), some (.int (0 + (i : Int))), some (.int val), z] ∧ H2 D = some (.lst (ms'.map V.int)) ∧ Small ms' ∧ ms'.length ≤ ms.length + l ∧ Same H H2) ⟨_, _, ms, rfl, hl, sm, by omega, s2⟩ ?_ ?_⟩
        · rintro l σ H3 hl3 ⟨val3, z3, ms3, rfl, hl3', sm3, len3, s3⟩
          refine ⟨_, rfl, _, _, rfl, rfl, _, rfl, ite2 (fun _ => ?_) (fun _ => ?_)⟩
          · refine ⟨_, rfl, .inl ⟨rfl, _, SqL.of hl3'⟩, _, rfl, _, _, rfl, rfl, (by show (0 : Int) < 1000; decide), D, _, _, rfl, rfl, hl3', ?_, ?_⟩
            · rw [List.length_map]
              have : (60 : Int).toNat = 60 := rfl
              omega
            · refine ⟨_, rfl, _, _, rfl, rfl, ⟨by decide, by decide⟩, ?_⟩
              refine ⟨_, _, ms3 ++ [val3 % 1000], rfl, ?_, sm3.snoc (Int.emod_nonneg _ (by decide)) (Int.emod_lt_of_pos _ (by decide)), ?_, fun b o e => ?_⟩
              · rw [upd_same, List.map_append]
                rfl
              · rw [List.length_append, List.length_singleton]
                omega
              · rw [upd_ne (ne_of_none e hD)]
                exact s3 b o e
          · exact ⟨_, _, ms3, rfl, hl3', sm3, by omega, s3⟩
        · rintro σ H3 ⟨val3, z3, ms3, rfl, hl3', sm3, len3, s3⟩
          exact ⟨_, _, _, ms3, rfl, hl3', sm3, (by have : (60 : Int).toNat = 60 := rfl; omega), s3⟩
      · refine ⟨4, rfl, by decide, by decide, for_range (lo := 0) (n := (4 : Int).toNat)
          (fun l σ H2 => ∃ (val : Int) (z : Option V) (ms' : List Int), σ = [some (.ref a), some (.ref D), some (.int (0 + (i : Int))), some (.int val), z] ∧ H2 D = some (.lst (ms'.map V.int)) ∧ Small ms' ∧ ms'.length ≤ ms.length + l ∧ Same H H2) ⟨_, _, ms, rfl, hl, sm, by omega, s2⟩ ?_ ?_⟩
        · rintro l σ H3 hl3 ⟨val3, z3, ms3, rfl, hl3', sm3, len3, s3⟩
          refine ⟨_, rfl, _, _, rfl, rfl, .inr ⟨by decide, by decide⟩, _, rfl, _, _, rfl, rfl, _, _, rfl, rfl, .inl ⟨by decide, by decide⟩, _, _, rfl, rfl, _, rfl, _, _, rfl, rfl, .inl ⟨by decide, by decide⟩, _, _, rfl, rfl, _, _, rfl, rfl, (by show (0 : Int) < 2147483647; decide), ?_⟩
          refine ⟨_, rfl, _, _, rfl, rfl, .inr ⟨by decide, by decide⟩, _, _, rfl, rfl, (by show (0 : Int) < 2147483647; decide), ?_⟩
          refine ⟨_, rfl, .inl ⟨rfl, _, SqL.of hl3'⟩, _, rfl, _, _, rfl, rfl, ⟨by decide, by decide⟩, _, _, rfl, rfl, (by show (0 : Int) < 1000; decide), D, _, _, rfl, rfl, hl3', ?_, ?_⟩
          · rw [List.length_map]
            have : (4 : Int).toNat = 4 := rfl
            omega
          · refine ⟨_, _, ms3 ++ [((val3 * 48271 + 69621 * (0 + (i : Int) + 1) + 7 * (0 + (l : Int))) % 2147483647 * 16807 % 2147483647 / 1000) % 1000], rfl, ?_, sm3.snoc (Int.emod_nonneg _ (by decide)) (Int.emod_lt_of_pos _ (by decide)), ?_, fun b o e => ?_⟩
            · rw [upd_same, List.map_append]
              rfl
            · rw [List.length_append, List.length_singleton]
              omega
            · rw [upd_ne (ne_of_none e hD)]
              exact s3 b o e
        · rintro σ H3 ⟨val3, z3, ms3, rfl, hl3', sm3, len3, s3⟩
          exact ⟨_, _, _, ms3, rfl, hl3', sm3, (by have : (4 : Int).toNat = 4 := rfl; omega), s3⟩
    · rintro σ H2 ⟨x, y, z, ms, rfl, hl, sm, len, s2⟩
      exact ⟨_, rfl, k D ms H2 hD hl sm (by rw [List.length_map] at len; omega) s2⟩
theorem scAt : FnScope ["tape", "k"] ["tape", "k"] (defScope sAt) := ⟨rfl, rfl, rfl, by decide +kernel, rfl, by decide +kernel, by decide +kernel⟩
theorem go_at (F : GT K mg "_law_at" sAt ["tape", "k"]) (T : Bn mg) : GO P w K mg base CX0 1 "_law_at" ["tape", "k"] (spAt K) := by
  obtain ⟨f, fd, F, hm, hb⟩ := F
  refine ⟨f, fd, ?_, hm, F.kp, hb⟩
  refine F.ok scAt (fun vs H Q E h => ?_) (fun cdv A outer s H vs Q E hr h => ?_)
  · obtain ⟨p, ms, k, rfl, _⟩ := h
    rfl
  · obtain ⟨p, ms, i, rfl, hS, k⟩ := h
    refine ⟨_, pss_cons (ps_if (pt_cmpR op_lt (pv 1) (pe_callB call_len_seq (by rfl) T.len PySem.boot_len (pa_cons (pv 0) pa_nil)) (nomark _)) (pss_one (ps_ret (pe_ix ix_list (pv 0) (pv 1) (fun _ _ => rfl)))) pss_nil)
      (pss_one (ps_ret pe_int)), ?_⟩
    refine ⟨_, rfl, _, rfl, p, _, rfl, .inl hS, _, _, rfl, rfl, _, rfl, ite2 (fun c => ?_) (fun c => ?_)⟩
    · have hi : i < ms.length := by
        have c := of_decide_eq_true c
        rw [List.length_map] at c
        omega
      have hv : (ms.map V.int)[i]? = some (V.int ms[i]) := by rw [List.getElem?_map, List.getElem?_eq_getElem hi]; rfl
      have ea : atD ms i = ms[i] := by unfold atD; rw [List.getElem?_eq_getElem hi]; rfl
      rw [ea] at k
      exact ⟨_, rfl, _, rfl, p, _, _, _, rfl, rfl, hS, atI_nat hv, k⟩
    · have hi : ¬ i < ms.length := fun h => c (decide_eq_true (by rw [List.length_map]; omega))
      have ea : atD ms i = 0 := by unfold atD; rw [List.getElem?_eq_none (by omega)]; rfl
      rw [ea] at k
      exact k
end
end Dk

set_option maxHeartbeats 4000000
/-! match over a tuple whose first item is a text -/
namespace Dk
open PySem PySem.Spec PyProof.Rows L2
/-- the captures of a pattern: names, each in its slot -/
inductive Caps (X : Cx) : List Pattern → List Str → List Nat → Prop where
  | nil : Caps X [] [] []
  | cons {n : Str} {i : Nat} {pos : Pos} {ps : List Pattern} {ns : List Str} {is : List Nat} (hi : X.N[i]? = some n) (hl : X.env.scope.names.lookup n = some .local) (h : Caps X ps ns is) : Caps X (.MatchAs none (some n) pos :: ps) (n :: ns) (i :: is)
theorem Caps.len {X : Cx} {ps : List Pattern} {ns : List Str} {is : List Nat} (h : Caps X ps ns is) : ns.length = ps.length ∧ is.length = ps.length := by
  induction h with
  | nil => exact ⟨rfl, rfl⟩
  | cons _ _ _ ih => exact ⟨by simp [ih.1], by simp [ih.2]⟩
theorem Caps.noStar {X : Cx} {ps : List Pattern} {ns : List Str} {is : List Nat} (h : Caps X ps ns is) : ∀ p, p ∈ ps → p.isStar = false := by
  induction h with
  | nil => intro p hp; cases hp
  | cons _ _ _ ih =>
    intro p hp
    rcases List.mem_cons.mp hp with e | m
    · subst e
      rfl
    · exact ih p m
/-- the slots stored one after the other -/
def setAll : L2.St → List Nat → List V → L2.St
  | σ, i :: is, v :: vs => setAll (σ.set i (some v)) is vs
  | σ, _, _ => σ
section
variable {X : Cx}
theorem caps_match {A : Around} {E : Value → Shared → Prop} {s : Shared} {Q : Option (List (Str × Value)) → Shared → Prop} {ps : List Pattern} {ns : List Str} {is : List Nat} (h : Caps X ps ns is) :
    ∀ {us : List Value}, us.length = ps.length → Q (some (ns.zip us)) s → wpAny (model X.prog X.w) A (matchEach ps X.env us) Q E s := by
  induction h generalizing Q with
  | nil =>
    intro us hl q
    cases us with
    | nil => exact wpAny_matchEach_nil q
    | cons _ _ => cases hl
  | @cons n i pos ps ns is hi hl h ih =>
    intro us hlen q
    cases us with
    | nil => cases hlen
    | cons u us =>
      refine wpAny_matchEach_cons (wpAny_matchPattern_Capture ?_)
      exact ih (by simpa using hlen) q
theorem caps_assign {ps : List Pattern} {ns : List Str} {is : List Nat} (h : Caps X ps ns is) (hN : X.N.Nodup) : ∀ {pins : List (Addr × Obj)} {s : Shared} {σ : L2.St} {H : Hp} {E : Value → Shared → Prop} {Q : Unit → Shared → Prop} {vs : List V} {us : List Value}, Inv X pins σ H s → Vals vs us → us.length = ns.length →
    (∀ s', Inv X pins (setAll σ is vs) H s' → Q () s') → wpAny (model X.prog X.w) X.A (assignInOrder ((ns.zip us).map fun (n, _) => bindName X.env n) ((ns.zip us).map (·.2))) Q E s := by
  induction h with
  | nil =>
    intro pins s σ H E Q vs us I r hl q
    refine wpAny_assignInOrder_none (q s ?_)
    cases vs <;> exact I
  | @cons n i pos ps ns is hi hl h ih =>
    intro pins s σ H E Q vs us I r hlen q
    cases r with
    | nil => cases hlen
    | @cons v u vs us rv rs =>
      show wpAny _ _ (assignInOrder ((fun (n, _) => bindName X.env n) (n, u) :: (ns.zip us).map fun (n, _) => bindName X.env n) (u :: (ns.zip us).map (·.2))) _ _ _
      refine wpAny_assignInOrder_more ?_
      show wpAny _ _ (bindName X.env n u) _ _ _
      refine wpAny_bindName (store_ok I hN hi (.inl hl) rv (fun s1 I1 => ?_) (.inr hl))
      exact ih I1 rs (by simpa using hlen) q
/-- the cases of a match whose subject is a tuple -/
structure PMs (X : Cx) (cs : List MatchCase) (t : Addr → List V → TS) : Prop where
  run : ∀ (fst : Bool) (pins : List (Addr × Obj)) (s : Shared) (σ : L2.St) (H : Hp) (D : Ends) (a : Addr) (xs : List V), Inv X pins σ H s → SqT X.K H a xs → t a xs D σ H → wpAny (model X.prog X.w) X.A (matchCases cs X.env (.ref a) fst) (SP X pins D) X.xe s
def mNil : Addr → List V → TS := fun _ _ D σ H => D.nx σ H
theorem pms_nil : PMs X [] mNil := ⟨fun fst pins s σ H D a xs I q h => wpAny_matchCases_nil ⟨σ, H, I, h⟩⟩
/-- case ("kind", a, b, ..) -/
def mCase (kind : Str) (is : List Nat) (tb : TS) (tr : Addr → List V → TS) : Addr → List V → TS := fun a xs D σ H =>
  if xs.length = is.length + 1 then ∃ z ys, xs = .str z :: ys ∧ (if z = kind then tb D (setAll σ is ys) H else tr a xs D σ H) else tr a xs D σ H
theorem pms_case {kind : Str} {j : Nat} {p1 p2 pos : Pos} {ps : List Pattern} {ns : List Str} {is : List Nat} {body : List Stmt} {rest : List MatchCase} {tb : TS} {tr : Addr → List V → TS} (hc : X.calm = true) (hN : X.N.Nodup) (h : Caps X ps ns is) (hb : PSs X body tb) (hr : PMs X rest tr) :
    PMs X (⟨.MatchSequence (.MatchValue (.Constant (.str kind) j p1) p2 :: ps) pos, none, body⟩ :: rest) (mCase kind is tb tr) := by
  refine ⟨fun fst pins s σ H D a xs I q hw => ?_⟩
  obtain ⟨its, rv, ht, hz⟩ := I.tuple q
  have hsl : sizeLine = 16777216 := sizeLine_eq
  have hfit : ((its.toArray.size : Nat) : Int) < 2 ^ 63 := by
    rw [List.size_toArray, ← rv.length]
    omega
  have hstar : (Pattern.MatchValue (.Constant (.str kind) j p1) p2 :: ps).findIdx? (·.isStar) = none := by
    refine List.findIdx?_eq_none_iff.mpr fun p hp => ?_
    rcases List.mem_cons.mp hp with e | m
    · subst e
      rfl
    · exact h.noStar p m
  have hwild : ((Pattern.MatchValue (.Constant (.str kind) j p1) p2 :: ps).all fun p => p.isWildcard || (p.isStar && p.names.isEmpty)) = false := by
    rw [List.all_cons]
    rfl
  unfold mCase at hw
  refine wpAny_matchCases_cons ?_
  by_cases hlen : xs.length = is.length + 1
  · rw [if_pos hlen] at hw
    obtain ⟨z, ys, rfl, hw⟩ := hw
    have hsz : its.toArray.size = (Pattern.MatchValue (.Constant (.str kind) j p1) p2 :: ps).length := by
      rw [List.size_toArray, ← rv.length, hlen, h.len.2]
      rfl
    refine matchSeq_tuple_hit ht hfit hsz ?_ hstar hwild
    have ht' : IsTup (({ s with toks := s.toks + 1 + 1 } : Shared)).heap a its.toArray := ht
    rw [← hsz]
    refine unpackItems_tuple (I.ok.hd hc) ht' fun h' hx => ?_
    have I1 : Inv X pins σ H { s with heap := h', toks := s.toks + 1 + 1 } := I.kept (t' := s.toks + 1 + 1) fun b o e => hx b o (Nat.ne_of_lt (Heap.lt_size e)) e
    show wpAny _ _ (matchEach _ _ its.toArray.toList) _ _ _
    rw [List.toList_toArray]
    cases rv with
    | @cons _ u _ us ru rs =>
      refine wpAny_matchEach_cons ?_
      refine wpAny_matchPattern_Value ?_
      refine thn ((pe_str (X := X) (x := kind) (j := j) (pos := p1)).run pins _ σ H (fun y H1 => y = .str kind ∧ H1 = H) I1 ⟨rfl, rfl⟩) fun ku s2 ⟨y, H2, I2, r2, ey, eH⟩ => ?_
      subst ey
      subst eH
      refine thn (op_eq pins s2 σ H2 (.str z) (.str kind) u ku (fun c H3 => c = .bl (decide (V.str z = V.str kind)) ∧ H3 = H2) I2 ru r2 ⟨rfl, rfl, rfl⟩) fun cv s3 ⟨c, H3, I3, r3, ec, eH⟩ => ?_
      subst ec
      subst eH
      cases r3
      refine wpAny_truthy_bool ?_
      have hus : us.length = ps.length := by
        have := rs.length
        have := h.len.2
        simp only [List.length_cons] at hlen
        omega
      by_cases hk : z = kind
      · rw [if_pos hk] at hw
        subst hk
        have et : decide (V.str z = V.str z) = true := decide_eq_true rfl
        rw [if_pos et]
        refine caps_match h hus ?_
        show wpAny _ _ (assignInOrder (((ns.zip us)).map fun (n, _) => bindName X.env n) ((ns.zip us).map (·.2))) _ _ _
        refine caps_assign h hN I3 rs (by rw [hus, h.len.1]) fun s4 I4 => ?_
        exact hb.run pins s4 _ _ D I4 hw
      · rw [if_neg hk] at hw
        have et : decide (V.str z = V.str kind) = false := decide_eq_false fun e => hk (V.str.inj e)
        rw [if_neg (by rw [et]; exact Bool.false_ne_true)]
        exact hr.run false pins s3 σ _ D a _ I3 q hw
  · rw [if_neg hlen] at hw
    have hsz : its.toArray.size ≠ (Pattern.MatchValue (.Constant (.str kind) j p1) p2 :: ps).length := by
      rw [List.size_toArray, ← rv.length]
      have := h.len.2
      simp only [List.length_cons]
      omega
    exact matchSeq_tuple_miss ht hfit hsz (hr.run false pins _ σ H D a xs (I.tok _) q hw) hstar hwild
/-- match e: .. -/
def tMatch (K : PySem.W.Frag) (te : TE) (tm : Addr → List V → TS) : TS := fun D σ H => te σ H fun x H1 => ∃ a xs, x = .ref a ∧ SqT K H1 a xs ∧ tm a xs D σ H1
theorem ps_match {e : Expr} {te : TE} {cs : List MatchCase} {tm : Addr → List V → TS} {pos : Pos} (he : PE X e te) (hm : PMs X cs tm) : PS X (.Match e cs pos) (tMatch X.K te tm) := by
  refine ⟨fun pins s σ H D I h => ?_⟩
  refine wpAny_Match (thn (he.run pins s σ H _ I h) fun u s1 ⟨x, H1, I1, r1, a, xs, ex, q, hw⟩ => ?_)
  subst ex
  cases r1
  exact hm.run true pins s1 σ H1 D a xs I1 q hw
end
end Dk

set_option maxHeartbeats 4000000
/-! del xs[a:c] -/
namespace Dk
open PySem PySem.Spec PyProof.Rows L2
def mySel (start stop step : Int) (i : Nat) : Bool :=
  if step > 0 then decide (start ≤ i) && decide ((i : Int) < stop) && ((i : Int) - start) % step == 0
  else decide (stop < i) && decide ((i : Int) ≤ start) && (start - (i : Int)) % (-step) == 0
theorem mySel_one {a c k : Nat} : mySel (a : Int) (c : Int) 1 k = (decide (a ≤ k) && decide (k < c)) := by
  unfold mySel
  rw [if_pos (by decide), Int.emod_one]
  have e1 : decide ((a : Int) ≤ (k : Int)) = decide (a ≤ k) := decide_eq_decide.mpr (by omega)
  have e2 : decide ((k : Int) < (c : Int)) = decide (k < c) := decide_eq_decide.mpr (by omega)
  rw [e1, e2]
  simp
def keepF (a c : Nat) : Value × Nat → Option Value := fun p => if mySel (a : Int) (c : Int) 1 p.2 = true then none else some p.1
theorem kept_eq {a c : Nat} (hac : a ≤ c) : ∀ (l : List Value) (m : Nat), (l.zipIdx m).filterMap (keepF a c) = l.take (a - m) ++ l.drop (c - m)
  | [], m => by simp
  | x :: l, m => by
    have ih := kept_eq hac l (m + 1)
    rw [List.zipIdx_cons, List.filterMap_cons]
    by_cases h1 : m < a
    · have e : keepF a c (x, m) = some x := by
        unfold keepF
        rw [mySel_one, decide_eq_false (by omega)]
        rfl
      rw [e, show a - m = (a - (m + 1)) + 1 by omega, show c - m = (c - (m + 1)) + 1 by omega]
      show x :: (l.zipIdx (m + 1)).filterMap (keepF a c) = _
      rw [ih]
      rfl
    · by_cases h2 : m < c
      · have e : keepF a c (x, m) = none := by
          unfold keepF
          rw [mySel_one, decide_eq_true (by omega), decide_eq_true h2]
          rfl
        rw [e, show a - m = 0 by omega, show c - m = (c - (m + 1)) + 1 by omega]
        show (l.zipIdx (m + 1)).filterMap (keepF a c) = _
        rw [ih, show a - (m + 1) = 0 by omega]
        rfl
      · have e : keepF a c (x, m) = some x := by
          unfold keepF
          rw [mySel_one, decide_eq_false (p := m < c) h2, Bool.and_false]
          rfl
        rw [e, show a - m = 0 by omega, show c - m = 0 by omega]
        show x :: (l.zipIdx (m + 1)).filterMap (keepF a c) = _
        rw [ih, show a - (m + 1) = 0 by omega, show c - (m + 1) = 0 by omega]
        rfl
section
variable {prog : Program} {w : World} {A : Around} {E : Value → Shared → Prop} {s : Shared}
theorem delItem_slice {l sl : Addr} {items : Array Value} {n : Nat} {vl vu : Value} {lo hi : Option Int} {a c : Nat} {Q : Unit → Shared → Prop}
    (e : s.heap.get? l = some { cls := .type "list", data := .seq items n }) (hs : s.heap.IsSliceOf sl vl vu .none) (pl : IsPart vl lo) (pu : IsPart vu hi) (hb : sliceBounds lo hi none items.size = ((a : Int), (c : Int), 1)) (hac : a ≤ c)
    (hsz : items.size ≤ sizeLine) (h : ∀ f : Array Value → Array Value, f items = (items.toList.take a ++ items.toList.drop c).toArray → Q () { s with heap := s.heap.update l (Obj.mapSeq f) }) :
    wpAny (model prog w) A (delItem (.ref l) (.ref sl)) Q E s := by
  have hl : s.heap.IsList l items := PySem.IsL.isList e
  obtain ⟨os, hos, hcs, hds⟩ := id hs
  have hTs : s.TypeIs (.ref sl) "slice" := ⟨os, hos, hcs⟩
  have hstep : ¬ ((rawPart none == rawInt 0) = true) := Bool.false_ne_true
  refine PySem.wpAny_delItem_slot hl.typeIs (by decide) PySem.F.slot_list_delitem ?_
  refine wpAny_call_entry PySem.F.slot_list_delitem hl.typeIs PySem.F.entry_list_delitem ?_ (PySem.F.args_list_delitem_2 _ _)
  show wpAny _ _ (Builtin.List.listSubscript? (.ref sl) >>= _) _ _ s
  refine wpAny_bind ?_
  unfold Builtin.List.listSubscript?
  refine wpAny_bind (wpAny_specialOf hTs slice_no_index ?_)
  simp only [Option.isNone_none, if_true]
  refine wpAny_pure ?_
  show wpAny _ _ (typeOf (.ref sl) >>= _) _ _ s
  refine wpAny_bind (wpAny_typeOf hTs ?_)
  first
    | rw [if_neg (by decide)]
    | refine PySem.W.KFB.if_not (by decide) ?_
  rw [listSliceParts_eq]
  refine wpAny_bind (wpAny_bind (wpAny_field hos hds (x := .none) rfl (wpAny_bind (wpAny_listPart .none ?_))))
  rw [if_neg hstep]
  refine wpAny_bind (wpAny_field hos hds (x := vl) rfl (wpAny_bind (wpAny_listPart pl ?_)))
  refine wpAny_bind (wpAny_field hos hds (x := vu) rfl (wpAny_bind (wpAny_listPart pu (wpAny_pure ?_))))
  refine wpAny_bind (m := Builtin.List.listItems (.ref l)) ?_
  unfold Builtin.List.listItems
  refine wpAny_bind (wpAny_seqItems e rfl (wpAny_pure ?_))
  refine wpAny_bind (wpAny_of_eq ((sliceIndices_raw lo hi none items.size (by simp)).trans (congrArg (pure : Int × Int × Int → Sem (Int × Int × Int)) hb)) ?_)
  refine wpAny_bind (wpAny_rule ?_)
  have hf : (fun xs : Array Value => (xs.toList.zipIdx.filterMap (keepF a c)).toArray) items = (items.toList.take a ++ items.toList.drop c).toArray := by
    show (items.toList.zipIdx.filterMap (keepF a c)).toArray = _
    rw [kept_eq hac]
    rfl
  have hz' : ((fun xs : Array Value => (xs.toList.zipIdx.filterMap (keepF a c)).toArray) items).size ≤ sizeLine + 1 := by
    rw [hf, List.size_toArray, List.length_append, List.length_take, List.length_drop, Array.length_toList]
    omega
  show wpAny _ _ (updateSeq l (fun xs => (xs.toList.zipIdx.filterMap (keepF a c)).toArray) >>= _) _ _ s
  refine wpAny_bind (wpAny_updateSeq (hz := hsz) (_hz' := hz') e rfl ?_)
  refine wpAny_bind (wpAny_letGo ?_)
  first
    | exact wpAny_pure ⟨_, rfl, h _ hf⟩
    | exact wpAny_pure ⟨.none, rfl, wpAny_pure (h _ hf)⟩
    | exact wpAny_bind (wpAny_pure (wpAny_pure ⟨.none, rfl, h _ hf⟩))
end
theorem bounds_head {c n : Nat} (hc : c ≤ n) : sliceBounds none (some (c : Int)) none n = (((0 : Nat) : Int), (c : Int), 1) := by
  simp only [sliceBounds, Option.getD_none]
  have h2 : ¬ ((c : Int) < 0) := by omega
  simp only [h2, if_false, show (1 : Int) > 0 by decide, if_true]
  congr 1
  congr 1; omega
theorem bounds_tail {a n : Nat} (ha : a ≤ n) : sliceBounds (some (a : Int)) none none n = ((a : Int), (n : Int), 1) := by
  simp only [sliceBounds, Option.getD_none]
  have h1 : ¬ ((a : Int) < 0) := by omega
  simp only [h1, if_false, show (1 : Int) > 0 by decide, if_true]
  congr 1
  omega
section
variable {X : Cx}
/-- del xs[lo:hi] -/
def tDelSl (to : TE) (tl th : TO) : TS := fun D σ H => to σ H fun x H1 => tl σ H1 fun lo H2 => th σ H2 fun hi H3 => ∃ (l : Addr) (xs : List V) (a c : Nat), x = .ref l ∧ H3 l = some (.lst xs) ∧ sliceBounds lo hi none xs.length = ((a : Int), (c : Int), 1) ∧ a ≤ c ∧
  D.nx σ (upd H3 l (.lst (xs.take a ++ xs.drop c)))
theorem ps_delSl {o : Expr} {lo hi : Option Expr} {to : TE} {tl th : TO} {p2 tpos pos : Pos} (ho : PE X o to) (hl : PO X lo tl) (hu : PO X hi th) : PS X (.Delete [.Subscript o (.Slice lo hi none p2) tpos] pos) (tDelSl to tl th) := by
  refine ⟨fun pins s σ H D I h => ?_⟩
  refine wpAny_Delete (wpAny_deleteEach_cons (wpAny_delete_Subscript (thn (ho.run pins s σ H _ I h) fun u s1 ⟨x, H1, I1, rx, q1⟩ => ?_)))
  refine wpAny_Slice (thn (hl.run pins s1 σ H1 _ I1 q1) fun vl s2 ⟨lo', H2, I2, pl, q2⟩ => thn (hu.run pins s2 σ H2 _ I2 q2) fun vu s3 ⟨hi', H3, I3, pu, q3⟩ => ?_)
  rw [evalPart_none]
  refine wpAny_pure ?_
  have I4 : Inv X pins σ H3 { s3 with heap := s3.heap.push { cls := .type "slice", data := .fields #[vl, vu, .none] } } := I3.kept (t' := s3.toks) fun b ob q => Heap.get?_push_of_some _ q
  obtain ⟨l, xs, a, c, rfl, hH, hb, hac, q⟩ := q3
  cases rx
  obtain ⟨z, its, n, r, hlen, e⟩ := I4.lstM hH
  show wpAny (model X.prog X.w) X.A (delItem (.ref l) (.ref s3.heap.objs.size)) _ _ _
  refine delItem_slice (a := a) (c := c) e (Heap.IsSliceOf.new ..) pl pu (by rw [List.size_toArray, ← hlen]; exact hb) hac (by rw [List.size_toArray]; omega) fun f hf => ?_
  refine wpAny_deleteEach_nil ⟨σ, _, I4.lset (its' := its.take a ++ its.drop c) (t' := s3.toks) hH e ?_ (Vals.append (r.take _) (r.drop _)) ?_, q⟩
  · exact hf
  · rw [List.length_append, List.length_take, List.length_drop]
    omega
end
end Dk

set_option maxHeartbeats 4000000
/-! values that are no tuples; what an access may be -/
namespace Dk
open PySem PySem.Spec PyProof.Rows L2
abbrev sIsValue : Stmt := top 8
abbrev sIsSame : Stmt := top 9
abbrev sIsAcc : Stmt := top 13
theorem iteD {c A B : Prop} [Decidable c] (hc : c) (h : A) : if decide c = true then A else B := by
  rw [decide_eq_true hc]
  exact iteT h
theorem iteND {c A B : Prop} [Decidable c] (hc : ¬ c) (h : B) : if decide c = true then A else B := by
  rw [decide_eq_false hc]
  exact iteF h
theorem iteNT {c A B : Prop} [Decidable c] (hc : ¬ c) (h : A) : if (!decide c) = true then A else B := by
  rw [decide_eq_false hc]
  exact iteT h
def manyB : V → Bool
  | .int i => decide (0 ≤ i)
  | _ => false
theorem notTup {x : V} {t : String} (h : vty x = some t) : kitB t "tuple" = some false := by
  cases x <;> cases h <;> decide +kernel
def isB : V → Bool
  | .bl _ => true
  | _ => false
theorem kit_bool {x : V} {t : String} (h : vty x = some t) : kitB t "bool" = some (isB x) := by
  cases x with
  | non => cases h; show kitB "NoneType" "bool" = some false; decide +kernel
  | bl b => cases h; show kitB "bool" "bool" = some true; decide +kernel
  | int i => cases h; show kitB "int" "bool" = some false; decide +kernel
  | str y => cases h; show kitB "str" "bool" = some false; decide +kernel
  | _ => cases h
theorem kit_ok {x : V} {t : String} (h : vty x = some t) (hx : x ≠ .non) (K : PySem.W.Frag) : PySem.W.kitAny K (.type t) [.type "bool", .type "int", .type "str"] = some true := by
  cases x with
  | non => exact absurd rfl hx
  | bl b =>
    cases h
    exact kitAny_cons (b := true) (kit_ty (by decide +kernel)) (fun z => nomatch z) fun _ => rfl
  | int i =>
    cases h
    exact kitAny_cons (b := false) (kit_ty (by decide +kernel)) (fun _ => kitAny_cons (b := true) (kit_ty (by decide +kernel)) (fun z => nomatch z) fun _ => rfl) fun z => nomatch z
  | str y =>
    cases h
    exact kitAny_cons (b := false) (kit_ty (by decide +kernel)) (fun _ => kitAny_cons (b := false) (kit_ty (by decide +kernel)) (fun _ => kitAny_cons (b := true) (kit_ty (by decide +kernel)) (fun z => nomatch z) fun _ => rfl) fun z => nomatch z) fun z => nomatch z
  | _ => cases h
section
variable {P : Program} {w : World} {K : PySem.W.Frag} {mg : Str → Option Value} {base : Heap} {C M NV LE : Addr}
theorem scIsValue : FnScope ["value", "waiting", "part"] ["value"] (defScope sIsValue) := ⟨rfl, rfl, rfl, by decide +kernel, rfl, by decide +kernel, by decide +kernel⟩
theorem scIsSame : FnScope ["one", "other", "waiting", "left", "right"] ["one", "other"] (defScope sIsSame) := ⟨rfl, rfl, rfl, by decide +kernel, rfl, by decide +kernel, by decide +kernel⟩
theorem scal_flat {x y : V} {t u : String} (hx : vty x = some t) (hy : vty y = some u) (hb : isB x = isB y) : scal x y = true := by
  cases x <;> cases hx <;> cases y <;> cases hy <;> first | rfl | cases hb
end
end Dk

set_option maxHeartbeats 4000000
/-! is_value of nested tuples -/
namespace Dk
open PySem PySem.Spec PyProof.Rows L2
/-- the shape of a value of a cell -/
inductive Tr where
  | sc (v : V)
  | tup (l : List Tr)
mutual
def Tr.sz : Tr → Nat
  | .sc _ => 1
  | .tup l => 1 + szs l
def szs : List Tr → Nat
  | [] => 0
  | t :: l => t.sz + szs l
end
theorem _root_.L2.SqT.same {K : PySem.W.Frag} {H H' : Hp} {a : Addr} {xs : List V} (h : SqT K H a xs) (s : Same H H') : SqT K H' a xs :=
  h.elim (fun h => .inl (h.elim (fun h => .inl (s _ _ h)) fun ⟨o, h⟩ => .inr ⟨o, s _ _ h⟩)) fun h => .inr h
theorem tyT {K : PySem.W.Frag} {H : Hp} {a : Addr} {xs : List V} (h : SqT K H a xs) : TyX K H (.ref a) (.type "tuple") := by
  rcases h with (h | ⟨o, h⟩) | ⟨o, its, n, h, c, _⟩
  · exact .base (.tup h)
  · exact .fTuple h
  · exact .kTuple h c
mutual
inductive DV (K : PySem.W.Frag) (H : Hp) : V → Tr → Prop
  | sc {v : V} {t : String} : vty v = some t → DV K H v (.sc v)
  | tup {a : Addr} {xs : List V} {l : List Tr} : SqT K H a xs → DVs K H xs l → DV K H (.ref a) (.tup l)
inductive DVs (K : PySem.W.Frag) (H : Hp) : List V → List Tr → Prop
  | nil : DVs K H [] []
  | cons {x : V} {xs : List V} {t : Tr} {l : List Tr} : DV K H x t → DVs K H xs l → DVs K H (x :: xs) (t :: l)
end
mutual
theorem DV.ext {K : PySem.W.Frag} {H H' : Hp} (s : Same H H') : ∀ (t : Tr) (v : V), DV K H v t → DV K H' v t
  | .sc _, _, h => by
    cases h with
    | sc e => exact .sc e
  | .tup l, _, h => by
    cases h with
    | tup e d => exact .tup (e.same s) (DVs.ext s l _ d)
theorem DVs.ext {K : PySem.W.Frag} {H H' : Hp} (s : Same H H') : ∀ (l : List Tr) (xs : List V), DVs K H xs l → DVs K H' xs l
  | [], _, h => by
    cases h
    exact .nil
  | t :: l, _, h => by
    cases h with
    | cons d e => exact .cons (DV.ext s t _ d) (DVs.ext s l _ e)
end
theorem sz_pos (t : Tr) : 0 < t.sz := by
  cases t with
  | sc v => show 0 < 1; decide
  | tup l => show 0 < 1 + szs l; omega
theorem DVs.len {K : PySem.W.Frag} {H : Hp} : ∀ {xs : List V} {l : List Tr}, DVs K H xs l → xs.length = l.length ∧ xs.length ≤ szs l
  | _, _, .nil => ⟨rfl, Nat.le_refl _⟩
  | _, _, .cons (t := t) (l := l) d e => by
    have h := DVs.len e
    have p := sz_pos t
    refine ⟨by rw [List.length_cons, List.length_cons, h.1], ?_⟩
    show _ + 1 ≤ t.sz + szs l
    omega
theorem szs_app : ∀ (a b : List Tr), szs (a ++ b) = szs a + szs b
  | [], b => by show szs b = 0 + szs b; omega
  | t :: a, b => by
    show t.sz + szs (a ++ b) = t.sz + szs a + szs b
    rw [szs_app a b]
    omega
theorem DVs.app {K : PySem.W.Frag} {H : Hp} : ∀ {xs ys : List V} {l m : List Tr}, DVs K H xs l → DVs K H ys m → DVs K H (xs ++ ys) (l ++ m)
  | _, _, _, _, .nil, e => e
  | _, _, _, _, .cons d f, e => .cons d (DVs.app f e)
theorem DVs.last {K : PySem.W.Frag} {H : Hp} : ∀ {xs : List V} {l : List Tr} {y : V}, DVs K H xs l → xs[xs.length - 1]? = some y → ∃ m t, DVs K H xs.dropLast m ∧ DV K H y t ∧ szs l = szs m + t.sz
  | _, _, _, .nil, h => by simp at h
  | _, _, y, .cons (x := x) (xs := []) (t := t) d .nil, h => by
    have h : some x = some y := h
    cases h
    exact ⟨[], t, .nil, d, by show t.sz + 0 = 0 + t.sz; omega⟩
  | _, _, y, .cons (x := x) (xs := x2 :: xs) (t := t) (l := l) d e, h => by
    have h' : (x2 :: xs)[(x2 :: xs).length - 1]? = some y := h
    obtain ⟨m, t2, q1, q2, q3⟩ := DVs.last e h'
    exact ⟨t :: m, t2, .cons d q1, q2, by show t.sz + szs l = t.sz + szs m + t2.sz; omega⟩
theorem while_rel {c : TT} {tb : TS} {D : Ends} {σ : L2.St} {H : Hp} (W : Nat → L2.St → Hp → Prop) (h0 : ∃ m, W m σ H)
    (hs : ∀ m σ H, W m σ H → c σ H fun b H1 => if b = true then tb { D with nx := fun σ' H' => ∃ m', m' < m ∧ W m' σ' H', ct := fun σ' H' => ∃ m', m' < m ∧ W m' σ' H', bk := D.nx } σ H1 else D.nx σ H1)
    (mono : ∀ σ H Q Q', (∀ b H1, Q b H1 → Q' b H1) → c σ H Q → c σ H Q') : tWhile c tb D σ H := by
  refine ⟨W, h0, fun m σ H w => mono σ H _ _ (fun b H1 q => ?_) (hs m σ H w)⟩
  cases b with
  | true => exact ⟨_, fun σ' H' h => h, q⟩
  | false => exact q
/-- any value of a cell -/
def spIsValueD (K : PySem.W.Frag) : Sp := fun vs H Q _ => ∃ v t, vs = [v] ∧ DV K H v t ∧ t.sz < sizeLine ∧ ∀ H', Same H H' → Q (.bl true) H'
section
variable {P : Program} {w : World} {K : PySem.W.Frag} {mg : Str → Option Value} {base : Heap} {C M NV LE : Addr}
theorem go_isvalueD (F : GT K mg "is_value" sIsValue ["value"]) (T : Bn mg) : GO P w K mg base CX0 1 "is_value" ["value"] (spIsValueD K) := by
  obtain ⟨f, fd, F, hm, hb⟩ := F
  refine ⟨f, fd, ?_, hm, F.kp, hb⟩
  refine F.ok scIsValue (fun vs H Q E h => ?_) (fun cdv A outer s H vs Q E hr h => ?_)
  · obtain ⟨v, t, rfl, _⟩ := h
    rfl
  · obtain ⟨v, t, rfl, hd, hz, k⟩ := h
    refine ⟨_, pss_cons (ps_set (i := 1) scIsValue.nd rfl (Or.inl rfl) (pe_lst (pa_cons (pv 0) pa_nil)))
      (pss_cons (ps_while PassesOwn.never (pt_truth (pv 1) (by intro _; rfl))
        (pss_cons (ps_set (i := 2) scIsValue.nd rfl (Or.inl rfl) (pe_bm0 PySem.F.plainAttrs_list PySem.F.slot_list_pop PySem.F.type_list_pop mt_pop (pv 1)))
        (pss_one (ps_if (pt_val (pe_callB call_isi (by rfl) T.isi (by decide +kernel) (pa_cons (pv 2) (pa_cons (pe_bltn (v := .ty "tuple") (by rfl) T.tuple (by decide +kernel) rfl) pa_nil))))
          (pss_one (ps_expr (pe_bm PySem.F.plainAttrs_list PySem.F.slot_list_extend PySem.F.type_list_extend mt_extend (pv 1) (pa_cons (pe_callTy call_list_of (by rfl) T.list (by decide +kernel) (pa_cons (pv 2) pa_nil)) pa_nil))))
          (pss_one (ps_if (PW.pt (pw_and (pt_cmpR op_notN (pv 2) pe_non (nomark _)) (pw_and1 (pt_not (pt_val (pe_callB call_isiT (by rfl) T.isi (by decide +kernel) (pa_cons (pv 2) (pa_cons (pe_tup (pa_cons (pe_bltn (v := .ty "bool") (by rfl) T.bool (by decide +kernel) rfl)
            (pa_cons (pe_bltn (v := .ty "int") (by rfl) T.int (by decide +kernel) rfl) (pa_cons (pe_bltn (v := .ty "str") (by rfl) T.str (by decide +kernel) rfl) pa_nil)))) pa_nil))))))))
            (pss_one (ps_ret pe_bl)) pss_nil))))))
      (pss_one (ps_ret pe_bl))), ?_⟩
    refine ⟨_, rfl, (by show 1 ≤ sizeLine; decide), fun D hD => ?_⟩
    have s0 : Same H (upd H D (.lst [v])) := fun b o e => by rw [upd_ne (ne_of_none e hD)]; exact e
    dsimp only [gName, tSeq]
    refine while_rel (fun m σ H2 => Same H H2 ∧ ∃ (p : Option V) (xs : List V) (ts : List Tr), σ = [some v, some (.ref D), p] ∧ H2 D = some (.lst xs) ∧ DVs K H xs ts ∧ m = szs ts ∧ szs ts ≤ t.sz)
      ⟨_, s0, _, [v], [t], rfl, upd_same, .cons hd .nil, rfl, by show t.sz + 0 ≤ t.sz; omega⟩ ?_ ?_
    · rintro m σ H2 ⟨sm, p, xs, ts, rfl, hx, dv, rfl, hle⟩
      cases xs with
      | nil => exact ⟨_, rfl, false, .inl ⟨_, SqL.of hx, rfl⟩, iteF (k _ sm)⟩
      | cons x0 xr =>
        obtain ⟨y, hy⟩ : ∃ y, (x0 :: xr)[(x0 :: xr).length - 1]? = some y := ⟨_, List.getElem?_eq_getElem (by simp)⟩
        obtain ⟨ms, ty, q1, q2, q3⟩ := dv.last hy
        refine ⟨_, rfl, true, .inl ⟨_, SqL.of hx, rfl⟩, iteT ?_⟩
        refine ⟨_, rfl, .inl ⟨rfl, _, SqL.of hx⟩, D, _, y, rfl, rfl, hx, hy, ?_⟩
        have sp : ∀ {H3 : Hp} (l : List V), Same H H3 → Same H (upd H3 D (.lst l)) := fun {H3} l sm b o e => by rw [upd_ne (ne_of_none e hD)]; exact sm b o e
        have sm3 := sp (x0 :: xr).dropLast sm
        have pz := sz_pos ty
        generalize hH3 : upd H2 D (.lst (x0 :: xr).dropLast) = H3 at sm3 ⊢
        have hx3 : H3 D = some (.lst (x0 :: xr).dropLast) := by rw [← hH3]; exact upd_same
        cases q2 with
        | sc ht =>
          refine ⟨_, rfl, _, _, _, _, false, rfl, .ty "tuple", ty_of ht, kit_ty (notTup ht), _, rfl, iteF ?_⟩
          by_cases hn : y = .non
          · refine ⟨_, rfl, rfl, _, rfl, iteNS hn ?_⟩
            exact iteF ⟨_, by omega, sm3, _, _, ms, rfl, hx3, q1, rfl, by omega⟩
          · refine ⟨_, rfl, rfl, _, rfl, ?_⟩
            rw [decide_eq_false hn]
            refine iteT ⟨_, rfl, (by show 3 ≤ sizeLine; decide), fun q hq => ?_⟩
            have qD : D ≠ q := ne_of_none hx3 hq
            refine ⟨_, q, _, _, [.type "bool", .type "int", .type "str"], true, rfl, upd_same, .cons (.ty _) (.cons (.ty _) (.cons (.ty _) .nil)), ty_of ht, kit_ok ht hn K, _, rfl, iteF ?_⟩
            exact ⟨_, by omega, fun b o e => by rw [upd_ne (ne_of_none (sm3 b o e) hq)]; exact sm3 b o e, _, _, ms, rfl, by rw [upd_ne qD]; exact hx3, q1, rfl, by omega⟩
        | tup hq dl =>
          rename_i a ys l
          have ell := dl.len
          have em := q1.len
          have e3 : (Tr.tup l).sz = 1 + szs l := rfl
          refine ⟨_, rfl, _, _, _, _, true, rfl, .ty "tuple", tyT (hq.same sm3), kit_ty (by decide +kernel), _, rfl, iteT ?_⟩
          refine ⟨_, rfl, .inl ⟨rfl, _, SqL.of hx3⟩, _, rfl, a, ys, rfl, .inr (hq.same sm3), fun b hb => ?_⟩
          have bD : D ≠ b := ne_of_none hx3 hb
          have sb : Same H (upd H3 b (.lst ys)) := fun c o e => by rw [upd_ne (ne_of_none (sm3 c o e) hb)]; exact sm3 c o e
          refine ⟨D, b, _, ys, rfl, rfl, by rw [upd_ne bD]; exact hx3, upd_same, by omega, ?_⟩
          exact ⟨szs (ms ++ l), by rw [szs_app]; omega, sp _ sb, _, _, ms ++ l, rfl, upd_same, q1.app dl, rfl, by rw [szs_app]; omega⟩
    · rintro σ H2 Q1 Q2 imp ⟨x, e, kk, t, q⟩
      exact ⟨x, e, kk, t, imp _ _ q⟩
end
end Dk

set_option maxHeartbeats 4000000
/-! list(zip(a, b)) of two tuples: every pair is kept, so the zip makes a new one each time -/
namespace Lz
open PySem PySem.Spec PyProof.Rows L2
/-- a zip that has handed out the pair at T, which is still held -/
abbrev ZH (h : Heap) (z TI TO T : Addr) (b : Bool) : Prop :=
  h.get? z = some { cls := .type "zip", dict := none, data := .fields #[rawInt T, .bool b, .bool false, .ref TI, .ref TO], slots := #[] }
section
variable {prog : Program} {w : World} {A : Around} {E : Value → Shared → Prop} {s : Shared}
theorem alive {M : Model} {a : Addr} {o : Obj} {Q : Option Obj → Shared → Prop} (ho : s.heap.get? a = some o) (h : Q (some o) s) : wpAny M A (loadIfAlive a) Q E s := fun Γ p _ => by
  unfold loadIfAlive
  rw [Sem.wp_loadIfAlive, ho]
  exact h
theorem held {z TI TO T : Addr} {b : Bool} {o : Obj} {Q : Bool → Shared → Prop} (hz : ZH s.heap z TI TO T b) (hT : s.heap.get? T = some o)
    (h : ∀ h', ZH h' z TI TO T true → Heap.SameBut z s.heap h' → Q false { s with heap := h' }) : wpAny (model prog w) A (Builtin.SmallTypes.ownedTupleIsFree (.ref z)) Q E s := by
  unfold Builtin.SmallTypes.ownedTupleIsFree
  refine wpAny_bind (wpAny_field hz rfl (x := rawInt T) rfl ?_)
  show wpAny _ _ (loadIfAlive ((T : Int).toNat) >>= _) _ _ _
  rw [Int.toNat_natCast]
  refine wpAny_bind (alive hT ?_)
  show wpAny _ _ (field (.ref z) 1 >>= _) _ _ _
  refine wpAny_bind (wpAny_field hz rfl (x := .bool b) rfl ?_)
  cases b with
  | true =>
    show wpAny _ _ (pure false) _ _ _
    exact wpAny_pure (h s.heap hz ⟨rfl, fun _ _ => rfl⟩)
  | false =>
    show wpAny _ _ (setField (.ref z) 1 (.bool true) >>= fun _ => pure false) _ _ _
    refine wpAny_bind (wpAny_setField_rec hz (by simp) fun h1 hz1 hs1 => wpAny_pure (h h1 hz1 hs1))
/-- the next pair, while an elder one is held -/
theorem next {z TI TO T i1 i2 l1 l2 : Addr} {k1 k2 : Nat} {xs ys : Array Value} {x y : Value} {b : Bool} {o : Obj} {Q : Value → Shared → Prop} (D : ZipApart z TI TO i1 i2 l1 l2)
    (hz : ZH s.heap z TI TO T b) (hT : s.heap.get? T = some o) (hTI : IsPair s.heap TI (.ref i1) (.ref i2))
    (h1 : s.heap.IsTupleIter i1 l1 k1) (h2 : s.heap.IsTupleIter i2 l2 k2) (hl1 : s.heap.IsTuple l1 xs) (hl2 : s.heap.IsTuple l2 ys) (hx : xs[k1]? = some x) (hy : ys[k2]? = some y)
    (hQ : ∀ h', ZH h' z TI TO T true → h'.IsTupleIter i1 l1 (k1 + 1) → h'.IsTupleIter i2 l2 (k2 + 1) → IsPair h' s.heap.objs.size x y → h'.objs.size = s.heap.objs.size + 1 →
      (∀ c u, c ≠ z → c ≠ i1 → c ≠ i2 → s.heap.get? c = some u → h'.get? c = some u) → Q (.ref s.heap.objs.size) { s with heap := h' }) :
    wpAny (model prog w) A (Builtin.«zip.__next__» ⟨[.ref z], []⟩) (fun fin s' => ∃ v, fin = .done (.ret v) ∧ Q v s') E s := by
  show wpAny _ _ (field (.ref z) 2 >>= _) _ _ _
  refine wpAny_bind (wpAny_field hz rfl (x := .bool false) rfl ?_)
  show wpAny _ _ (field (.ref z) 3 >>= _) _ _ _
  refine wpAny_bind (wpAny_field hz rfl (x := .ref TI) rfl ?_)
  refine wpAny_bind (wpAny_seqItems hTI rfl ?_)
  show wpAny _ _ (Builtin.SmallTypes.ownedTupleIsFree (.ref z) >>= _) _ _ _
  refine wpAny_bind (held hz hT fun ha hza hsa => ?_)
  simp only [Bool.false_eq_true, if_false]
  have a1 := h1.extBut hsa.extBut D.i1z
  have a2 := h2.extBut hsa.extBut D.i2z
  have b1 := hl1.extBut hsa.extBut D.l1z
  have b2 := hl2.extBut hsa.extBut D.l2z
  refine wpAny_bind ?_
  simp only [List.forIn_toArray, List.forIn_cons, List.forIn_nil]
  refine wpAny_bind (wpAny_bind (wpAny_holding ?_))
  show wpAny _ _ (Builtin.SmallTypes.nextOf (.ref i1) >>= fun v => pure (some v)) _ _ _
  refine wpAny_bind (RZ.nextOf_tuple_item a1 b1 hx fun hb c1 sb => wpAny_pure ?_)
  refine wpAny_pure ?_
  refine wpAny_bind (wpAny_bind (wpAny_holding ?_))
  show wpAny _ _ (Builtin.SmallTypes.nextOf (.ref i2) >>= fun v => pure (some v)) _ _ _
  refine wpAny_bind (RZ.nextOf_tuple_item (a2.extBut sb.extBut D.i12.symm) (b2.extBut sb.extBut D.l2i1) hy fun hc c2 sc => wpAny_pure ?_)
  refine wpAny_pure ?_
  refine wpAny_pure ?_
  refine wpAny_bind (wpAny_newTuple ?_ (by show 2 ≤ sizeLine; decide))
  have sz : hc.objs.size = s.heap.objs.size := (sc.1.trans sb.1).trans hsa.1
  have up : ∀ {c : Addr} {u : Obj}, hc.get? c = some u → (hc.push { cls := .type "tuple", data := .seq [x, y].toArray }).get? c = some u := fun e => Heap.get?_push_of_some _ e
  refine wpAny_pure ⟨_, rfl, ?_⟩
  show Q (.ref hc.objs.size) _
  rw [sz]
  refine hQ _ (up (sc.extBut _ _ D.i2z.symm (sb.extBut _ _ D.i1z.symm hza))) ((c1.extBut sc.extBut D.i12).at fun u e => up e) (c2.at fun u e => up e) ?_ ?_ fun c u h1 h2 h3 e => up (sc.extBut _ _ h3 (sb.extBut _ _ h2 (hsa.extBut _ _ h1 e)))
  · rw [← sz]
    exact Heap.get?_push_size _ rfl
  · show (hc.push _).objs.size = _
    rw [Heap.size_push, sz]
/-- no pair is left -/
theorem last {z TI TO T i1 i2 l1 l2 : Addr} {k1 : Nat} {xs : Array Value} {b : Bool} {o : Obj} {Q : Fin → Shared → Prop} (hh : A.handled = none) (D : ZipApart z TI TO i1 i2 l1 l2)
    (hz : ZH s.heap z TI TO T b) (hT : s.heap.get? T = some o) (hTI : IsPair s.heap TI (.ref i1) (.ref i2)) (h1 : s.heap.IsTupleIter i1 l1 k1) (hl1 : s.heap.IsTuple l1 xs) (hx : xs[k1]? = none)
    (hE : ∀ h' e, (∀ c u, c ≠ z → c ≠ i1 → s.heap.get? c = some u → h'.get? c = some u) → (∃ u, h'.get? e = some u ∧ u.cls = .type "StopIteration") → E (.ref e) { s with heap := h' }) :
    wpAny (model prog w) A (Builtin.«zip.__next__» ⟨[.ref z], []⟩) Q E s := by
  show wpAny _ _ (field (.ref z) 2 >>= _) _ _ _
  refine wpAny_bind (wpAny_field hz rfl (x := .bool false) rfl ?_)
  show wpAny _ _ (field (.ref z) 3 >>= _) _ _ _
  refine wpAny_bind (wpAny_field hz rfl (x := .ref TI) rfl ?_)
  refine wpAny_bind (wpAny_seqItems hTI rfl ?_)
  show wpAny _ _ (Builtin.SmallTypes.ownedTupleIsFree (.ref z) >>= _) _ _ _
  refine wpAny_bind (held hz hT fun ha hza hsa => ?_)
  simp only [Bool.false_eq_true, if_false]
  refine wpAny_bind ?_
  simp only [List.forIn_toArray, List.forIn_cons, List.forIn_nil]
  refine wpAny_bind (wpAny_bind (wpAny_holding ?_))
  show wpAny _ _ (Builtin.SmallTypes.nextOf (.ref i1) >>= fun v => pure (some v)) _ _ _
  exact wpAny_bind (RZ.nextOf_tuple_end hh (h1.extBut hsa.extBut D.i1z) (hl1.extBut hsa.extBut D.l1z) hx fun h' e hk he => hE h' e (fun c u q1 q2 q => hk _ _ q2 (hsa.extBut _ _ q1 q)) he)
theorem pyNext_held {z TI TO T i1 i2 l1 l2 : Addr} {k1 k2 : Nat} {xs ys : Array Value} {x y : Value} {b : Bool} {o : Obj} {Q : Option Value → Shared → Prop} (D : ZipApart z TI TO i1 i2 l1 l2)
    (hz : ZH s.heap z TI TO T b) (hT : s.heap.get? T = some o) (hTI : IsPair s.heap TI (.ref i1) (.ref i2))
    (h1 : s.heap.IsTupleIter i1 l1 k1) (h2 : s.heap.IsTupleIter i2 l2 k2) (hl1 : s.heap.IsTuple l1 xs) (hl2 : s.heap.IsTuple l2 ys) (hx : xs[k1]? = some x) (hy : ys[k2]? = some y)
    (hQ : ∀ h', ZH h' z TI TO T true → h'.IsTupleIter i1 l1 (k1 + 1) → h'.IsTupleIter i2 l2 (k2 + 1) → IsPair h' s.heap.objs.size x y → h'.objs.size = s.heap.objs.size + 1 →
      (∀ c u, c ≠ z → c ≠ i1 → c ≠ i2 → s.heap.get? c = some u → h'.get? c = some u) → Q (some (.ref s.heap.objs.size)) { s with heap := h' }) :
    wpAny (model prog w) A (pyNext (.ref z)) Q E s := by
  have ty : s.TypeIs (.ref z) "zip" := ⟨_, hz, rfl⟩
  unfold pyNext
  exact wpAny_bind (wpAny_attempt (wpAny_callSpecial?_slot (name := Str.ofString "__next__") ty PySem.F.slot_zip_next (wpAny_call_entry PySem.F.slot_zip_next ty PySem.F.entry_zip_next
    (next D hz hT hTI h1 h2 hl1 hl2 hx hy fun h' q1 q2 q3 q4 q5 q6 => wpAny_pure (hQ h' q1 q2 q3 q4 q5 q6)) (PySem.F.args_zip_next_1 _))))
theorem pyNext_last {z TI TO T i1 i2 l1 l2 : Addr} {k1 : Nat} {xs : Array Value} {b : Bool} {o : Obj} {Q : Option Value → Shared → Prop} (hh : A.handled = none) (D : ZipApart z TI TO i1 i2 l1 l2)
    (hz : ZH s.heap z TI TO T b) (hT : s.heap.get? T = some o) (hTI : IsPair s.heap TI (.ref i1) (.ref i2)) (h1 : s.heap.IsTupleIter i1 l1 k1) (hl1 : s.heap.IsTuple l1 xs) (hx : xs[k1]? = none)
    (hQ : ∀ h', (∀ c u, c ≠ z → c ≠ i1 → s.heap.get? c = some u → h'.get? c = some u) → Q none { s with heap := h' }) : wpAny (model prog w) A (pyNext (.ref z)) Q E s := by
  have ty : s.TypeIs (.ref z) "zip" := ⟨_, hz, rfl⟩
  unfold pyNext
  refine wpAny_bind (wpAny_attempt (wpAny_callSpecial?_slot (name := Str.ofString "__next__") ty PySem.F.slot_zip_next (wpAny_call_entry PySem.F.slot_zip_next ty PySem.F.entry_zip_next
    (last hh D hz hT hTI h1 hl1 hx fun h' e hk he => ?_) (PySem.F.args_zip_next_1 _))))
  obtain ⟨u, hu, hcu⟩ := he
  exact wpAny_bind (wpAny_isInstance (T := "StopIteration") (b := true) ⟨u, hu, hcu⟩ isSubtype_stop (wpAny_pure (hQ _ hk)))
end
end Lz

set_option maxHeartbeats 4000000
/-! list(zip(a, b)) of two tuples of one length -/
namespace Lz
open PySem PySem.Spec PyProof.Rows L2
theorem zip_no_len : typeLookup (.type "zip") "__len__" = pure none := by rw [typeLookup_type, builtinLookup_eq_fast]; kernel_rfl
theorem zip_no_hint : typeLookup (.type "zip") "__length_hint__" = pure none := by rw [typeLookup_type, builtinLookup_eq_fast]; kernel_rfl
/-- the zip z at its i-th turn; S is the list that grows -/
def ZS (h : Heap) (S z TI TO i1 i2 a b : Addr) (i : Nat) : Prop := TO < h.objs.size ∧ IsPair h TI (.ref i1) (.ref i2) ∧ h.IsTupleIter i1 a i ∧ h.IsTupleIter i2 b i ∧
  ((IsZip h z TI TO .none ∧ ∃ x y, IsPair h TO x y) ∨ ∃ T o k, ZH h z TI TO T k ∧ h.get? T = some o ∧ T ≠ S)
section
variable {X : Cx} {pins : List (Addr × Obj)} {σ : L2.St} {H : Hp} {s : Shared} {A : Around} {E : Value → Shared → Prop}
theorem turn {S z TI TO i1 i2 a b : Addr} {i : Nat} {xs ys : List V} {x y : V} {Q : Option Value → Shared → Prop} (D : ZipApart z TI TO i1 i2 a b) (I : Inv X pins σ H s) (hf : ∀ c ∈ [z, TI, TO, i1, i2], FpOk X pins H c) (st : ZS s.heap S z TI TO i1 i2 a b i)
    (hS : S < s.heap.objs.size) (qx : SqT X.K H a xs) (qy : SqT X.K H b ys) (hx : xs[i]? = some x) (hy : ys[i]? = some y)
    (hQ : ∀ (T : Addr) (s' : Shared), H T = none → Inv X pins σ (upd H T (.tup [x, y])) s' → (∀ c ∈ [z, TI, TO, i1, i2], FpOk X pins (upd H T (.tup [x, y])) c) → ZS s'.heap S z TI TO i1 i2 a b (i + 1) → S < s'.heap.objs.size → Q (some (.ref T)) s') :
    wpAny (model X.prog X.w) A (pyNext (.ref z)) Q E s := by
  obtain ⟨its, rv, p, _⟩ := I.tuple qx
  obtain ⟨its2, rv2, p2, _⟩ := I.tuple qy
  obtain ⟨u, hu, ru⟩ := rv.get hx
  obtain ⟨u2, hu2, ru2⟩ := rv2.get hy
  obtain ⟨hO, hTI, h1, h2, hz⟩ := st
  have new : ∀ (h' : Heap), h'.get? s.heap.objs.size = some { cls := .type "tuple", data := .seq #[u, u2] } → ObjOk X.prog X.w (upd H s.heap.objs.size (.tup [x, y])) h' s.heap.objs.size (.tup [x, y]) := fun h' e =>
    ⟨by show 2 ≤ sizeLine; decide, [u, u2], .cons ru (.cons ru2 .nil), ⟨_, e, rfl, _, rfl⟩⟩
  have lt : ∀ c ∈ [z, TI, TO, i1, i2], H c = none ∧ (c < s.heap.objs.size → FpOk X pins (upd H s.heap.objs.size (.tup [x, y])) c) := fun c hc => by
    obtain ⟨e1, e2⟩ := hf c hc
    refine ⟨e1, fun hl => ⟨?_, e2⟩⟩
    rw [upd_ne (Nat.ne_of_lt hl)]
    exact e1
  have hn : H s.heap.objs.size = none := I.hok.fresh (Nat.le_refl _)
  have l1 : i1 < s.heap.objs.size := by obtain ⟨_, e, _⟩ := h1; exact Heap.lt_size e
  have l2 : i2 < s.heap.objs.size := by obtain ⟨_, e, _⟩ := h2; exact Heap.lt_size e
  have hzl : z < s.heap.objs.size := by
    rcases hz with ⟨e, _⟩ | ⟨_, _, _, e, _⟩
    · exact Heap.lt_size e
    · exact Heap.lt_size e
  have fp : ∀ c ∈ [z, TI, TO, i1, i2], FpOk X pins (upd H s.heap.objs.size (.tup [x, y])) c := fun c hc => by
    refine (lt c hc).2 ?_
    have e' : c = z ∨ c = TI ∨ c = TO ∨ c = i1 ∨ c = i2 := by simpa using hc
    rcases e' with e | e | e | e | e <;> rw [e]
    · exact hzl
    · exact Heap.lt_size hTI
    · exact hO
    · exact l1
    · exact l2
  have gr : ∀ {h' : Heap} {c : Addr}, h'.objs.size = s.heap.objs.size + 1 → c < s.heap.objs.size → c < h'.objs.size := fun {h' c} e q => by
    rw [e]
    exact Nat.lt_succ_of_lt q
  rcases hz with ⟨hz, x0, y0, hTO⟩ | ⟨T, o, k, hz, hT, hTS⟩
  · refine RZ.pyNext_zipT_item D hz hTI hTO h1 h2 p p2 (x := u) (y := u2) (by simpa using hu) (by simpa using hu2) fun h' z' TO' h1' h2' hT' hsz hk => ?_
    exact hQ _ _ hn (I.turnedNew (t' := s.toks) (ch := [z, TI, TO, i1, i2]) (fun c o hb q => hk c o (fun q' => hb (by simp [q'])) (fun q' => hb (by simp [q'])) (fun q' => hb (by simp [q'])) (fun q' => hb (by simp [q'])) q) hf (Nat.le_refl _) (new h' hT')) fp
      ⟨gr hsz hO, hk _ _ D.TIz D.TITO D.TIi1 D.TIi2 hTI, h1', h2', .inr ⟨_, _, _, z', hT', (Nat.ne_of_lt hS).symm⟩⟩ (gr hsz hS)
  · have Tz : T ≠ z ∧ T ≠ i1 ∧ T ≠ i2 ∨ ∃ o', s.heap.get? T = some o' := .inr ⟨o, hT⟩
    refine pyNext_held D hz hT hTI h1 h2 p p2 (x := u) (y := u2) (by simpa using hu) (by simpa using hu2) fun h' z' h1' h2' hT' hsz hk => ?_
    obtain ⟨o', ho'⟩ : ∃ o', h'.get? T = some o' := by
      by_cases e1 : T = z
      · rw [e1]
        exact ⟨_, z'⟩
      · by_cases e2 : T = i1
        · obtain ⟨o1, e, _⟩ := h1'
          rw [e2]
          exact ⟨o1, e⟩
        · by_cases e3 : T = i2
          · obtain ⟨o1, e, _⟩ := h2'
            rw [e3]
            exact ⟨o1, e⟩
          · exact ⟨o, hk _ _ e1 e2 e3 hT⟩
    exact hQ _ _ hn (I.turnedNew (t' := s.toks) (ch := [z, TI, TO, i1, i2]) (fun c o hb q => hk c o (fun q' => hb (by simp [q'])) (fun q' => hb (by simp [q'])) (fun q' => hb (by simp [q'])) q) hf (Nat.le_refl _) (new h' hT')) fp
      ⟨gr hsz hO, hk _ _ D.TIz D.TIi1 D.TIi2 hTI, h1', h2', .inr ⟨T, o', _, z', ho', hTS⟩⟩ (gr hsz hS)
/-- the zip has ended -/
theorem stop {S z TI TO i1 i2 a b : Addr} {i : Nat} {xs ys : List V} {Q : Option Value → Shared → Prop} (hh : A.handled = none) (D : ZipApart z TI TO i1 i2 a b) (I : Inv X pins σ H s) (hf : ∀ c ∈ [z, TI, TO, i1, i2], FpOk X pins H c) (st : ZS s.heap S z TI TO i1 i2 a b i)
    (qx : SqT X.K H a xs) (qy : SqT X.K H b ys) (hx : xs.length ≤ i) (hQ : ∀ s', Inv X pins σ H s' → Q none s') : wpAny (model X.prog X.w) A (pyNext (.ref z)) Q E s := by
  obtain ⟨its, rv, p, _⟩ := I.tuple qx
  obtain ⟨its2, rv2, p2, _⟩ := I.tuple qy
  have hl := rv.length
  have hn : its.toArray[i]? = none := by simp; omega
  obtain ⟨hO, hTI, h1, h2, ⟨hz, x0, y0, hTO⟩ | ⟨T, o, k, hz, hT, hTS⟩⟩ := st
  · exact RZ.pyNext_zipT_end hh D hz hTI hTO h1 h2 p p2 (.inl hn) fun h' hk => hQ _ (I.turnedL (t' := s.toks) (ch := [z, TI, TO, i1, i2]) (fun c o hb q => hk c o (fun q' => hb (by simp [q'])) (fun q' => hb (by simp [q'])) (fun q' => hb (by simp [q'])) (fun q' => hb (by simp [q'])) q) hf)
  · exact pyNext_last hh D hz hT hTI h1 p hn fun h' hk => hQ _ (I.turnedL (t' := s.toks) (ch := [z, TI, TO, i1, i2]) (fun c o hb q => hk c o (fun q' => hb (by simp [q'])) (fun q' => hb (by simp [q'])) q) hf)
end
end Lz

set_option maxHeartbeats 4000000
/-! list(zip(a, b)): the loop, the call -/
namespace Lz
open PySem PySem.Spec PyProof.Rows L2
def Prs (H0 H : Hp) (S : Addr) (qs : List Addr) (xs ys : List V) : Prop := ∀ (j : Nat) (q : Addr), qs[j]? = some q → H0 q = none ∧ q ≠ S ∧ ∃ x y, xs[j]? = some x ∧ ys[j]? = some y ∧ H q = some (.tup [x, y])
theorem ZS.upd {h : Heap} {S z TI TO i1 i2 a b : Addr} {i : Nat} {f : Obj → Obj} (st : ZS h S z TI TO i1 i2 a b i) (hz : z ≠ S) (hTI : TI ≠ S) (h1 : i1 ≠ S) (h2 : i2 ≠ S) (hTO : TO ≠ S) : ZS (h.update S f) S z TI TO i1 i2 a b i := by
  have o : ∀ {c : Addr} {u : Obj}, c ≠ S → h.get? c = some u → (h.update S f).get? c = some u := fun {c u} n e => (Heap.get?_update_other h f (Ne.symm n)).trans e
  obtain ⟨q1, q2, q3, q4, q5⟩ := st
  refine ⟨?_, o hTI q2, q3.at fun u e => o h1 e, q4.at fun u e => o h2 e, ?_⟩
  · rw [Heap.size_after_update]
    exact q1
  · rcases q5 with ⟨e1, x, y, e2⟩ | ⟨T, u, k, e1, e2, e3⟩
    · exact .inl ⟨o hz e1, x, y, o hTO e2⟩
    · exact .inr ⟨T, u, k, o hz e1, o e3 e2, e3⟩
section
variable {X : Cx} {pins : List (Addr × Obj)} {σ : L2.St}
theorem grow {A1 : Around} {Rs : Result → Shared → Prop} {S z TI TO i1 i2 a b : Addr} {xs ys : List V} {H0 : Hp} (hh : A1.in1.handled = none) (D : ZipApart z TI TO i1 i2 a b) (hl : xs.length = ys.length) (hz : xs.length < sizeLine) (h0 : H0 S = none) (qx : SqT X.K H0 a xs) (qy : SqT X.K H0 b ys)
    (done : ∀ (qs : List Addr) (H : Hp) (s : Shared), Inv X pins σ H s → H S = some (.lst (qs.map V.ref)) → qs.length = xs.length → Prs H0 H S qs xs ys → (∀ c o, H0 c = some o → H c = some o) → Rs (.ok (.ret .none)) s) :
    ∀ (m i : Nat) (qs : List Addr) (H : Hp) (s : Shared), i + m = xs.length → qs.length = i → Inv X pins σ H s → H S = some (.lst (qs.map V.ref)) → S < s.heap.objs.size → (∀ c ∈ [z, TI, TO, i1, i2], FpOk X pins H c) → ZS s.heap S z TI TO i1 i2 a b i →
      Prs H0 H S qs xs ys → (∀ c o, H0 c = some o → H c = some o) → codeAny (model X.prog X.w) A1 (.builtin "list.extend.loop" ⟨[.ref S, .ref z, .none], []⟩) Rs s
  | 0, i, qs, H, s, hi, hq, I, hS, lt, fp, st, pr, ex => by
    refine codeAny_builtin PySem.F.entry_extend_loop ?_
    rw [Around.under_plainId PySem.F.plain_extend_loop _]
    show wpAny _ A1.in1 (pyNext (.ref z) >>= _) _ _ s
    exact wpAny_bind (stop hh D I fp st (qx.ext ex) (qy.ext ex) (by omega) fun s' I' => wpAny_pure (done qs H s' I' hS (by omega) pr ex))
  | m + 1, i, qs, H, s, hi, hq, I, hS, lt, fp, st, pr, ex => by
    refine codeAny_builtin PySem.F.entry_extend_loop ?_
    rw [Around.under_plainId PySem.F.plain_extend_loop _]
    show wpAny _ A1.in1 (pyNext (.ref z) >>= _) _ _ s
    have hx : xs[i]? = some xs[i] := List.getElem?_eq_getElem (by omega)
    have hy : ys[i]? = some ys[i] := List.getElem?_eq_getElem (by omega)
    refine wpAny_bind (turn D I fp st lt (qx.ext ex) (qy.ext ex) hx hy fun T s' hT I' fp' st' lt' => ?_)
    show wpAny _ A1.in1 (updateSeq S (·.push (.ref T)) >>= _) _ _ _
    have ST : S ≠ T := ne_of_none hS hT
    have hS' : upd H T (.tup [xs[i], ys[i]]) S = some (.lst (qs.map V.ref)) := by rw [upd_ne ST]; exact hS
    obtain ⟨_, its, k, r2, hl2, e⟩ := I'.lstM hS'
    rw [List.length_map] at hl2
    have nS : ∀ c ∈ [z, TI, TO, i1, i2], c ≠ S := fun c hc q => by
      have := (fp' c hc).1
      rw [q, hS'] at this
      cases this
    refine wpAny_bind (wpAny_updateSeq e rfl (wpAny_pure ⟨plainId_quiet PySem.F.plain_extend_loop _, ?_⟩) (by rw [List.size_toArray]; omega) (by show (its.toArray.push (Value.ref T)).size ≤ sizeLine + 1; rw [Array.size_push, List.size_toArray]; omega))
    refine grow hh D hl hz h0 qx qy done m (i + 1) (qs ++ [T]) _ _ (by omega) (by rw [List.length_append, hq]; rfl) (I'.lset (its' := its ++ [.ref T]) (ys := (qs ++ [T]).map V.ref) (t' := s'.toks) hS' e (by simp) (by rw [List.map_append]; exact r2.append (.cons rfl .nil)) (by rw [List.length_map, List.length_append, List.length_singleton]; omega))
      upd_same (by show S < (s'.heap.update S _).objs.size; rw [Heap.size_after_update]; exact lt') (fun c hc => ?_) (st'.upd (nS _ (by simp)) (nS _ (by simp)) (nS _ (by simp)) (nS _ (by simp)) (nS _ (by simp))) (fun j q hj => ?_) fun c o hc => ?_
    · obtain ⟨e1, e2⟩ := fp' c hc
      exact ⟨by rw [upd_ne (nS c hc)]; exact e1, e2⟩
    · by_cases c : j < qs.length
      · rw [List.getElem?_append_left c] at hj
        obtain ⟨p1, p2, x, y, p3, p4, p5⟩ := pr j q hj
        refine ⟨p1, p2, x, y, p3, p4, ?_⟩
        rw [upd_ne p2, upd_ne (ne_of_none p5 hT)]
        exact p5
      · rw [List.getElem?_append_right (by omega)] at hj
        have hj1 : j - qs.length = 0 := by
          have := (List.getElem?_eq_some_iff.mp hj).1
          simp at this
          omega
        rw [hj1] at hj
        have hj2 : T = q := Option.some.inj hj
        subst hj2
        have hji : j = i := by omega
        subst hji
        refine ⟨?_, ST.symm, _, _, hx, hy, by rw [upd_ne ST.symm, upd_same]⟩
        cases e0 : H0 T with
        | none => rfl
        | some o =>
          rw [ex _ _ e0] at hT
          cases hT
    · have cS : c ≠ S := ne_of_none hc h0
      rw [upd_ne cS, upd_ne (ne_of_none (ex _ _ hc) hT)]
      exact ex _ _ hc
end
end Lz

set_option maxHeartbeats 4000000
/-! list(zip(a, b)): the rule -/
namespace Lz
open PySem PySem.Spec PyProof.Rows L2
section
variable {X : Cx} {pins : List (Addr × Obj)} {σ : L2.St} {H : Hp} {s : Shared}
theorem fresh_list {z TI TO i1 i2 a b : Addr} {xs ys : List V} {Q : VK} (hc : X.calm = true) (D : ZipApart z TI TO i1 i2 a b) (I : Inv X pins σ H s) (fp : ∀ c ∈ [z, TI, TO, i1, i2], FpOk X pins H c)
    (hz : IsZip s.heap z TI TO .none) (hTI : IsPair s.heap TI (.ref i1) (.ref i2)) (hTO : IsPair s.heap TO .none .none) (h1 : s.heap.IsTupleIter i1 a 0) (h2 : s.heap.IsTupleIter i2 b 0)
    (qx : SqT X.K H a xs) (qy : SqT X.K H b ys) (hl : xs.length = ys.length) (hlt : xs.length < sizeLine)
    (k : ∀ (S : Addr) (qs : List Addr) (H2 : Hp), H S = none → H2 S = some (.lst (qs.map V.ref)) → qs.length = xs.length → Prs H H2 S qs xs ys → (∀ c o, H c = some o → H2 c = some o) → Q (.ref S) H2) :
    wpAny (model X.prog X.w) X.A (call (.type "list") [.ref z]) (EP X pins σ Q) X.xe s := by
  refine callType_codes (Q₁ := fun obj s₁ => obj = .ref s.heap.objs.size ∧ s₁ = { s with heap := s.heap.push { cls := .type "list", data := .seq #[] } }) PySem.F.called_list (PySem.F.typeCall_list_1 _) PySem.F.entry_list_init (code_list_new _ ⟨rfl, rfl⟩) fun obj s₁ hob => ?_
  obtain ⟨rfl, rfl⟩ := hob
  have fr : H s.heap.objs.size = none := I.hok.fresh (Nat.le_refl _)
  have lS : ({ s with heap := s.heap.push { cls := .type "list", data := .seq #[] } } : Shared).heap.get? s.heap.objs.size = some { cls := .type "list", data := .seq #[] } := Heap.get?_push_size _ rfl
  refine ⟨⟨_, lS, rfl⟩, PySem.F.args_list_init_2 _ _, ?_⟩
  have J : Inv X pins σ (upd H s.heap.objs.size (.lst [])) { s with heap := s.heap.push { cls := .type "list", data := .seq #[] } } := I.lnew (its := []) (t' := s.toks) .nil (Nat.zero_le _)
  have zl := Heap.lt_size hz
  have tl := Heap.lt_size hTI
  have ol := Heap.lt_size hTO
  have il : i1 < s.heap.objs.size := by obtain ⟨_, e, _⟩ := h1; exact Heap.lt_size e
  have jl : i2 < s.heap.objs.size := by obtain ⟨_, e, _⟩ := h2; exact Heap.lt_size e
  have nS : ∀ c ∈ [z, TI, TO, i1, i2], c ≠ s.heap.objs.size := fun c hc => by
    have e' : c = z ∨ c = TI ∨ c = TO ∨ c = i1 ∨ c = i2 := by simpa using hc
    rcases e' with e | e | e | e | e <;> rw [e]
    · exact Nat.ne_of_lt zl
    · exact Nat.ne_of_lt tl
    · exact Nat.ne_of_lt ol
    · exact Nat.ne_of_lt il
    · exact Nat.ne_of_lt jl
  have up : ∀ {c : Addr} {u : Obj}, s.heap.get? c = some u → (s.heap.push { cls := .type "list", data := .seq #[] }).get? c = some u := fun e => Heap.get?_push_of_some _ e
  have st0 : ZS (s.heap.push { cls := .type "list", data := .seq #[] }) s.heap.objs.size z TI TO i1 i2 a b 0 :=
    ⟨by rw [Heap.size_push]; exact Nat.lt_succ_of_lt ol, up hTI, h1.at fun o e => up e, h2.at fun o e => up e, .inl ⟨up hz, _, _, up hTO⟩⟩
  generalize hSz : s.heap.objs.size = S at *
  have hh : X.A.in1.in1.handled = none := I.ok.hd hc
  show wpAny _ X.A.in1.in1 (do let old ← Builtin.List.listItems (.ref S); Builtin.List.listUpdate (.ref S) (fun _ => #[]); letGo old.toList.reverse; Builtin.List.listExtendWith (.ref S) (.ref z) .none) _ _ _
  have sz1 : S < (s.heap.push { cls := .type "list", data := .seq #[] }).objs.size := by
    rw [Heap.size_push, hSz]
    exact Nat.lt_succ_self S
  have zh := up hz
  generalize s.heap.push { cls := .type "list", data := .seq #[] } = hp at *
  refine wpAny_bind ?_
  unfold Builtin.List.listItems
  refine wpAny_bind (wpAny_seqItems lS rfl (wpAny_pure ?_))
  show wpAny _ _ (updateSeq S (fun _ => #[]) >>= fun _ => letGo (#[] : Array Value).toList.reverse >>= fun _ => Builtin.List.listExtendWith (.ref S) (.ref z) .none) _ _ _
  refine wpAny_bind (wpAny_updateSeq lS rfl ?_)
  have J1 := J.lset (f := fun _ => #[]) (its := []) (its' := []) (ys := []) (t' := s.toks) upd_same lS rfl .nil (Nat.zero_le _)
  rw [upd_upd] at J1
  have nz := nS z (by simp)
  have u1 := st0.upd (f := Obj.mapSeq (fun _ => (#[] : Array Value))) nz (nS _ (by simp)) (nS _ (by simp)) (nS _ (by simp)) (nS _ (by simp))
  have z1 : S < (hp.update S (Obj.mapSeq (fun _ => (#[] : Array Value)))).objs.size := by rw [Heap.size_after_update]; exact sz1
  have zz : IsZip (hp.update S (Obj.mapSeq (fun _ => (#[] : Array Value)))) z TI TO .none := (Heap.get?_update_other _ _ (Ne.symm nz)).trans zh
  generalize hp.update S (Obj.mapSeq (fun _ => (#[] : Array Value))) = hq at *
  refine wpAny_bind (wpAny_letGo ?_)
  unfold Builtin.List.listExtendWith
  have ty : ({ s with heap := hq } : Shared).TypeIs (.ref z) "zip" := ⟨_, zz, rfl⟩
  refine wpAny_bind (wpAny_typeOf ty ?_)
  have c1 : Builtin.List.listSameRef (.ref S) (.ref z) = false := by simp [Builtin.List.listSameRef, nz.symm]
  have c2 : (Value.type "zip" == Value.type "list") = false := by decide
  have c3 : (Value.type "zip" == Value.type "tuple") = false := by decide
  simp only [c1, c2, c3, Bool.or_false, Bool.false_eq_true, if_false]
  refine wpAny_bind (wpAny_pyIter_zip (s := { s with heap := hq }) zz ?_)
  refine wpAny_bind (wpAny_holding ?_)
  unfold Builtin.List.listLengthHint
  refine wpAny_bind (wpAny_specialOf ty zip_no_len ?_)
  show wpAny _ _ (specialOf (Value.ref z) (Str.ofString "__length_hint__") >>= _) _ _ _
  refine wpAny_bind (wpAny_specialOf ty zip_no_hint (wpAny_pure ?_))
  show wpAny _ _ (rule "list.extend.makes-room" >>= fun _ => Builtin.List.listTouch (.ref S) >>= fun _ => again (.builtin "list.extend.loop" ⟨[.ref S, .ref z, .none], []⟩)) _ _ _
  refine wpAny_bind (wpAny_rule (wpAny_bind ?_))
  show wpAny _ _ (updateSeq S (·.push .none) >>= fun _ => updateSeq S (·.pop)) _ _ _
  obtain ⟨_, its3, k3, r3, _, e3⟩ := J1.lstM upd_same
  cases r3
  refine wpAny_bind (wpAny_updateSeq e3 rfl ?_ (by show 0 ≤ sizeLine; exact Nat.zero_le _) (by show 1 ≤ sizeLine + 1; omega))
  have J2 := J1.lset (f := (·.push Value.none)) (its' := [Value.none]) (ys := [.non]) (t' := s.toks) upd_same e3 rfl (.cons rfl .nil) (by rw [List.length_singleton, sizeLine_eq]; decide)
  rw [upd_upd] at J2
  have u2 := u1.upd (f := Obj.mapSeq (·.push Value.none)) nz (nS _ (by simp)) (nS _ (by simp)) (nS _ (by simp)) (nS _ (by simp))
  have z2 : S < (hq.update S (Obj.mapSeq (·.push Value.none))).objs.size := by rw [Heap.size_after_update]; exact z1
  obtain ⟨_, its4, k4, r4, _, e4⟩ := J2.lstM upd_same
  obtain ⟨w4, rfl, _⟩ := r4.one
  refine wpAny_updateSeq e4 rfl ?_ (by show 1 ≤ sizeLine; rw [sizeLine_eq]; decide) (by show 0 ≤ sizeLine + 1; exact Nat.zero_le _)
  have J3 := J2.lset (f := (·.pop)) (its := [w4]) (its' := []) (ys := []) (t' := s.toks) upd_same e4 (by rfl) .nil (Nat.zero_le _)
  rw [upd_upd] at J3
  have u3 := u2.upd (f := Obj.mapSeq (·.pop)) nz (nS _ (by simp)) (nS _ (by simp)) (nS _ (by simp)) (nS _ (by simp))
  have z3 : S < ((hq.update S (Obj.mapSeq (·.push Value.none))).update S (Obj.mapSeq (·.pop))).objs.size := by rw [Heap.size_after_update]; exact z2
  refine wpAny_pure ⟨plainId_quiet PySem.F.plain_extend_loop _, ?_⟩
  exact grow (A1 := X.A.in1) hh D hl hlt fr qx qy (fun qs H' s' I' e1 e2 e3 e4 => ⟨rfl, .ref S, H', I', rfl, k S qs H' fr e1 e2 e3 e4⟩) xs.length 0 [] _ _ (by omega) rfl J3 upd_same z3
    (fun c hc => ⟨by rw [upd_ne (nS c hc)]; exact (fp c hc).1, (fp c hc).2⟩) u3 (fun j q hj => by simp at hj) fun c o e => by rw [upd_ne (ne_of_none e fr)]; exact e
def tLZ (K : PySem.W.Frag) (ta : TA) : TE := fun σ H Q => ta σ H fun vs H1 => ∃ (a b : Addr) (xs ys : List V), vs = [.ref a, .ref b] ∧ SqT K H1 a xs ∧ SqT K H1 b ys ∧ xs.length = ys.length ∧ xs.length < sizeLine ∧
  ∀ (S : Addr) (qs : List Addr) (H2 : Hp), H1 S = none → H2 S = some (.lst (qs.map V.ref)) → qs.length = xs.length → Prs H1 H2 S qs xs ys → (∀ c o, H1 c = some o → H2 c = some o) → Q (.ref S) H2
/-- list(zip(e, e2)) of two tuples of one length -/
theorem pe_listZip {e e2 : Expr} {ta : TA} {p p2 pos pos2 : Pos} (hc : X.calm = true) (hgl : Gl X "list") (hml : X.mg "list" = none) (hgz : Gl X "zip") (hmz : X.mg "zip" = none) (ha : PA X [e, e2] ta)
    (hs : starEach [e, e2] X.env = (false, eval e X.env) :: starEach [e2] X.env := by rfl) (hpl : (backTo pos2 (starEach [e2] X.env)).any (·.1) = false := by rfl)
    (he : starEach [.Call (.Name "zip" p2) [e, e2] [] pos2] X.env = (false, eval (.Call (.Name "zip" p2) [e, e2] [] pos2) X.env) :: starEach [] X.env := by rfl) :
    PE X (.Call (.Name "list" p) [.Call (.Name "zip" p2) [e, e2] [] pos2] [] pos) (tLZ X.K ta) := by
  refine ⟨fun pins s σ H Q I h => ?_⟩
  refine wpAny_Call_Name_kw (ld_blt I hgl hml PyProof.Rows.boot_list ?_)
  refine PyProof.Rows.callWith_type1 ?_ he rfl
  rw [he]
  show wpAny _ _ (spliced ((false, eval (.Call (.Name "zip" p2) [e, e2] [] pos2) X.env) :: backTo pos (starEach [] X.env))) _ _ s
  refine Calls.spliced_cons ?_
  refine Call_ (ld_blt I hgz hmz PyProof.Rows.boot_zip (PyProof.Rows.callWith_type1 (thn (ha.run pos2 pins s σ H _ I h) fun us s1 ⟨vs, H1, I1, r1, q1⟩ => ?_) hs hpl))
  obtain ⟨a, b, xs, ys, rfl, qx, qy, hl, hlt, k⟩ := q1
  obtain ⟨v1, v2, rfl, rr1, rr2⟩ := vals2 r1
  cases rr1
  cases rr2
  obtain ⟨its, rv, p1, _⟩ := I1.tuple qx
  obtain ⟨its2, rv2, p2, _⟩ := I1.tuple qy
  obtain ⟨o1, ho1, _⟩ := id p1
  obtain ⟨o2, ho2, _⟩ := id p2
  have fresh5 : ∀ c, c ∈ [s1.heap.objs.size + 4, s1.heap.objs.size + 2, s1.heap.objs.size + 3, s1.heap.objs.size, s1.heap.objs.size + 1] → FpOk X pins H1 c := fun c hcm => by
    have e' : c = s1.heap.objs.size + 4 ∨ c = s1.heap.objs.size + 2 ∨ c = s1.heap.objs.size + 3 ∨ c = s1.heap.objs.size ∨ c = s1.heap.objs.size + 1 := by simpa using hcm
    have hle : s1.heap.objs.size ≤ c := by
      rcases e' with q | q | q | q | q <;> rw [q]
      · exact Nat.le_add_right _ _
      · exact Nat.le_add_right _ _
      · exact Nat.le_add_right _ _
      · exact Nat.le_refl _
      · exact Nat.le_add_right _ _
    exact I1.fpOk hle (I1.hok.fresh hle)
  refine RZ.call_zipT (show s1.heap.IsTuple a its.toArray from p1) (show s1.heap.IsTuple b its2.toArray from p2) fun h' hz hTI hTO h1 h2 hsz hk => ?_
  refine Calls.spliced_nil ?_
  have I2 : Inv X pins σ H1 { s1 with heap := h' } := I1.kept (t' := s1.toks) hk
  exact fresh_list hc (PySem.W.ktu_apart s1.heap.objs.size a b (Heap.lt_size ho1) (Heap.lt_size ho2)) I2 fresh5 hz hTI hTO h1 h2 qx qy hl hlt k
end
end Lz

set_option maxHeartbeats 8000000
/-! is_same of nested tuples -/
namespace Dk
open PySem PySem.Spec PyProof.Rows L2
mutual
def Tr.data : Tr → PyData
  | .sc .non => .none
  | .sc (.bl b) => .bool b
  | .sc (.int i) => .int i
  | .sc (.str s) => .str s
  | .sc _ => .none
  | .tup l => .tuple (datas l)
def datas : List Tr → List PyData
  | [] => []
  | t :: l => t.data :: datas l
end
mutual
theorem DV.dp {K : PySem.W.Frag} {H : Hp} : ∀ (t : Tr) (v : V), DV K H v t → Dp K H v t.data
  | .sc v, _, h => by
    cases h with
    | sc e => cases v <;> cases e <;> constructor
  | .tup l, _, h => by
    cases h with
    | tup e d => exact .tup e (DVs.dp l _ d)
theorem DVs.dp {K : PySem.W.Frag} {H : Hp} : ∀ (l : List Tr) (xs : List V), DVs K H xs l → DpAll K H xs (datas l)
  | [], _, h => by
    cases h
    exact .nil
  | t :: l, _, h => by
    cases h with
    | cons d e => exact .cons (DV.dp t _ d) (DVs.dp l _ e)
end
def Tr.ok (t : Tr) : Prop := SeqAt.shaped t.data = true
theorem shaped_iff {d : PyData} : SeqAt.shaped d = true ↔ d.canLay0 = true ∧ d.depth ≤ 64 := by
  show (d.canLay0 && decide (d.depth ≤ 64)) = true ↔ _
  rw [Bool.and_eq_true, decide_eq_true_iff]
theorem oks : ∀ {l : List Tr}, PyData.canLayAll0 (datas l) = true → PyData.depthAll (datas l) ≤ 64 → ∀ t, t ∈ l → t.ok
  | [], _, _, t, h => by cases h
  | u :: l, h1, h2, t, h => by
    simp only [datas, PyData.canLayAll0, Bool.and_eq_true] at h1
    simp only [datas, PyData.depthAll] at h2
    rcases List.mem_cons.mp h with e | e
    · rw [e]
      exact shaped_iff.mpr ⟨h1.1, by omega⟩
    · exact oks h1.2 (by omega) t e
theorem ok_tup {l : List Tr} (h : (Tr.tup l).ok) : ∀ t, t ∈ l → t.ok := by
  obtain ⟨h1, h2⟩ := shaped_iff.mp h
  simp only [Tr.data, PyData.canLay0] at h1
  simp only [Tr.data, PyData.depth] at h2
  exact oks h1 (by omega)
theorem zip_all {l m : List Tr} : l.length = m.length → ((∀ p, p ∈ l.zip m → p.1 = p.2) ↔ l = m) := by
  induction l generalizing m with
  | nil =>
    intro h
    cases m with
    | nil => simp
    | cons t m => cases h
  | cons t l ih =>
    intro h
    cases m with
    | nil => cases h
    | cons u m =>
      have ih := ih (m := m) (by simpa using h)
      rw [List.zip_cons_cons]
      constructor
      · intro q
        have h1 : t = u := q (t, u) List.mem_cons_self
        rw [h1, ih.mp fun p hp => q p (List.mem_cons_of_mem _ hp)]
      · intro e
        injection e with e1 e2
        intro p hp
        rcases List.mem_cons.mp hp with z | z
        · rw [z]; exact e1
        · exact ih.mpr e2 p z
/-- what waits -/
def wt : List (Tr × Tr) → Nat
  | [] => 0
  | p :: l => p.1.sz + wt l
theorem wt_app : ∀ (a b : List (Tr × Tr)), wt (a ++ b) = wt a + wt b
  | [], b => by show wt b = 0 + wt b; omega
  | p :: a, b => by
    show p.1.sz + wt (a ++ b) = p.1.sz + wt a + wt b
    rw [wt_app a b]
    omega
theorem wt_zip : ∀ {l m : List Tr}, l.length = m.length → wt (l.zip m) = szs l
  | [], _, _ => by simp [wt, szs]
  | t :: l, [], h => by cases h
  | t :: l, u :: m, h => by
    show t.sz + wt (l.zip m) = t.sz + szs l
    rw [wt_zip (by simpa using h)]
theorem wt_len : ∀ (l : List (Tr × Tr)), l.length ≤ wt l
  | [] => Nat.le_refl _
  | p :: l => by
    have := wt_len l
    have := sz_pos p.1
    show l.length + 1 ≤ p.1.sz + wt l
    omega
def Tr.isT : Tr → Bool
  | .sc _ => false
  | .tup _ => true
theorem eqv_ne {K : PySem.W.Frag} {H : Hp} {a b : V} {t u : Tr} (ha : DV K H a t) (hb : DV K H b u) (h : ¬ (t.isT = true ∧ u.isT = true)) (hB : isB a = isB b) (ne : t ≠ u) : PyData.eqv t.data u.data = false := by
  cases ha with
  | sc e1 =>
    cases hb with
    | sc e2 =>
      cases a <;> cases e1 <;> cases b <;> cases e2 <;> first
        | exact absurd rfl ne
        | rfl
        | (exfalso; revert hB; simp [isB]; done)
        | (simp only [Tr.data, PyData.eqv]; rename_i p q; exact beq_eq_false_iff_ne.mpr fun z => ne (by rw [z]))
        | simp [Tr.data, PyData.eqv]
    | tup e2 d2 => cases a <;> cases e1 <;> simp [Tr.data, PyData.eqv]
  | tup e1 d1 =>
    cases hb with
    | sc e2 => cases b <;> cases e2 <;> simp [Tr.data, PyData.eqv]
    | tup e2 d2 => exact absurd ⟨rfl, rfl⟩ h
theorem isB_eq {K : PySem.W.Frag} {H : Hp} {a b : V} {t u : Tr} (ha : DV K H a t) (hb : DV K H b u) (e : t = u) : isB a = isB b := by
  subst e
  cases ha with
  | sc e1 =>
    cases hb with
    | sc e2 => rfl
  | tup e1 d1 =>
    cases hb with
    | tup e2 d2 => rfl
theorem ty_dv {K : PySem.W.Frag} {H : Hp} {a : V} {t : Tr} (h : DV K H a t) : ∃ ty, TyX K H a (.type ty) ∧ kitB ty "bool" = some (isB a) := by
  cases h with
  | sc e => exact ⟨_, ty_of e, kit_bool e⟩
  | tup e d => exact ⟨"tuple", tyT e, by show kitB "tuple" "bool" = some false; decide +kernel⟩
def PVs (K : PySem.W.Frag) (H H2 : Hp) (qs : List Addr) (ps : List (Tr × Tr)) : Prop := qs.length = ps.length ∧ ∀ (i : Nat) (q : Addr) (p : Tr × Tr), qs[i]? = some q → ps[i]? = some p → ∃ a b, H2 q = some (.tup [a, b]) ∧ DV K H a p.1 ∧ DV K H b p.2 ∧ p.1.ok ∧ p.2.ok
theorem PVs.keep {K : PySem.W.Frag} {H H2 H3 : Hp} {qs : List Addr} {ps : List (Tr × Tr)} (h : PVs K H H2 qs ps) (k : ∀ (q : Addr) (a b : V), H2 q = some (.tup [a, b]) → H3 q = some (.tup [a, b])) : PVs K H H3 qs ps :=
  ⟨h.1, fun i q p h1 h2 => let ⟨a, b, e1, e2⟩ := h.2 i q p h1 h2; ⟨a, b, k q a b e1, e2⟩⟩
theorem PVs.init {K : PySem.W.Frag} {H H2 : Hp} {qs : List Addr} {q : Addr} {ps : List (Tr × Tr)} {p : Tr × Tr} (h : PVs K H H2 (qs ++ [q]) (ps ++ [p])) : PVs K H H2 qs ps ∧ ∃ a b, H2 q = some (.tup [a, b]) ∧ DV K H a p.1 ∧ DV K H b p.2 ∧ p.1.ok ∧ p.2.ok := by
  obtain ⟨h1, h2⟩ := h
  have hl : qs.length = ps.length := by simpa using h1
  refine ⟨⟨hl, fun i q' p' e1 e2 => h2 i q' p' ?_ ?_⟩, h2 qs.length q p ?_ ?_⟩
  · rw [List.getElem?_append_left (List.getElem?_eq_some_iff.mp e1).1]; exact e1
  · rw [List.getElem?_append_left (List.getElem?_eq_some_iff.mp e2).1]; exact e2
  · simp
  · rw [hl]; simp
theorem PVs.app {K : PySem.W.Frag} {H H2 : Hp} {qs qt : List Addr} {ps pt : List (Tr × Tr)} (h : PVs K H H2 qs ps) (g : PVs K H H2 qt pt) : PVs K H H2 (qs ++ qt) (ps ++ pt) := by
  refine ⟨by rw [List.length_append, List.length_append, h.1, g.1], fun i q p e1 e2 => ?_⟩
  by_cases c : i < qs.length
  · rw [List.getElem?_append_left c] at e1
    rw [List.getElem?_append_left (by rw [← h.1]; exact c)] at e2
    exact h.2 i q p e1 e2
  · rw [List.getElem?_append_right (by omega)] at e1
    rw [List.getElem?_append_right (by rw [← h.1]; omega), ← h.1] at e2
    exact g.2 _ q p e1 e2
theorem DVs.get {K : PySem.W.Frag} {H : Hp} : ∀ {xs : List V} {l : List Tr} {i : Nat} {x : V} {t : Tr}, DVs K H xs l → xs[i]? = some x → l[i]? = some t → DV K H x t
  | _, _, _, _, _, .nil, h, _ => by simp at h
  | _, _, 0, _, _, .cons d e, h, g => by
    cases h
    cases g
    exact d
  | _, _, i + 1, _, _, .cons d e, h, g => DVs.get (i := i) e (by simpa using h) (by simpa using g)
def spIsSameD (K : PySem.W.Frag) : Sp := fun vs H Q _ => ∃ x y t u, vs = [x, y] ∧ DV K H x t ∧ DV K H y u ∧ t.ok ∧ u.ok ∧ t.sz < sizeLine ∧ ∀ (b : Bool) H', Same H H' → (b = true ↔ t = u) → Q (.bl b) H'
section
variable {P : Program} {w : World} {K : PySem.W.Frag} {mg : Str → Option Value} {base : Heap} {C M NV LE : Addr}
theorem go_issameD (F : GT K mg "is_same" sIsSame ["one", "other"]) (T : Bn mg) (zz : mg "zip" = none) : GO P w K mg base CX0 1 "is_same" ["one", "other"] (spIsSameD K) := by
  obtain ⟨f, fd, F, hm, hb⟩ := F
  refine ⟨f, fd, ?_, hm, F.kp, hb⟩
  refine F.ok scIsSame (fun vs H Q E h => ?_) (fun cdv A outer s H vs Q E hr h => ?_)
  · obtain ⟨x, y, t, u, rfl, _⟩ := h
    rfl
  · obtain ⟨x, y, t, u, rfl, hx, hy, ox, oy, hz, k⟩ := h
    refine ⟨_, pss_cons (ps_set (i := 2) scIsSame.nd rfl (Or.inl rfl) (pe_lst (pa_cons (pe_tup (pa_cons (pv 0) (pa_cons (pv 1) pa_nil))) pa_nil)))
      (pss_cons (ps_while PassesOwn.never (pt_truth (pv 2) (by intro _; rfl))
        (pss_cons (ps_asg (pe_bm0 PySem.F.plainAttrs_list PySem.F.slot_list_pop PySem.F.type_list_pop mt_pop (pv 2)) (pg_tup (by rfl) (pgs_cons (pg_name (i := 3) scIsSame.nd rfl (Or.inl rfl)) (pgs_cons (pg_name (i := 4) scIsSame.nd rfl (Or.inl rfl)) pgs_nil))))
        (pss_one (ps_if (PW.pt (pw_and (pt_val (pe_callB call_isi (by rfl) T.isi (by decide +kernel) (pa_cons (pv 3) (pa_cons (pe_bltn (v := .ty "tuple") (by rfl) T.tuple (by decide +kernel) rfl) pa_nil)))) (pw_and1 (pt_val (pe_callB call_isi (by rfl) T.isi (by decide +kernel) (pa_cons (pv 4) (pa_cons (pe_bltn (v := .ty "tuple") (by rfl) T.tuple (by decide +kernel) rfl) pa_nil)))))))
          (pss_cons (ps_if (pt_cmpR op_ne (pe_callB call_len_seq (by rfl) T.len PySem.boot_len (pa_cons (pv 3) pa_nil)) (pe_callB call_len_seq (by rfl) T.len PySem.boot_len (pa_cons (pv 4) pa_nil)) (nomark _)) (pss_one (ps_ret pe_bl)) pss_nil)
          (pss_one (ps_expr (pe_bm PySem.F.plainAttrs_list PySem.F.slot_list_extend PySem.F.type_list_extend mt_extend (pv 2) (pa_cons (Lz.pe_listZip rfl (by rfl) T.list (by rfl) zz (pa_cons (pv 3) (pa_cons (pv 4) pa_nil))) pa_nil)))))
          (pss_one (ps_if (PW.pt (pw_or (pt_cmpR op_ne (pe_callB call_isi (by rfl) T.isi (by decide +kernel) (pa_cons (pv 3) (pa_cons (pe_bltn (v := .ty "bool") (by rfl) T.bool (by decide +kernel) rfl) pa_nil))) (pe_callB call_isi (by rfl) T.isi (by decide +kernel) (pa_cons (pv 4) (pa_cons (pe_bltn (v := .ty "bool") (by rfl) T.bool (by decide +kernel) rfl) pa_nil))) (nomark _))
              (pw_or1 (pt_cmpR (op_neD hr.units) (pv 3) (pv 4) (nomark _)))))
            (pss_one (ps_ret pe_bl)) pss_nil))))))
      (pss_one (ps_ret pe_bl))), ?_⟩
    refine ⟨_, rfl, _, rfl, (by show 2 ≤ sizeLine; decide), fun p0 hp0 => ⟨(by show 1 ≤ sizeLine; decide), fun D hD => ?_⟩⟩
    have s1 : Same H (upd H p0 (.tup [x, y])) := fun b o e => by rw [upd_ne (ne_of_none e hp0)]; exact e
    have pD : p0 ≠ D := ne_of_none upd_same hD
    have nHD : H D = none := s1.free hD
    have sp : ∀ {H3 : Hp} (l : List V), Same H H3 → Same H (upd H3 D (.lst l)) := fun {H3} l sm b o e => by rw [upd_ne (ne_of_none e nHD)]; exact sm b o e
    dsimp only [gName, tSeq]
    refine while_rel (fun m σ H2 => Same H H2 ∧ ∃ (l r : Option V) (qs : List Addr) (ps : List (Tr × Tr)), σ = [some x, some y, some (.ref D), l, r] ∧ H2 D = some (.lst (qs.map V.ref)) ∧ PVs K H H2 qs ps ∧ m = wt ps ∧ wt ps ≤ t.sz ∧ ((∀ p, p ∈ ps → p.1 = p.2) ↔ t = u))
      ⟨_, sp _ s1, _, _, [p0], [(t, u)], rfl, upd_same, ⟨rfl, fun i q p h1 h2 => ?_⟩, rfl, by show t.sz + 0 ≤ t.sz; omega, by simp⟩ ?_ ?_
    · cases i with
      | zero =>
        cases h1
        cases h2
        exact ⟨x, y, by rw [upd_ne pD]; exact upd_same, hx, hy, ox, oy⟩
      | succ n => simp at h1
    · rintro m σ H2 ⟨sm, l, r, qs, ps, rfl, hD2, pv', rfl, hle, hiff⟩
      rcases List.eq_nil_or_concat qs with rfl | ⟨qi, q, rfl⟩
      · have e : ps = [] := List.eq_nil_of_length_eq_zero (by rw [← pv'.1]; rfl)
        subst e
        exact ⟨_, rfl, false, .inl ⟨_, SqL.of hD2, rfl⟩, iteF (k true _ sm ⟨fun _ => hiff.mp fun p hp => (by cases hp), fun _ => rfl⟩)⟩
      · rcases List.eq_nil_or_concat ps with rfl | ⟨pi, p, rfl⟩
        · have := pv'.1
          simp at this
        · rw [List.concat_eq_append] at pv' hD2
          rw [List.concat_eq_append] at pv' hle hiff ⊢
          obtain ⟨pvi, a, b, hq, da, db, oa, ob⟩ := pv'.init
          rw [List.map_append] at hD2
          have hw : wt (pi ++ [p]) = wt pi + p.1.sz := by rw [wt_app]; rfl
          have hpz := sz_pos p.1
          have hall : (∀ z, z ∈ pi ++ [p] → z.1 = z.2) ↔ (∀ z, z ∈ pi → z.1 = z.2) ∧ p.1 = p.2 := by
            constructor
            · exact fun h => ⟨fun z hz => h z (List.mem_append_left _ hz), h p (by simp)⟩
            · rintro ⟨h1, h2⟩ z hz
              rcases List.mem_append.mp hz with q | q
              · exact h1 z q
              · rw [List.mem_singleton.mp q]
                exact h2
          have hno : p.1 ≠ p.2 → ∀ H', Same H H' → Q (.bl false) H' := fun h H' s' => k false H' s' ⟨fun e => (by cases e), fun e => absurd (hall.mp (hiff.mpr e)).2 h⟩
          refine ⟨_, rfl, true, .inl ⟨_, SqL.of hD2, by simp⟩, iteT ?_⟩
          refine ⟨_, rfl, .inl ⟨rfl, _, SqL.of hD2⟩, D, _, .ref q, rfl, rfl, hD2, by simp, ?_⟩
          rw [show (qi.map V.ref ++ [q].map V.ref).dropLast = qi.map V.ref by simp]
          have sm3 := sp (qi.map V.ref) sm
          have kp : ∀ (z : Addr) (c d : V), H2 z = some (.tup [c, d]) → upd H2 D (.lst (qi.map V.ref)) z = some (.tup [c, d]) := fun z c d e => by rw [upd_ne (ne_of e hD2 (by intro w; cases w))]; exact e
          have pv3 := pvi.keep kp
          have hq3 := kp q a b hq
          have hD3 : upd H2 D (.lst (qi.map V.ref)) D = some (.lst (qi.map V.ref)) := upd_same
          generalize upd H2 D (.lst (qi.map V.ref)) = H3 at sm3 pv3 hq3 hD3 ⊢
          refine ⟨q, [a, b], rfl, SqT.of hq3, rfl, _, _, rfl, _, _, rfl, rfl, ?_⟩
          have da3 := DV.ext sm3 _ _ da
          have db3 := DV.ext sm3 _ _ db
          obtain ⟨tya, qa, ka⟩ := ty_dv (K := K) da3
          obtain ⟨tyb, qb, kb⟩ := ty_dv (K := K) db3
          obtain ⟨t1, t2⟩ := p
          dsimp only at da db da3 db3 oa ob hw hpz hno hall ka kb
          cases t1 with
          | sc v1 =>
            obtain ⟨ty1, h1⟩ : ∃ ty, vty a = some ty := by
              cases da with
              | sc e => exact ⟨_, e⟩
            refine ⟨_, rfl, _, _, _, _, false, rfl, .ty "tuple", ty_of h1, kit_ty (notTup h1), _, rfl, iteF (iteF ?_)⟩
            have nb : ¬ (Tr.isT (Tr.sc v1) = true ∧ Tr.isT t2 = true) := fun h => Bool.noConfusion h.1
            refine ⟨_, rfl, _, _, _, _, _, rfl, .ty "bool", qa, kit_ty ka, _, rfl, _, _, _, _, _, rfl, .ty "bool", qb, kit_ty kb, rfl, _, rfl, ?_⟩
            by_cases hbb : isB a = isB b
            · refine iteNS (congrArg V.bl hbb) ?_
              refine ⟨_, rfl, _, rfl, Tr.data (Tr.sc v1), Tr.data t2, DV.dp _ _ da3, DV.dp _ _ db3, oa, ob, _, rfl, ?_⟩
              by_cases e : (Tr.sc v1) = t2
              · have hev : PyData.eqv (Tr.data (Tr.sc v1)) (Tr.data t2) = true := by rw [← e]; exact SeqAt.eqv_refl _ (SeqAt.canLay_of_shaped oa)
                rw [hev]
                exact iteF ⟨wt pi, by omega, sm3, _, _, qi, pi, rfl, hD3, pv3, rfl, by omega, ⟨fun h => hiff.mp (hall.mpr ⟨h, e⟩), fun h => (hall.mp (hiff.mpr h)).1⟩⟩
              · rw [eqv_ne da db nb hbb e]
                exact iteT (hno e _ sm3)
            · refine iteNT (fun e => hbb (V.bl.inj e)) (iteT ?_)
              exact hno (fun e => hbb (isB_eq da db e)) _ sm3
          | tup l1 =>
            obtain ⟨a1, xs1, rfl, ha1, dl1⟩ : ∃ a1 xs1, a = .ref a1 ∧ SqT K H a1 xs1 ∧ DVs K H xs1 l1 := by
              cases da with
              | tup e d => exact ⟨_, _, rfl, e, d⟩
            cases t2 with
            | sc v2 =>
              obtain ⟨ty2, h2⟩ : ∃ ty, vty b = some ty := by
                cases db with
                | sc e => exact ⟨_, e⟩
              refine ⟨_, rfl, _, _, _, _, true, rfl, .ty "tuple", tyT (ha1.same sm3), kit_ty (by decide +kernel), _, rfl, iteT ⟨_, rfl, _, _, _, _, false, rfl, .ty "tuple", ty_of h2, kit_ty (notTup h2), _, rfl, iteF ?_⟩⟩
              have nb : ¬ (Tr.isT (Tr.tup l1) = true ∧ Tr.isT (Tr.sc v2) = true) := fun h => Bool.noConfusion h.2
              refine ⟨_, rfl, _, _, _, _, _, rfl, .ty "bool", qa, kit_ty ka, _, rfl, _, _, _, _, _, rfl, .ty "bool", qb, kit_ty kb, rfl, _, rfl, ?_⟩
              by_cases hbb : isB (V.ref a1) = isB b
              · refine iteNS (congrArg V.bl hbb) ?_
                refine ⟨_, rfl, _, rfl, Tr.data (Tr.tup l1), Tr.data (Tr.sc v2), DV.dp _ _ da3, DV.dp _ _ db3, oa, ob, _, rfl, ?_⟩
                by_cases e : (Tr.tup l1) = (Tr.sc v2)
                · have hev : PyData.eqv (Tr.data (Tr.tup l1)) (Tr.data (Tr.sc v2)) = true := by rw [← e]; exact SeqAt.eqv_refl _ (SeqAt.canLay_of_shaped oa)
                  rw [hev]
                  exact iteF ⟨wt pi, by omega, sm3, _, _, qi, pi, rfl, hD3, pv3, rfl, by omega, ⟨fun h => hiff.mp (hall.mpr ⟨h, e⟩), fun h => (hall.mp (hiff.mpr h)).1⟩⟩
                · rw [eqv_ne da db nb hbb e]
                  exact iteT (hno e _ sm3)
              · refine iteNT (fun e => hbb (V.bl.inj e)) (iteT ?_)
                exact hno (fun e => hbb (isB_eq da db e)) _ sm3
            | tup l2 =>
              obtain ⟨b1, xs2, rfl, hb1, dl2⟩ : ∃ b1 xs2, b = .ref b1 ∧ SqT K H b1 xs2 ∧ DVs K H xs2 l2 := by
                cases db with
                | tup e d => exact ⟨_, _, rfl, e, d⟩
              have L1 := dl1.len
              have L2 := dl2.len
              have e3 : (Tr.tup l1).sz = 1 + szs l1 := rfl
              have wl := wt_len pi
              have pl := pv3.1
              refine ⟨_, rfl, _, _, _, _, true, rfl, .ty "tuple", tyT (ha1.same sm3), kit_ty (by decide +kernel), _, rfl, iteT ⟨_, rfl, _, _, _, _, true, rfl, .ty "tuple", tyT (hb1.same sm3), kit_ty (by decide +kernel), _, rfl, iteT ?_⟩⟩
              refine ⟨_, rfl, a1, _, rfl, .inr ((ha1.same sm3)), _, rfl, b1, _, rfl, .inr ((hb1.same sm3)), rfl, _, rfl, ?_⟩
              by_cases hlen : xs1.length = xs2.length
              · refine iteNS (by rw [hlen]) ?_
                refine ⟨_, rfl, .inl ⟨rfl, _, SqL.of hD3⟩, _, rfl, _, rfl, a1, b1, xs1, xs2, rfl, (ha1.same sm3), (hb1.same sm3), hlen, by omega, fun S q2 H4 nS hS lq prs ex => ?_⟩
                refine ⟨D, S, _, _, rfl, rfl, ex _ _ hD3, hS, by rw [List.length_map, List.length_map]; omega, ?_⟩
                have hll : l1.length = l2.length := by omega
                have sm4 : Same H H4 := fun c o e => ex _ _ (sm3 c o e)
                have pz : PVs K H H4 q2 (l1.zip l2) := by
                  refine ⟨by rw [List.length_zip]; omega, fun i q p e1 e2 => ?_⟩
                  obtain ⟨g1, g2⟩ := List.getElem?_zip_eq_some.mp e2
                  obtain ⟨_, _, x1, y1, g3, g4, g5⟩ := prs i q e1
                  exact ⟨x1, y1, g5, dl1.get g3 g1, dl2.get g4 g2, ok_tup oa _ (List.mem_of_getElem? g1), ok_tup ob _ (List.mem_of_getElem? g2)⟩
                have pv4 := (pv3.keep fun z c d e => ex _ _ e).app pz
                have hw2 : wt (pi ++ l1.zip l2) = wt pi + szs l1 := by rw [wt_app, wt_zip hll]
                refine ⟨wt (pi ++ l1.zip l2), by omega, sp _ sm4, _, _, qi ++ q2, pi ++ l1.zip l2, rfl, by rw [upd_same, List.map_append], pv4.keep (fun z c d e => ?_), rfl, by omega, ?_⟩
                · rw [upd_ne (ne_of e (ex _ _ hD3) (by intro w; cases w))]
                  exact e
                · rw [← hiff, hall]
                  constructor
                  · intro h
                    exact ⟨fun z hz => h z (List.mem_append_left _ hz), congrArg Tr.tup ((zip_all hll).mp fun z hz => h z (List.mem_append_right _ hz))⟩
                  · rintro ⟨h1, h2⟩ z hz
                    rcases List.mem_append.mp hz with q | q
                    · exact h1 z q
                    · exact (zip_all hll).mpr (Tr.tup.inj h2) z q
              · refine iteNT (fun e => hlen (by have := V.int.inj e; omega)) ?_
                exact hno (fun e => hlen (by rw [L1.1, L2.1, Tr.tup.inj e])) _ sm3
    · rintro σ H2 Q1 Q2 imp ⟨x, e, kk, t, q⟩
      exact ⟨x, e, kk, t, imp _ _ q⟩
end
end Dk

set_option maxHeartbeats 4000000
/-! accesses: what they may be -/
namespace Dk
open PySem PySem.Spec PyProof.Rows L2
inductive Rq where
  | read (i : Nat)
  | write (i : Nat) (v : V)
  | swap (i : Nat) (o n : V)
  | decide (i : Nat) (x : Str)
  | flush (i : Nat)
  | fence
def Rq.vs : Rq → List V
  | .read i => [.str "read", .int (i : Int)]
  | .write i v => [.str "write", .int (i : Int), v]
  | .swap i o n => [.str "swap", .int (i : Int), o, n]
  | .decide i x => [.str "decide", .int (i : Int), .str x]
  | .flush i => [.str "flush", .int (i : Int)]
  | .fence => [.str "fence"]
/-- a value of a cell, of moderate size -/
structure Dvl (K : PySem.W.Frag) (H : Hp) (v : V) (t : Tr) : Prop where
  d : DV K H v t
  o : t.ok
  z : t.sz < 100000
theorem Dvl.same {K : PySem.W.Frag} {H H' : Hp} {v : V} {t : Tr} (h : Dvl K H v t) (s : Same H H') : Dvl K H' v t := ⟨DV.ext s _ _ h.d, h.o, h.z⟩
/-- tuples are kept -/
def ExT (H H' : Hp) : Prop := (∀ b xs, H b = some (.tup xs) → H' b = some (.tup xs)) ∧ ∀ b o xs, H b = some (.frz o (.tup xs)) → H' b = some (.frz o (.tup xs))
theorem ExT.of {H H' : Hp} (s : Same H H') : ExT H H' := ⟨fun _ _ e => s _ _ e, fun _ _ _ e => s _ _ e⟩
theorem ExT.trans {H H1 H2 : Hp} (h : ExT H H1) (k : ExT H1 H2) : ExT H H2 := ⟨fun _ _ e => k.1 _ _ (h.1 _ _ e), fun _ _ _ e => k.2 _ _ _ (h.2 _ _ _ e)⟩
theorem _root_.L2.SqT.extT {K : PySem.W.Frag} {H H' : Hp} {a : Addr} {xs : List V} (h : SqT K H a xs) (s : ExT H H') : SqT K H' a xs :=
  h.elim (fun h => .inl (h.elim (fun h => .inl (s.1 _ _ h)) fun ⟨o, h⟩ => .inr ⟨o, s.2 _ _ _ h⟩)) fun h => .inr h
mutual
theorem DV.extT {K : PySem.W.Frag} {H H' : Hp} (s : ExT H H') : ∀ (t : Tr) (v : V), DV K H v t → DV K H' v t
  | .sc _, _, h => by
    cases h with
    | sc e => exact .sc e
  | .tup l, _, h => by
    cases h with
    | tup e d => exact .tup (e.extT s) (DVs.extT s l _ d)
theorem DVs.extT {K : PySem.W.Frag} {H H' : Hp} (s : ExT H H') : ∀ (l : List Tr) (xs : List V), DVs K H xs l → DVs K H' xs l
  | [], _, h => by
    cases h
    exact .nil
  | t :: l, _, h => by
    cases h with
    | cons d e => exact .cons (DV.extT s t _ d) (DVs.extT s l _ e)
end
theorem Dvl.ext {K : PySem.W.Frag} {H H' : Hp} {v : V} {t : Tr} (h : Dvl K H v t) (s : ExT H H') : Dvl K H' v t := ⟨DV.extT s _ _ h.d, h.o, h.z⟩
theorem Dvl.int {K : PySem.W.Frag} {H : Hp} (i : Int) : Dvl K H (.int i) (.sc (.int i)) := ⟨.sc (t := "int") rfl, by show SeqAt.shaped (.int i) = true; rfl, by show 1 < 100000; decide⟩
theorem Dvl.non {K : PySem.W.Frag} {H : Hp} : Dvl K H .non (.sc .non) := ⟨.sc (t := "NoneType") rfl, by show SeqAt.shaped .none = true; rfl, by show 1 < 100000; decide⟩
def Rq.ok (t w r : Nat) : Rq → Prop
  | .read i => i < 1 + t + (t + w + r)
  | .write i _ => i < 1 + t + (t + w + r)
  | .swap i _ _ => i < 1 + t + (t + w + r)
  | .decide i _ => i < 1 + t + (t + w + r)
  | .flush i => 1 + t ≤ i ∧ i < 1 + t + (t + w + r)
  | .fence => True
/-- its values -/
def Rq.vals (K : PySem.W.Frag) (H : Hp) : Rq → Prop
  | .write _ v => ∃ t, Dvl K H v t
  | .swap _ o n => (∃ t, Dvl K H o t) ∧ ∃ t, Dvl K H n t
  | _ => True
theorem Rq.vals_same {K : PySem.W.Frag} {H H' : Hp} {rq : Rq} (h : rq.vals K H) (s : Same H H') : rq.vals K H' := by
  cases rq with
  | write i v => exact let ⟨t, h⟩ := h; ⟨t, h.same s⟩
  | swap i o n => exact let ⟨⟨t, h⟩, u, h2⟩ := h; ⟨⟨t, h.same s⟩, u, h2.same s⟩
  | _ => trivial
theorem mhit {kind : Str} {is : List Nat} {tb : TS} {tr : Addr → List V → TS} {a : Addr} {ys : List V} {D : Ends} {σ : L2.St} {H : Hp} (hlen : ys.length = is.length) (h : tb D (setAll σ is ys) H) : mCase kind is tb tr a (.str kind :: ys) D σ H := by
  unfold mCase
  rw [if_pos (by rw [List.length_cons, hlen])]
  exact ⟨kind, ys, rfl, by rw [if_pos rfl]; exact h⟩
theorem mmiss {kind z : Str} {is : List Nat} {tb : TS} {tr : Addr → List V → TS} {a : Addr} {ys : List V} {D : Ends} {σ : L2.St} {H : Hp} (hk : z ≠ kind) (h : tr a (.str z :: ys) D σ H) : mCase kind is tb tr a (.str z :: ys) D σ H := by
  unfold mCase
  split
  · exact ⟨z, ys, rfl, by rw [if_neg hk]; exact h⟩
  · exact h
def spHasT (C : Addr) : Sp := fun vs H Q _ => ∃ a t w r v ty, vs = [.ref a, v] ∧ vty v = some ty ∧ LayAt C H a t w r ∧ Q (.bl (inW 0 (t - 1) v)) H
def spIsAcc (K : PySem.W.Frag) (C : Addr) : Sp := fun vs H Q _ => ∃ (la q : Addr) (t w r : Nat) (rq : Rq), vs = [.ref la, .ref q] ∧ LayAt C H la t w r ∧ H q = some (.tup rq.vs) ∧ rq.ok t w r ∧ rq.vals K H ∧ ∀ H', Same H H' → Q (.bl true) H'
section
variable {P : Program} {w : World} {K : PySem.W.Frag} {mg : Str → Option Value} {base : Heap} {C M NV LE : Addr}
theorem scHasT : FnScope ["self", "thread"] ["self", "thread"] (defScope sHasT) := ⟨rfl, rfl, rfl, by decide +kernel, rfl, by decide +kernel, by decide +kernel⟩
theorem mo_hast (F : MT K C "has_thread" "Layout.has_thread" sHasT ["self", "thread"]) (T : LTxt K mg C) (GW : GO P w K mg base CX0 2 "is_within" ["value", "low", "high"] spWithin) : MO P w K mg base CX0 C 3 "has_thread" ["self", "thread"] (spHasT C) := by
  obtain ⟨f, fd, F, hm, hb⟩ := F
  refine ⟨f, fd, ?_, hm, hb⟩
  refine F.ok scHasT (fun vs H Q E h => ?_) (fun cdv A outer s H vs Q E hr h => ?_)
  · obtain ⟨a, t, w, r, v, ty, rfl, _⟩ := h
    rfl
  · obtain ⟨a, t, w, r, v, ty, rfl, hv, ⟨dx, h1⟩, k⟩ := h
    refine ⟨_, pss_one (ps_ret (pc_ GW hr (pa_cons (pv 1) (pa_cons pe_int (pa_cons (pe_op op_sub (pe_fld (pv 0) rfl) pe_int) pa_nil))))), ?_⟩
    exact ⟨_, rfl, _, rfl, a, C, dx, _, _, rfl, h1, T.cl, T.nT, rfl, _, _, rfl, rfl, v, ty, _, _, rfl, hv, k⟩
abbrev NA : List Str := ["layout", "request", "cell", "value", "old", "new", "word"]
theorem scIsAcc : FnScope NA ["layout", "request"] (defScope sIsAcc) := ⟨rfl, rfl, rfl, by decide +kernel, rfl, by decide +kernel, by decide +kernel⟩
theorem go_isacc (F : GT K mg "is_access" sIsAcc ["layout", "request"]) (T : LTxt K mg C) (GI : MO P w K mg base CX0 C 6 "is_cell" ["self", "cell"] (spLV C fun t w r v => .bl (inW 0 (cells t w r - 1) v)))
    (GL : MO P w K mg base CX0 C 7 "is_lasting" ["self", "cell"] (spLV C fun t w r v => .bl (lastB t w r v))) (GV : GO P w K mg base CX0 1 "is_value" ["value"] (spIsValueD K)) : GO P w K mg base CX0 8 "is_access" ["layout", "request"] (spIsAcc K C) := by
  obtain ⟨f, fd, F, hm, hb⟩ := F
  refine ⟨f, fd, ?_, hm, F.kp, hb⟩
  refine F.ok scIsAcc (fun vs H Q E h => ?_) (fun cdv A outer s H vs Q E hr h => ?_)
  · obtain ⟨la, q, t, w, r, rq, rfl, _⟩ := h
    rfl
  · obtain ⟨la, q, t, w, r, rq, rfl, L, hq, ok, vals, k⟩ := h
    obtain ⟨da, ha⟩ := id L
    have nd := scIsAcc.nd
    have hr6 : Room 6 _ := hr.mono (by decide)
    have hr1 : Room 1 _ := hr.mono (by decide)
    refine ⟨_, pss_cons (ps_if (pt_not (pt_val (pe_callB call_isi (by rfl) T.bn.isi (by decide +kernel) (pa_cons (pv 1) (pa_cons (pe_bltn (v := .ty "tuple") (by rfl) T.bn.tuple (by decide +kernel) rfl) pa_nil))))) (pss_one ps_never) pss_nil)
      (pss_cons (ps_match (pv 1)
        (pms_case (is := [2]) rfl nd (.cons rfl rfl .nil) (pss_one (ps_ret (pm_ GI T.cl hr6 (pv 0) (pa_cons (pv 2) pa_nil))))
        (pms_case (is := [2, 3]) rfl nd (.cons rfl rfl (.cons rfl rfl .nil)) (pss_one (ps_ret (pe_and (pm_ GI T.cl hr6 (pv 0) (pa_cons (pv 2) pa_nil)) (pe_one (pc_ GV hr1 (pa_cons (pv 3) pa_nil))))))
        (pms_case (is := [2, 4, 5]) rfl nd (.cons rfl rfl (.cons rfl rfl (.cons rfl rfl .nil))) (pss_one (ps_ret (pe_and (pm_ GI T.cl hr6 (pv 0) (pa_cons (pv 2) pa_nil)) (pe_and (pc_ GV hr1 (pa_cons (pv 4) pa_nil)) (pe_one (pc_ GV hr1 (pa_cons (pv 5) pa_nil)))))))
        (pms_case (is := [2, 6]) rfl nd (.cons rfl rfl (.cons rfl rfl .nil)) (pss_one (ps_ret (pe_and (pm_ GI T.cl hr6 (pv 0) (pa_cons (pv 2) pa_nil)) (pe_one (pe_callB call_isi (by rfl) T.bn.isi (by decide +kernel) (pa_cons (pv 6) (pa_cons (pe_bltn (v := .ty "str") (by rfl) T.bn.str (by decide +kernel) rfl) pa_nil)))))))
        (pms_case (is := [2]) rfl nd (.cons rfl rfl .nil) (pss_one (ps_ret (pm_ GL T.cl hr (pv 0) (pa_cons (pv 2) pa_nil))))
        (pms_case (is := []) rfl nd .nil (pss_one (ps_ret pe_bl)) pms_nil)))))))
      (pss_one (ps_ret pe_bl))), ?_⟩
    refine ⟨_, rfl, _, _, _, _, true, rfl, .ty "tuple", .base (.tup hq), kit_ty (by decide +kernel), _, rfl, iteF ?_⟩
    refine ⟨_, rfl, q, _, rfl, SqT.of hq, ?_⟩
    have cell : ∀ {i : Nat} {Q : VK}, i < 1 + t + (t + w + r) → Q (.bl true) H → Q (.bl (inW 0 (cells (t : Int) w r - 1) (.int (i : Int)))) H := fun {i Q} hi q => by
      rw [cells_n, inW_nat, decide_eq_true hi]
      exact q
    cases rq with
    | read i =>
      refine mhit rfl ?_
      exact ⟨_, rfl, la, da, _, rfl, ha, rfl, _, rfl, la, t, w, r, _, "int", rfl, rfl, L, cell ok (k _ (Same.refl H))⟩
    | write i v =>
      have ok : i < 1 + t + (t + w + r) := ok
      obtain ⟨tv, hv⟩ := vals
      have hsl : sizeLine = 16777216 := sizeLine_eq
      have hz := hv.z
      refine mmiss (by decide +kernel) (mhit rfl ?_)
      refine ⟨_, rfl, la, da, _, rfl, ha, rfl, _, rfl, la, t, w, r, _, "int", rfl, rfl, L, _, rfl, ?_⟩
      rw [cells_n, inW_nat, decide_eq_true ok]
      refine iteT ?_
      exact ⟨_, rfl, v, tv, rfl, hv.d, by omega, fun H' s => k H' s⟩
    | swap i o n =>
      have ok : i < 1 + t + (t + w + r) := ok
      obtain ⟨⟨to, ho⟩, tn, hn⟩ := vals
      have hsl : sizeLine = 16777216 := sizeLine_eq
      have hz := ho.z
      have hz2 := hn.z
      refine mmiss (by decide +kernel) (mmiss (by decide +kernel) (mhit rfl ?_))
      refine ⟨_, rfl, la, da, _, rfl, ha, rfl, _, rfl, la, t, w, r, _, "int", rfl, rfl, L, _, rfl, ?_⟩
      rw [cells_n, inW_nat, decide_eq_true ok]
      refine iteT ?_
      exact ⟨_, rfl, o, to, rfl, ho.d, by omega, fun H' s => ⟨_, rfl, iteT ⟨_, rfl, n, tn, rfl, (hn.same s).d, by omega, fun H2 s2 => k H2 (s.trans s2)⟩⟩⟩
    | decide i x =>
      have ok : i < 1 + t + (t + w + r) := ok
      refine mmiss (by decide +kernel) (mmiss (by decide +kernel) (mmiss (by decide +kernel) (mhit rfl ?_)))
      refine ⟨_, rfl, la, da, _, rfl, ha, rfl, _, rfl, la, t, w, r, _, "int", rfl, rfl, L, _, rfl, ?_⟩
      rw [cells_n, inW_nat, decide_eq_true ok]
      refine iteT ?_
      exact ⟨_, rfl, _, _, _, _, true, rfl, .ty "str", .base (.str _), kit_ty (by decide +kernel), k H (Same.refl H)⟩
    | flush i =>
      refine mmiss (by decide +kernel) (mmiss (by decide +kernel) (mmiss (by decide +kernel) (mmiss (by decide +kernel) (mhit rfl ?_))))
      refine ⟨_, rfl, la, da, _, rfl, ha, rfl, _, rfl, la, t, w, r, _, "int", rfl, rfl, L, ?_⟩
      have e : V.bl (lastB (t : Int) w r (.int (i : Int))) = .bl true := by rw [lastB_nat, decide_eq_true (p := 1 + t ≤ i ∧ i < 1 + t + (t + w + r)) ok]
      show Q (V.bl (lastB (t : Int) w r (.int (i : Int)))) H
      rw [e]
      exact k _ (Same.refl H)
    | fence =>
      refine mmiss (by decide +kernel) (mmiss (by decide +kernel) (mmiss (by decide +kernel) (mmiss (by decide +kernel) (mmiss (by decide +kernel) (mhit rfl ?_)))))
      exact k _ (Same.refl H)
end
end Dk

set_option maxHeartbeats 4000000
/-! what a memory holds, changed part by part -/
namespace Dk
open PySem PySem.Spec PyProof.Rows L2
theorem MemAt.same {C M : Addr} {H H' : Hp} {m : Addr} {t w r : Nat} {A : Adr} {S : MS} (D : MemAt C M H m t w r A S) (s1 : Same H H') : MemAt C M H' m t w r A S :=
  ⟨let ⟨x, hx⟩ := D.ob; ⟨x, s1 _ _ hx⟩, let ⟨x, hx⟩ := D.lay; ⟨x, s1 _ _ hx⟩, s1 _ _ D.ps, D.tr.same s1, s1 _ _ D.ld, s1 _ _ D.nl, D.nn, D.nd,
      fun j b hb => let ⟨ns, e1, e2⟩ := D.no j b hb; ⟨ns, e1, s1 _ _ e2⟩, s1 _ _ D.gl, D.d1, D.d2, D.d3, D.d4, D.d5⟩
/-- what stands outside of the memory stands still; what comes into it is new -/
structure Step (m : Addr) (n : Nat) (A : Adr) (H : Hp) (A' : Adr) (H' : Hp) : Prop where
  chg : ∀ b o, H b = some o → ¬ Foot m A n b → H' b = some o
  foot : ∀ b, Foot m A' n b → Foot m A n b ∨ H b = none
theorem Step.refl {m : Addr} {n : Nat} {A : Adr} {H : Hp} : Step m n A H A H := ⟨fun _ _ h _ => h, fun _ h => .inl h⟩
theorem Step.same {m : Addr} {n : Nat} {A : Adr} {H H' : Hp} (s : Same H H') : Step m n A H A H' := ⟨fun b o h _ => s b o h, fun _ h => .inl h⟩
theorem Step.up {m : Addr} {n : Nat} {A : Adr} {H : Hp} {b : Addr} {o : HO} (hb : Foot m A n b) : Step m n A H A (upd H b o) := ⟨fun c u e hc => by
    rw [upd_ne (fun q => hc (by rw [q]; exact hb))]
    exact e, fun _ h => .inl h⟩
theorem Step.trans {m : Addr} {n : Nat} {A A1 A2 : Adr} {H H1 H2 : Hp} (a : Step m n A H A1 H1) (b : Step m n A1 H1 A2 H2) : Step m n A H A2 H2 := by
  have keep : ∀ c o, H c = some o → ¬ Foot m A n c → ¬ Foot m A1 n c := fun c o e hc h => by
    rcases a.foot c h with q | q
    · exact hc q
    · rw [e] at q
      cases q
  refine ⟨fun c o e hc => b.chg c o (a.chg c o e hc) (keep c o e hc), fun c h => ?_⟩
  rcases b.foot c h with q | q
  · exact a.foot c q
  · by_cases hc : Foot m A n c
    · exact .inl hc
    · refine .inr ?_
      cases e : H c with
      | none => rfl
      | some o =>
        rw [a.chg c o e hc] at q
        cases q
/-- what is tracked outside stays so -/
theorem Step.out {m : Addr} {n : Nat} {A A1 : Adr} {H H1 : Hp} (a : Step m n A H A1 H1) {c : Addr} {o : HO} (e : H c = some o) (hc : ¬ Foot m A n c) : H1 c = some o ∧ ¬ Foot m A1 n c := by
  refine ⟨a.chg c o e hc, fun h => ?_⟩
  rcases a.foot c h with q | q
  · exact hc q
  · rw [e] at q
    cases q
def MS.withTr (S : MS) (tr : Nat → List V) : MS := ⟨S.count, S.ps, tr, S.lost, S.notes, S.log⟩
def MS.withPs (S : MS) (ps : List V) : MS := ⟨S.count, ps, S.tr, S.lost, S.notes, S.log⟩
def MS.withLost (S : MS) (l : Nat → Int) : MS := ⟨S.count, S.ps, S.tr, l, S.notes, S.log⟩
def MS.withNotes (S : MS) (n : List (List (Key × V))) : MS := ⟨S.count, S.ps, S.tr, S.lost, n, S.log⟩
def MS.withCount (S : MS) (c : Int) : MS := ⟨c, S.ps, S.tr, S.lost, S.notes, S.log⟩
def MS.withLog (S : MS) (l : List V) : MS := ⟨S.count, S.ps, S.tr, S.lost, S.notes, l⟩
section
variable {C M : Addr} {H : Hp} {m : Addr} {t w r : Nat} {A : Adr} {S : MS}
theorem MemAt.setTr (D : MemAt C M H m t w r A S) {j : Nat} (hj : j < t + w + r) (l : List V) : MemAt C M (upd H (A.tl j) (.lst l)) m t w r A (S.withTr (sett S.tr j l)) := by
  have hl := D.tr.l j hj
  obtain ⟨dx, ho⟩ := D.ob
  obtain ⟨da, hlay⟩ := D.lay
  obtain ⟨d1, d2, d3⟩ := D.d1 j hj
  refine ⟨⟨dx, ?_⟩, ⟨da, ?_⟩, ?_, ⟨?_, fun i hi => ?_, D.tr.inj⟩, ?_, ?_, D.nn, D.nd, fun i b hb => ?_, ?_, D.d1, D.d2, D.d3, D.d4, D.d5⟩
  · rw [upd_ne (ne_of ho hl (by intro z; cases z))]; exact ho
  · rw [upd_ne (ne_of hlay hl (by intro z; cases z))]; exact hlay
  · rw [upd_ne d1.symm]; exact D.ps
  · rw [upd_ne (ne_of D.tr.d hl (by intro z; cases z))]; exact D.tr.d
  · show upd H (A.tl j) (.lst l) (A.tl i) = some (.lst (sett S.tr j l i))
    by_cases c : i = j
    · rw [c, upd_same, sett_same]
    · rw [sett_ne c, upd_ne (fun e => c (D.tr.inj i j hi hj e))]; exact D.tr.l i hi
  · rw [upd_ne (ne_of D.ld hl (by intro z; cases z))]; exact D.ld
  · rw [upd_ne d3.symm]; exact D.nl
  · obtain ⟨ns, e1, e2⟩ := D.no i b hb
    exact ⟨ns, e1, by rw [upd_ne (ne_of e2 hl (by intro z; cases z))]; exact e2⟩
  · rw [upd_ne d2.symm]; exact D.gl
theorem MemAt.setPs (D : MemAt C M H m t w r A S) (l : List V) : MemAt C M (upd H A.pl (.lst l)) m t w r A (S.withPs l) := by
  have hl := D.ps
  obtain ⟨dx, ho⟩ := D.ob
  obtain ⟨da, hlay⟩ := D.lay
  refine ⟨⟨dx, ?_⟩, ⟨da, ?_⟩, upd_same, ⟨?_, fun i hi => ?_, D.tr.inj⟩, ?_, ?_, D.nn, D.nd, fun i b hb => ?_, ?_, D.d1, D.d2, D.d3, D.d4, D.d5⟩
  · rw [upd_ne (ne_of ho hl (by intro z; cases z))]; exact ho
  · rw [upd_ne (ne_of hlay hl (by intro z; cases z))]; exact hlay
  · rw [upd_ne (ne_of D.tr.d hl (by intro z; cases z))]; exact D.tr.d
  · rw [upd_ne (D.d1 i hi).1]; exact D.tr.l i hi
  · rw [upd_ne (ne_of D.ld hl (by intro z; cases z))]; exact D.ld
  · rw [upd_ne D.d2.2.1.symm]; exact D.nl
  · obtain ⟨ns, e1, e2⟩ := D.no i b hb
    exact ⟨ns, e1, by rw [upd_ne (ne_of e2 hl (by intro z; cases z))]; exact e2⟩
  · rw [upd_ne D.d2.1.symm]; exact D.gl
theorem MemAt.setLost (D : MemAt C M H m t w r A S) (lo : Nat → Int) : MemAt C M (upd H A.ld (.dK (kv ((1 + t : Nat) : Int) (t + w + r) fun j => .int (lo j)))) m t w r A (S.withLost lo) := by
  have hl := D.ld
  obtain ⟨dx, ho⟩ := D.ob
  obtain ⟨da, hlay⟩ := D.lay
  refine ⟨⟨dx, ?_⟩, ⟨da, ?_⟩, ?_, ⟨?_, fun i hi => ?_, D.tr.inj⟩, upd_same, ?_, D.nn, D.nd, fun i b hb => ?_, ?_, D.d1, D.d2, D.d3, D.d4, D.d5⟩
  · rw [upd_ne (ne_of ho hl (by intro z; cases z))]; exact ho
  · rw [upd_ne (ne_of hlay hl (by intro z; cases z))]; exact hlay
  · rw [upd_ne (ne_of D.ps hl (by intro z; cases z))]; exact D.ps
  · rw [upd_ne D.d3]; exact D.tr.d
  · rw [upd_ne (ne_of (D.tr.l i hi) hl (by intro z; cases z))]; exact D.tr.l i hi
  · rw [upd_ne (ne_of D.nl hl (by intro z; cases z))]; exact D.nl
  · obtain ⟨ns, e1, e2⟩ := D.no i b hb
    exact ⟨ns, e1, by rw [upd_ne (D.d4 b (List.mem_of_getElem? hb)).2]; exact e2⟩
  · rw [upd_ne (ne_of D.gl hl (by intro z; cases z))]; exact D.gl
theorem MemAt.setCount (D : MemAt C M H m t w r A S) (c : Int) (dx : Addr) : MemAt C M (upd H m (.ins M dx (mf A c))) m t w r A (S.withCount c) := by
  obtain ⟨dx', hl⟩ := D.ob
  obtain ⟨da, hlay⟩ := D.lay
  refine ⟨⟨dx, upd_same⟩, ⟨da, ?_⟩, ?_, ⟨?_, fun i hi => ?_, D.tr.inj⟩, ?_, ?_, D.nn, D.nd, fun i b hb => ?_, ?_, D.d1, D.d2, D.d3, D.d4, D.d5⟩
  · rw [upd_ne D.d5.symm]; exact hlay
  · rw [upd_ne (ne_of D.ps hl (by intro z; cases z))]; exact D.ps
  · rw [upd_ne (ne_of D.tr.d hl (by intro z; cases z))]; exact D.tr.d
  · rw [upd_ne (ne_of (D.tr.l i hi) hl (by intro z; cases z))]; exact D.tr.l i hi
  · rw [upd_ne (ne_of D.ld hl (by intro z; cases z))]; exact D.ld
  · rw [upd_ne (ne_of D.nl hl (by intro z; cases z))]; exact D.nl
  · obtain ⟨ns, e1, e2⟩ := D.no i b hb
    exact ⟨ns, e1, by rw [upd_ne (ne_of e2 hl (by intro z; cases z))]; exact e2⟩
  · rw [upd_ne (ne_of D.gl hl (by intro z; cases z))]; exact D.gl
theorem MemAt.setLog (D : MemAt C M H m t w r A S) (l : List V) : MemAt C M (upd H A.gl (.lst l)) m t w r A (S.withLog l) := by
  have hl := D.gl
  obtain ⟨dx, ho⟩ := D.ob
  obtain ⟨da, hlay⟩ := D.lay
  refine ⟨⟨dx, ?_⟩, ⟨da, ?_⟩, ?_, ⟨?_, fun i hi => ?_, D.tr.inj⟩, ?_, ?_, D.nn, D.nd, fun i b hb => ?_, upd_same, D.d1, D.d2, D.d3, D.d4, D.d5⟩
  · rw [upd_ne (ne_of ho hl (by intro z; cases z))]; exact ho
  · rw [upd_ne (ne_of hlay hl (by intro z; cases z))]; exact hlay
  · rw [upd_ne D.d2.1]; exact D.ps
  · rw [upd_ne (ne_of D.tr.d hl (by intro z; cases z))]; exact D.tr.d
  · rw [upd_ne (D.d1 i hi).2.1]; exact D.tr.l i hi
  · rw [upd_ne (ne_of D.ld hl (by intro z; cases z))]; exact D.ld
  · rw [upd_ne D.d2.2.2.symm]; exact D.nl
  · obtain ⟨ns, e1, e2⟩ := D.no i b hb
    exact ⟨ns, e1, by rw [upd_ne (ne_of e2 hl (by intro z; cases z))]; exact e2⟩
theorem MemAt.setNotes (D : MemAt C M H m t w r A S) {i : Nat} {b : Addr} (hb : A.na[i]? = some b) (ns : List (Key × V)) : MemAt C M (upd H b (.dK ns)) m t w r A (S.withNotes (S.notes.set i ns)) := by
  obtain ⟨ns0, n1, hl⟩ := D.no i b hb
  obtain ⟨dx, ho⟩ := D.ob
  obtain ⟨da, hlay⟩ := D.lay
  obtain ⟨d1, d2⟩ := D.d4 b (List.mem_of_getElem? hb)
  refine ⟨⟨dx, ?_⟩, ⟨da, ?_⟩, ?_, ⟨?_, fun k hk => ?_, D.tr.inj⟩, ?_, ?_, D.nn, D.nd, fun k c hc => ?_, ?_, D.d1, D.d2, D.d3, D.d4, D.d5⟩
  · rw [upd_ne (ne_of ho hl (by intro z; cases z))]; exact ho
  · rw [upd_ne (ne_of hlay hl (by intro z; cases z))]; exact hlay
  · rw [upd_ne (ne_of D.ps hl (by intro z; cases z))]; exact D.ps
  · rw [upd_ne d1.symm]; exact D.tr.d
  · rw [upd_ne (ne_of (D.tr.l k hk) hl (by intro z; cases z))]; exact D.tr.l k hk
  · rw [upd_ne d2.symm]; exact D.ld
  · rw [upd_ne (ne_of D.nl hl (by intro z; cases z))]; exact D.nl
  · by_cases e : k = i
    · subst e
      have ec : c = b := Option.some.inj (hc.symm.trans hb)
      subst ec
      refine ⟨ns, ?_, upd_same⟩
      show (S.notes.set k ns)[k]? = some ns
      exact List.getElem?_set_self (List.getElem?_eq_some_iff.mp n1).1
    · obtain ⟨ns', e1, e2⟩ := D.no k c hc
      refine ⟨ns', ?_, ?_⟩
      · show (S.notes.set i ns)[k]? = some ns'
        rw [List.getElem?_set_ne (fun z => e z.symm)]
        exact e1
      · rw [upd_ne (fun z => e (nd_ix D.nd hc (by rw [z]; exact hb)))]
        exact e2
  · rw [upd_ne (ne_of D.gl hl (by intro z; cases z))]; exact D.gl
/-- a thread's notes are a new dict -/
theorem MemAt.newNotes (D : MemAt C M H m t w r A S) {i : Nat} (hi : i < t) {H1 : Hp} {p : Addr} (s : Same H H1) (hp : H p = none) (h1 : H1 p = some (.dK [])) :
    MemAt C M (upd H1 A.nl (.lst ((A.na.set i p).map V.ref))) m t w r { A with na := A.na.set i p } (S.withNotes (S.notes.set i [])) := by
  have hl := s _ _ D.nl
  obtain ⟨dx, ho⟩ := D.ob
  obtain ⟨da, hlay⟩ := D.lay
  have pn : ∀ {b : Addr} {o : HO}, H b = some o → b ≠ p := fun {b o} e => ne_of_none e hp
  have hlen : i < A.na.length := by rw [D.nn]; exact hi
  have memP : ∀ b, b ∈ A.na.set i p → b = p ∨ b ∈ A.na := fun b hb => by
    rcases List.mem_or_eq_of_mem_set hb with q | q
    · exact .inr q
    · exact .inl q
  refine ⟨⟨dx, ?_⟩, ⟨da, ?_⟩, ?_, ⟨?_, fun k hk => ?_, D.tr.inj⟩, ?_, upd_same, ?_, ?_, fun k c hc => ?_, ?_, D.d1, D.d2, D.d3, fun b hb => ?_, D.d5⟩
  · rw [upd_ne (ne_of (s _ _ ho) hl (by intro z; cases z))]; exact s _ _ ho
  · rw [upd_ne (ne_of (s _ _ hlay) hl (by intro z; cases z))]; exact s _ _ hlay
  · rw [upd_ne D.d2.2.1]; exact s _ _ D.ps
  · rw [upd_ne (ne_of (s _ _ D.tr.d) hl (by intro z; cases z))]; exact s _ _ D.tr.d
  · rw [upd_ne (D.d1 k hk).2.2]; exact s _ _ (D.tr.l k hk)
  · rw [upd_ne (ne_of (s _ _ D.ld) hl (by intro z; cases z))]; exact s _ _ D.ld
  · show (A.na.set i p).length = t
    rw [List.length_set]
    exact D.nn
  · show (A.na.set i p).Nodup
    have np : p ∉ A.na := fun hm => by
      obtain ⟨k, hk⟩ := List.getElem?_of_mem hm
      obtain ⟨ns, _, e2⟩ := D.no k p hk
      rw [hp] at e2
      cases e2
    refine List.pairwise_iff_getElem.mpr fun x y hx hy hxy => ?_
    rw [List.length_set] at hx hy
    rw [List.getElem_set, List.getElem_set]
    by_cases c1 : i = x
    · rw [if_pos c1, if_neg (by omega)]
      exact fun e => np (by rw [e]; exact List.getElem_mem hy)
    · rw [if_neg c1]
      by_cases c2 : i = y
      · rw [if_pos c2]
        exact fun e => np (by rw [← e]; exact List.getElem_mem hx)
      · rw [if_neg c2]
        exact fun e => absurd ((List.getElem_inj D.nd).mp e) (by omega)
  · have hc : (A.na.set i p)[k]? = some c := hc
    by_cases e : k = i
    · subst e
      rw [List.getElem?_set_self hlen] at hc
      have ec : p = c := Option.some.inj hc
      subst ec
      obtain ⟨b0, hb0⟩ : ∃ b0, A.na[k]? = some b0 := ⟨A.na[k], List.getElem?_eq_getElem hlen⟩
      obtain ⟨ns0, n1, _⟩ := D.no k b0 hb0
      refine ⟨[], ?_, ?_⟩
      · show (S.notes.set k [])[k]? = some []
        exact List.getElem?_set_self (List.getElem?_eq_some_iff.mp n1).1
      · rw [upd_ne (pn D.nl).symm]
        exact h1
    · rw [List.getElem?_set_ne (fun z => e z.symm)] at hc
      obtain ⟨ns', e1, e2⟩ := D.no k c hc
      refine ⟨ns', ?_, ?_⟩
      · show (S.notes.set i [])[k]? = some ns'
        rw [List.getElem?_set_ne (fun z => e z.symm)]
        exact e1
      · rw [upd_ne (ne_of (s _ _ e2) hl (by intro z; cases z))]
        exact s _ _ e2
  · rw [upd_ne D.d2.2.2]; exact s _ _ D.gl
  · rcases memP b hb with e | e
    · rw [e]
      exact ⟨(pn D.tr.d).symm, (pn D.ld).symm⟩
    · exact D.d4 b e
end
end Dk

set_option maxHeartbeats 4000000
/-! a value is given, a trail is shortened -/
namespace Dk
open PySem PySem.Spec PyProof.Rows L2
abbrev sGive : Stmt := inClass (top 17) 10
abbrev sGiveIf : Stmt := inClass (top 17) 11
abbrev sFence : Stmt := inClass (top 17) 12
abbrev sShort : Stmt := inClass (top 17) 13
def MS.give (S : MS) (t i : Nat) (v : V) : MS := if i < 1 + t then S.withPs (S.ps.set i v) else S.withTr (sett S.tr (i - (1 + t)) (S.tr (i - (1 + t)) ++ [v]))
/-- by how much a trail of that length becomes shorter -/
def cutN (len : Nat) (k : Int) : Nat := min k.toNat (len - 1)
def setl (g : Nat → Int) (j : Nat) (v : Int) : Nat → Int := fun i => if i = j then v else g i
theorem setf_int (g : Nat → Int) (j : Nat) (x : Int) : setf (fun i => .int (g i)) j (.int x) = fun i => .int (setl g j x i) := by
  funext i
  unfold setf setl
  by_cases c : i = j
  · rw [if_pos c, if_pos c]
  · rw [if_neg c, if_neg c]
def MS.short (S : MS) (j : Nat) (k : Int) : MS := (S.withTr (sett S.tr j ((S.tr j).drop (cutN (S.tr j).length k)))).withLost (setl S.lost j (S.lost j + (cutN (S.tr j).length k : Nat)))
theorem many_eq {len : Nat} (hl : 0 < len) (k : Int) : (if (if (len : Int) - 1 < k then (len : Int) - 1 else k) > 0 then (if (len : Int) - 1 < k then (len : Int) - 1 else k) else 0) = ((cutN len k : Nat) : Int) := by
  unfold cutN
  by_cases c : (len : Int) - 1 < k
  · rw [if_pos c]
    split <;> omega
  · rw [if_neg c]
    split <;> omega
def spGive (C M : Addr) : Sp := fun vs H Q _ => ∃ (m : Addr) (t w r i : Nat) (A : Adr) (S : MS) (v : V), vs = [.ref m, .int (i : Int), v] ∧ MemAt C M H m t w r A S ∧ i < 1 + t + (t + w + r) ∧ (i < 1 + t → i < S.ps.length) ∧ (1 + t ≤ i → (S.tr (i - (1 + t))).length < sizeLine) ∧
  ∀ H', MemAt C M H' m t w r A (S.give t i v) → Step m (t + w + r) A H A H' → Q .non H'
def spShort (C M : Addr) : Sp := fun vs H Q _ => ∃ (m : Addr) (t w r j : Nat) (A : Adr) (S : MS) (k : Int), vs = [.ref m, .int ((1 + t + j : Nat) : Int), .int k] ∧ NOk t w r ∧ MemAt C M H m t w r A S ∧ j < t + w + r ∧ S.tr j ≠ [] ∧
  ∀ H', MemAt C M H' m t w r A (S.short j k) → Step m (t + w + r) A H A H' → Q .non H'
def spGiveIf (K : PySem.W.Frag) (C M : Addr) : Sp := fun vs H Q _ => ∃ (m : Addr) (t w r i : Nat) (A : Adr) (S : MS) (o v p : V) (tp to : Tr), vs = [.ref m, .int (i : Int), o, v] ∧ MemAt C M H m t w r A S ∧ i < 1 + t + (t + w + r) ∧ cellV S t i = some p ∧ Dvl K H p tp ∧ Dvl K H o to ∧ (i < 1 + t → i < S.ps.length) ∧ (1 + t ≤ i → (S.tr (i - (1 + t))).length < sizeLine) ∧
  (tp = to → ∀ H', MemAt C M H' m t w r A (S.give t i v) → Step m (t + w + r) A H A H' → Q (.bl true) H') ∧ (tp ≠ to → ∀ H', Same H H' → Q (.bl false) H')
section
variable {P : Program} {w : World} {K : PySem.W.Frag} {mg : Str → Option Value} {base : Heap} {C M NV LE : Addr}
theorem tr_get {H : Hp} {m : Addr} {t w r : Nat} {A : Adr} {S : MS} (D : MemAt C M H m t w r A S) {i : Nat} (h1 : 1 + t ≤ i) (h2 : i < 1 + t + (t + w + r)) : DGet H A.td (.int (i : Int)) (some (.ref (A.tl (i - (1 + t))))) := by
  have hj : i - (1 + t) < t + w + r := by omega
  have ei : ((1 + t : Nat) : Int) + ((i - (1 + t) : Nat) : Int) = (i : Int) := by omega
  have := DGet.k (k := (Sum.inl (i : Int) : Key)) D.tr.d
  rw [← ei, kv_val _ _ _ _ hj, ei] at this
  exact this
theorem scGive : FnScope ["self", "cell", "value"] ["self", "cell", "value"] (defScope sGive) := ⟨rfl, rfl, rfl, by decide +kernel, rfl, by decide +kernel, by decide +kernel⟩
theorem mo_give (F : MT K M "_give" "Memory._give" sGive ["self", "cell", "value"]) (T : LTxt K mg C) (TM : MTxt K M) (GL : MO P w K mg base CX0 C 7 "is_lasting" ["self", "cell"] (spLV C fun t w r v => .bl (lastB t w r v))) :
    MO P w K mg base CX0 M 8 "_give" ["self", "cell", "value"] (spGive C M) := by
  obtain ⟨f, fd, F, hm, hb⟩ := F
  refine ⟨f, fd, ?_, hm, hb⟩
  refine F.ok scGive (fun vs H Q E h => ?_) (fun cdv A outer s H vs Q E hr h => ?_)
  · obtain ⟨m, t, w, r, i, A, S, v, rfl, _⟩ := h
    rfl
  · obtain ⟨m, t, w, r, i, B, S, v, rfl, D, hi, hp, hs, k⟩ := h
    obtain ⟨dx, h1⟩ := D.ob
    obtain ⟨da, ha⟩ := D.lay
    have hu := hu_of hr
    refine ⟨_, pss_one (ps_if (pt_val (pm_ GL T.cl hr (pe_fld (pv 0) rfl) (pa_cons (pv 1) pa_nil)))
      (pss_one (ps_expr (pe_bm PySem.F.plainAttrs_list PySem.F.slot_list_append PySem.F.type_list_append mt_append (pe_dget hu (pe_fld (pv 0) rfl) (pv 1) (fun _ _ => rfl)) (pa_cons (pv 2) pa_nil))))
      (pss_one (ps_asg (pv 2) (pg_sub (pe_fld (pv 0) rfl) (pv 1) set_list)))), ?_⟩
    refine ⟨_, rfl, m, M, dx, _, _, rfl, h1, TM.cl, TM.nL, rfl, B.a, da, _, rfl, ha, rfl, _, rfl, B.a, t, w, r, _, "int", rfl, rfl, ⟨da, ha⟩, _, rfl, ?_⟩
    rw [lastB_nat]
    unfold MS.give at k
    by_cases c : i < 1 + t
    · rw [if_pos c] at k
      refine iteND (by omega) ?_
      have hx : ixN S.ps.length (i : Int) = some i := by
        unfold ixN
        have := hp c
        rw [if_pos (by omega), if_pos (by omega)]
        rfl
      exact ⟨_, rfl, _, rfl, m, M, dx, _, _, rfl, h1, TM.cl, TM.nP, rfl, _, rfl, B.pl, _, _, i, rfl, rfl, D.ps, hx, k _ (D.setPs _) (Step.up (.inr (.inl rfl)))⟩
    · rw [if_neg c] at k
      refine iteD ⟨by omega, hi⟩ ?_
      have hj : i - (1 + t) < t + w + r := by omega
      have hl := D.tr.l _ hj
      exact ⟨_, rfl, m, M, dx, _, _, rfl, h1, TM.cl, TM.nT, rfl, _, rfl, B.td, _, rfl, tr_get D (by omega) hi, .inl ⟨rfl, _, SqL.of hl⟩, _, rfl, _, _, _, rfl, rfl, hl, hs (by omega),
        k _ (D.setTr hj _) (Step.up (.inr (.inr (.inr (.inr (.inr (.inr (.inl ⟨_, hj, rfl⟩))))))))⟩
theorem scShort : FnScope ["self", "cell", "steps", "trail", "many"] ["self", "cell", "steps"] (defScope sShort) := ⟨rfl, rfl, rfl, by decide +kernel, rfl, by decide +kernel, by decide +kernel⟩
theorem mo_short (F : MT K M "_shorten" "Memory._shorten" sShort ["self", "cell", "steps"]) (T : LTxt K mg C) (TM : MTxt K M) (zx : mg "max" = none) (zn : mg "min" = none) : MO P w K mg base CX0 M 1 "_shorten" ["self", "cell", "steps"] (spShort C M) := by
  obtain ⟨f, fd, F, hm, hb⟩ := F
  refine ⟨f, fd, ?_, hm, hb⟩
  refine F.ok scShort (fun vs H Q E h => ?_) (fun cdv A outer s H vs Q E hr h => ?_)
  · obtain ⟨m, t, w, r, j, A, S, k, rfl, _⟩ := h
    rfl
  · obtain ⟨m, t, w, r, j, B, S, x, rfl, nok, D, hj, hne, k⟩ := h
    obtain ⟨dx, h1⟩ := D.ob
    have hu := hu_of hr
    have nd := scShort.nd
    refine ⟨_, pss_cons (ps_set (i := 3) nd rfl (Or.inl rfl) (pe_dget hu (pe_fld (pv 0) rfl) (pv 1) (fun _ _ => rfl)))
      (pss_cons (ps_set (i := 4) nd rfl (Or.inl rfl) (pe_callB (call_max2 rfl) (by rfl) zx (by decide +kernel) (pa_cons pe_int (pa_cons (pe_callB (call_min2 rfl) (by rfl) zn (by decide +kernel) (pa_cons (pv 2)
        (pa_cons (pe_op op_sub (pe_callB call_len_seq (by rfl) T.bn.len PySem.boot_len (pa_cons (pv 3) pa_nil)) pe_int) pa_nil))) pa_nil))))
      (pss_cons (ps_delSl (pv 3) po_none (po_some (pv 4)))
      (pss_one (ps_daug hu (pe_fld (pv 0) rfl) (pv 1) (pv 4) in_add (fun _ _ _ => rfl))))), ?_⟩
    have hl := D.tr.l j hj
    have hg : DGet H B.td (.int ((1 + t + j : Nat) : Int)) (some (.ref (B.tl j))) := by
      have := tr_get D (i := 1 + t + j) (by omega) (by omega)
      rw [show 1 + t + j - (1 + t) = j by omega] at this
      exact this
    have hpos : 0 < (S.tr j).length := List.length_pos_iff.mpr hne
    refine ⟨_, rfl, m, M, dx, _, _, rfl, h1, TM.cl, TM.nT, rfl, _, rfl, B.td, _, rfl, hg, ?_⟩
    refine ⟨_, rfl, _, rfl, B.tl j, _, rfl, .inl (SqL.of hl), _, _, rfl, rfl, _, _, rfl, _, _, rfl, ?_⟩
    rw [many_eq hpos x]
    have hc : cutN (S.tr j).length x ≤ (S.tr j).length := by unfold cutN; omega
    refine ⟨_, rfl, _, rfl, _, rfl, B.tl j, S.tr j, 0, cutN (S.tr j).length x, rfl, hl, bounds_head hc, Nat.zero_le _, ?_⟩
    rw [List.take_zero, List.nil_append]
    have D2 := D.setTr hj ((S.tr j).drop (cutN (S.tr j).length x))
    obtain ⟨dx2, h2⟩ := D2.ob
    have hg2 : DGet (upd H (B.tl j) (.lst ((S.tr j).drop (cutN (S.tr j).length x)))) B.ld (.int ((1 + t + j : Nat) : Int)) (some (.int (S.lost j))) := by
      have := DGet.k (k := (Sum.inl ((1 + t + j : Nat) : Int) : Key)) D2.ld
      rw [show ((1 + t + j : Nat) : Int) = ((1 + t : Nat) : Int) + (j : Int) by omega, kv_val _ _ _ _ hj, show ((1 + t : Nat) : Int) + (j : Int) = ((1 + t + j : Nat) : Int) by omega] at this
      exact this
    have hsl : sizeLine = 16777216 := sizeLine_eq
    refine ⟨_, rfl, m, M, dx2, _, _, rfl, h2, TM.cl, TM.nO, rfl, _, rfl, B.ld, _, rfl, hg2, _, rfl, _, _, rfl, rfl, _, DPut.k (k := Sum.inl _) D2.ld (by rw [kv_len]; have := nok.t3; have := nok.w4; have := nok.r200; omega), ?_⟩
    rw [show ((1 + t + j : Nat) : Int) = ((1 + t : Nat) : Int) + (j : Int) by omega, kv_put _ _ _ _ _ hj]
    have e3 : setf (fun j => .int (S.lost j)) j (.int (S.lost j + (cutN (S.tr j).length x : Nat))) = fun i => .int (setl S.lost j (S.lost j + (cutN (S.tr j).length x : Nat)) i) := setf_int _ _ _
    have e4 : (fun j => V.int ((S.withTr (sett S.tr j ((S.tr j).drop (cutN (S.tr j).length x)))).lost j)) = fun j => V.int (S.lost j) := rfl
    refine k _ ?_ ((Step.up (.inr (.inr (.inr (.inr (.inr (.inr (.inl ⟨_, hj, rfl⟩)))))))).trans (Step.up (.inr (.inr (.inr (.inl rfl))))))
    have D3 := D2.setLost (setl S.lost j (S.lost j + (cutN (S.tr j).length x : Nat)))
    rw [← e3] at D3
    exact D3
theorem scGiveIf : FnScope ["self", "cell", "old", "new"] ["self", "cell", "old", "new"] (defScope sGiveIf) := ⟨rfl, rfl, rfl, by decide +kernel, rfl, by decide +kernel, by decide +kernel⟩
theorem mo_giveif (F : MT K M "_give_if" "Memory._give_if" sGiveIf ["self", "cell", "old", "new"]) (T : LTxt K mg C) (TM : MTxt K M) (GS : GO P w K mg base CX0 1 "is_same" ["one", "other"] (spIsSameD K))
    (GP : MO P w K mg base CX0 M 8 "peek" ["self", "cell"] (spPeek C M)) (GG : MO P w K mg base CX0 M 8 "_give" ["self", "cell", "value"] (spGive C M)) : MO P w K mg base CX0 M 9 "_give_if" ["self", "cell", "old", "new"] (spGiveIf K C M) := by
  obtain ⟨f, fd, F, hm, hb⟩ := F
  refine ⟨f, fd, ?_, hm, hb⟩
  refine F.ok scGiveIf (fun vs H Q E h => ?_) (fun cdv A outer s H vs Q E hr h => ?_)
  · obtain ⟨m, t, w, r, i, A, S, o, v, p, tp, to, rfl, _⟩ := h
    rfl
  · obtain ⟨m, t, w, r, i, B, S, o, v, p, tp, to, rfl, D, hi, hv, fp, fo, hp, hs, k1, k2⟩ := h
    have hsl : sizeLine = 16777216 := sizeLine_eq
    have hzp := fp.z
    obtain ⟨dx, h1⟩ := D.ob
    refine ⟨_, pss_cons (ps_if (pt_not (pt_val (pc_ GS (hr.mono (by decide)) (pa_cons (pm_ GP TM.cl hr (pv 0) (pa_cons (pv 1) pa_nil)) (pa_cons (pv 2) pa_nil))))) (pss_one (ps_ret pe_bl)) pss_nil)
      (pss_cons (ps_expr (pm_ GG TM.cl hr (pv 0) (pa_cons (pv 1) (pa_cons (pv 3) pa_nil)))) (pss_one (ps_ret pe_bl))), ?_⟩
    refine ⟨_, rfl, m, dx, _, rfl, h1, rfl, _, rfl, m, t, w, r, i, B, S, p, rfl, D, hi, hv, _, rfl, p, o, tp, to, rfl, fp.d, fo.d, fp.o, fo.o, by omega, fun bb H1 s1 hbb => ⟨_, rfl, ?_⟩⟩
    cases bb with
    | true =>
      refine iteF ?_
      have D1 := D.same s1
      obtain ⟨dx1, h2⟩ := D1.ob
      exact ⟨_, rfl, m, dx1, _, rfl, h2, rfl, _, rfl, _, rfl, m, t, w, r, i, B, S, v, rfl, D1, hi, hp, hs, fun H2 D2 s2 => k1 (hbb.mp rfl) H2 D2 ((Step.same s1).trans s2)⟩
    | false => exact iteT (k2 (fun e => absurd (hbb.mpr e) (by decide)) H1 s1)
end
end Dk

set_option maxHeartbeats 4000000
/-! a fence -/
namespace Dk
open PySem PySem.Spec PyProof.Rows L2
/-- the notes of a thread: index of the lasting cell, place -/
def nkv (t : Nat) (l : List (Nat × Int)) : List (Key × V) := l.map fun p => ((Sum.inl ((1 + t + p.1 : Nat) : Int) : Key), V.int p.2)
def fenceS (S : MS) (l : List (Nat × Int)) : MS := l.foldl (fun S p => S.short p.1 (p.2 - S.lost p.1)) S
theorem fenceS_take {S : MS} {l : List (Nat × Int)} {i : Nat} {p : Nat × Int} (h : l[i]? = some p) : fenceS S (l.take (i + 1)) = (fenceS S (l.take i)).short p.1 (p.2 - (fenceS S (l.take i)).lost p.1) := by
  have hi : i < l.length := (List.getElem?_eq_some_iff.mp h).1
  have e : l.take (i + 1) = l.take i ++ [p] := by
    rw [List.take_succ, h]
    rfl
  unfold fenceS
  rw [e, List.foldl_append]
  rfl
theorem short_ne {S : MS} {j : Nat} {k : Int} {n : Nat} (h : ∀ i, i < n → S.tr i ≠ []) : ∀ i, i < n → (S.short j k).tr i ≠ [] := fun i hi => by
  show sett S.tr j ((S.tr j).drop (cutN (S.tr j).length k)) i ≠ []
  by_cases c : i = j
  · subst c
    rw [sett_same]
    have h1 := h i hi
    have h2 : 0 < (S.tr i).length := List.length_pos_iff.mpr h1
    refine List.length_pos_iff.mp ?_
    rw [List.length_drop]
    unfold cutN
    omega
  · rw [sett_ne c]
    exact h i hi
theorem fence_ne {n : Nat} : ∀ {l : List (Nat × Int)} {S : MS}, (∀ i, i < n → S.tr i ≠ []) → ∀ i, i < n → (fenceS S l).tr i ≠ []
  | [], _, h => h
  | p :: l, S, h => fence_ne (l := l) (S := S.short p.1 (p.2 - S.lost p.1)) (short_ne h)
/-- an object outside of the memory changes -/
theorem MemAt.outer {C M : Addr} {H H' : Hp} {m b : Addr} {t w r : Nat} {A : Adr} {S : MS} (D : MemAt C M H m t w r A S) (k : ∀ c o, H c = some o → c ≠ b → H' c = some o) (hb : ¬ Foot m A (t + w + r) b) (ha : b ≠ A.a) : MemAt C M H' m t w r A S := by
  have f : ∀ {c : Addr} {o : HO}, H c = some o → Foot m A (t + w + r) c → H' c = some o := fun {c o} e h => k c o e fun q => hb (by rw [← q]; exact h)
  obtain ⟨dx, ho⟩ := D.ob
  obtain ⟨da, hlay⟩ := D.lay
  exact ⟨⟨dx, f ho (.inl rfl)⟩, ⟨da, k _ _ hlay ha.symm⟩, f D.ps (.inr (.inl rfl)), ⟨f D.tr.d (.inr (.inr (.inl rfl))), fun j hj => f (D.tr.l j hj) (.inr (.inr (.inr (.inr (.inr (.inr (.inl ⟨j, hj, rfl⟩))))))), D.tr.inj⟩, f D.ld (.inr (.inr (.inr (.inl rfl)))),
    f D.nl (.inr (.inr (.inr (.inr (.inl rfl))))), D.nn, D.nd, fun i c hc => let ⟨ns, e1, e2⟩ := D.no i c hc; ⟨ns, e1, f e2 (.inr (.inr (.inr (.inr (.inr (.inr (.inr (List.mem_of_getElem? hc))))))))⟩, f D.gl (.inr (.inr (.inr (.inr (.inr (.inl rfl)))))), D.d1, D.d2, D.d3, D.d4, D.d5⟩
def spFence (C M : Addr) : Sp := fun vs H Q _ => ∃ (m : Addr) (t w r th : Nat) (A : Adr) (S : MS) (l : List (Nat × Int)), vs = [.ref m, .int (th : Int)] ∧ NOk t w r ∧ MemAt C M H m t w r A S ∧ th < t ∧ S.notes[th]? = some (nkv t l) ∧ (∀ p, p ∈ l → p.1 < t + w + r) ∧ (∀ j, j < t + w + r → S.tr j ≠ []) ∧
  ∀ (A' : Adr) (H' : Hp), A'.a = A.a → MemAt C M H' m t w r A' (fenceS (S.withNotes (S.notes.set th [])) l) → Step m (t + w + r) A H A' H' → Q .non H'
section
variable {P : Program} {w : World} {K : PySem.W.Frag} {mg : Str → Option Value} {base : Heap} {C M NV LE : Addr}
theorem scFence : FnScope ["self", "thread", "notes", "cell", "place"] ["self", "thread"] (defScope sFence) := ⟨rfl, rfl, rfl, by decide +kernel, rfl, by decide +kernel, by decide +kernel⟩
theorem mo_fence (F : MT K M "_fence" "Memory._fence" sFence ["self", "thread"]) (TM : MTxt K M) (GS : MO P w K mg base CX0 M 1 "_shorten" ["self", "cell", "steps"] (spShort C M)) : MO P w K mg base CX0 M 2 "_fence" ["self", "thread"] (spFence C M) := by
  obtain ⟨f, fd, F, hm, hb⟩ := F
  refine ⟨f, fd, ?_, hm, hb⟩
  refine F.ok scFence (fun vs H Q E h => ?_) (fun cdv A outer s H vs Q E hr h => ?_)
  · obtain ⟨m, t, w, r, th, A, S, l, rfl, _⟩ := h
    rfl
  · obtain ⟨m, t, w, r, th, B, S, l, rfl, nok, D, hth, hns, hl, hne, k⟩ := h
    obtain ⟨dx, h1⟩ := D.ob
    have hu := hu_of hr
    have nd := scFence.nd
    refine ⟨_, pss_cons (ps_set (i := 2) nd rfl (Or.inl rfl) (pe_ix ix_list (pe_fld (pv 0) rfl) (pv 1) (fun _ _ => rfl)))
      (pss_cons (ps_asg pe_dnewK (pg_sub (pe_fld (pv 0) rfl) (pv 1) set_list))
      (pss_one (ps_lock (ps_for PassesOwn.never rfl (pi_items (pv 2)) (pg_tup (by rfl) (pgs_cons (pg_name (i := 3) nd rfl (Or.inl rfl)) (pgs_cons (pg_name (i := 4) nd rfl (Or.inl rfl)) pgs_nil)))
        (pss_one (ps_expr (pm_ GS TM.cl hr (pv 0) (pa_cons (pv 3) (pa_cons (pe_op op_sub (pv 4) (pe_dget hu (pe_fld (pv 0) rfl) (pv 3) (fun _ _ => rfl))) pa_nil))))))))), ?_⟩
    have hlen : th < B.na.length := by rw [D.nn]; exact hth
    obtain ⟨b, hbn⟩ : ∃ b, B.na[th]? = some b := ⟨B.na[th], List.getElem?_eq_getElem hlen⟩
    obtain ⟨ns, e1, hbd⟩ := D.no th b hbn
    rw [hns] at e1
    have e1 := (Option.some.inj e1).symm
    subst e1
    have hbm : b ∈ B.na := List.mem_of_getElem? hbn
    have hv : (B.na.map V.ref)[th]? = some (.ref b) := by rw [List.getElem?_map, hbn]; rfl
    refine ⟨_, rfl, m, M, dx, _, _, rfl, h1, TM.cl, TM.nN, rfl, _, rfl, B.nl, _, _, _, rfl, rfl, SqL.of D.nl, atI_nat hv, fun p hp => ?_⟩
    have s1 : Same H (upd H p (.dK [])) := fun c o e => by rw [upd_ne (ne_of_none e hp)]; exact e
    have hx : ixN (B.na.map V.ref).length (th : Int) = some th := by
      unfold ixN
      rw [List.length_map, if_pos (by omega), if_pos (by omega)]
      rfl
    refine ⟨_, rfl, m, M, dx, _, _, rfl, s1 _ _ h1, TM.cl, TM.nN, rfl, _, rfl, B.nl, _, _, th, rfl, rfl, s1 _ _ D.nl, hx, ?_⟩
    have D1 := D.newNotes hth s1 hp upd_same
    have esm : (B.na.map V.ref).set th (.ref p) = (B.na.set th p).map V.ref := by rw [List.map_set]
    rw [esm]
    generalize hA : ({ B with na := B.na.set th p } : Adr) = B1 at D1
    have hBa : B1.a = B.a := by rw [← hA]
    have pb : b ≠ p := ne_of_none hbd hp
    have hb1 : ∀ o, upd (upd H p (.dK [])) B.nl (.lst o) b = some (.dK (nkv t l)) := fun o => by
      rw [upd_ne (ne_of hbd D.nl (by intro z; cases z)), upd_ne pb]
      exact hbd
    have hst : Step m (t + w + r) B H B1 (upd (upd H p (.dK [])) B.nl (.lst ((B.na.set th p).map V.ref))) := by
      refine ⟨fun c o e hc => ?_, fun c hc => ?_⟩
      · rw [upd_ne (fun q => hc (by rw [q]; exact .inr (.inr (.inr (.inr (.inl rfl))))))]
        exact s1 c o e
      · rw [← hA] at hc
        rcases hc with q | q | q | q | q | q | q | q
        · exact .inl (.inl q)
        · exact .inl (.inr (.inl q))
        · exact .inl (.inr (.inr (.inl q)))
        · exact .inl (.inr (.inr (.inr (.inl q))))
        · exact .inl (.inr (.inr (.inr (.inr (.inl q)))))
        · exact .inl (.inr (.inr (.inr (.inr (.inr (.inl q))))))
        · exact .inl (.inr (.inr (.inr (.inr (.inr (.inr (.inl q)))))))
        · rcases List.mem_or_eq_of_mem_set (show c ∈ B.na.set th p from q) with q | q
          · exact .inl (.inr (.inr (.inr (.inr (.inr (.inr (.inr q)))))))
          · rw [q]
            exact .inr hp
    have nfb : ¬ Foot m B1 (t + w + r) b := by
      rw [← hA]
      intro hc
      rcases hc with q | q | q | q | q | q | ⟨j, hj, q⟩ | q
      · exact ne_of hbd h1 (by intro z; cases z) q
      · exact ne_of hbd D.ps (by intro z; cases z) q
      · exact (D.d4 b hbm).1 q
      · exact (D.d4 b hbm).2 q
      · exact ne_of hbd D.nl (by intro z; cases z) q
      · exact ne_of hbd D.gl (by intro z; cases z) q
      · exact ne_of hbd (D.tr.l j hj) (by intro z; cases z) q
      · have q : b ∈ B.na.set th p := q
        obtain ⟨x, hx⟩ := List.getElem?_of_mem q
        by_cases c : x = th
        · rw [c, List.getElem?_set_self hlen] at hx
          exact pb (Option.some.inj hx).symm
        · rw [List.getElem?_set_ne (fun z => c z.symm)] at hx
          exact c (nd_ix D.nd hx hbn)
    obtain ⟨da, hlay⟩ := D.lay
    have nba : b ≠ B1.a := by
      rw [hBa]
      exact ne_of hbd hlay (by intro z; cases z)
    generalize hH2 : upd (upd H p (.dK [])) B.nl (.lst ((B.na.set th p).map V.ref)) = H2 at D1 hst
    have hb2 : H2 b = some (.dK (nkv t l)) := by rw [← hH2]; exact hb1 _
    refine ⟨b, _, hb2, trivial, fun od => ?_⟩
    have D3 := D1.outer (H' := upd H2 b (.frz od (.dK (nkv t l)))) (b := b) (fun c o e h => by rw [upd_ne h]; exact e) nfb nba
    generalize hS1 : S.withNotes (S.notes.set th []) = S1 at D1 D3 k
    have hne1 : ∀ j, j < t + w + r → S1.tr j ≠ [] := by rw [← hS1]; exact hne
    refine ⟨_, rfl, b, od, nkv t l, rfl, upd_same, for_it walk_items (fun i σ H' => ∃ c p : Option V, σ = [some (.ref m), some (.int (th : Int)), some (.ref b), c, p] ∧ MemAt C M H' m t w r B1 (fenceS S1 (l.take i)) ∧ H' b = some (.frz od (.dK (nkv t l))) ∧ Step m (t + w + r) B1 (upd H2 b (.frz od (.dK (nkv t l)))) B1 H')
      ⟨_, _, rfl, D3, upd_same, Step.refl⟩ (fun i σ H' _ ⟨_, _, _, _, q, _⟩ => q) ?_ ?_⟩
    · rintro i x σ H3 H4 hi ⟨c, pl, rfl, D4, hb4, st⟩ ⟨T0, x1, x2, rfl, nT, rfl, ex1, ex2⟩
      have hil : i < l.length := by
        unfold nkv at hi
        rw [List.length_map] at hi
        exact hi
      have hli : l[i]? = some l[i] := List.getElem?_eq_getElem hil
      have eN : (nkv t l)[i]? = some ((Sum.inl ((1 + t + l[i].1 : Nat) : Int) : Key), V.int l[i].2) := by
        unfold nkv
        rw [List.getElem?_map, hli]
        rfl
      dsimp only at ex1 ex2
      rw [eN] at ex1 ex2
      have ex1 : V.int ((1 + t + l[i].1 : Nat) : Int) = x1 := Option.some.inj ex1
      have ex2 : V.int l[i].2 = x2 := Option.some.inj ex2
      subst ex1
      subst ex2
      have sT : Same H3 (upd H3 T0 (.tup [V.int ((1 + t + l[i].1 : Nat) : Int), V.int l[i].2])) := fun c o e => by rw [upd_ne (ne_of_none e nT)]; exact e
      have D5 := D4.same sT
      have hj : l[i].1 < t + w + r := hl _ (List.getElem_mem hil)
      obtain ⟨dx5, h5⟩ := D5.ob
      refine ⟨T0, _, rfl, SqT.of upd_same, rfl, _, _, rfl, _, _, rfl, rfl, ?_⟩
      have hg : DGet (upd H3 T0 (.tup [V.int ((1 + t + l[i].1 : Nat) : Int), V.int l[i].2])) B1.ld (.int ((1 + t + l[i].1 : Nat) : Int)) (some (.int ((fenceS S1 (l.take i)).lost l[i].1))) := by
        have := DGet.k (k := (Sum.inl ((1 + t + l[i].1 : Nat) : Int) : Key)) D5.ld
        rw [show ((1 + t + l[i].1 : Nat) : Int) = ((1 + t : Nat) : Int) + (l[i].1 : Int) by omega, kv_val _ _ _ _ hj, show ((1 + t : Nat) : Int) + (l[i].1 : Int) = ((1 + t + l[i].1 : Nat) : Int) by omega] at this
        exact this
      refine ⟨_, rfl, m, dx5, _, rfl, h5, rfl, _, rfl, _, rfl, _, rfl, m, M, dx5, _, _, rfl, h5, TM.cl, TM.nO, rfl, _, rfl, B1.ld, _, rfl, hg, _, _, rfl, rfl, m, t, w, r, l[i].1, B1, _, _, rfl, nok, D5, hj, fence_ne hne1 _ hj, fun H6 D6 st6 => ?_⟩
      refine ⟨_, _, rfl, ?_, ?_, (st.trans (Step.same sT)).trans st6⟩
      · rw [fenceS_take hli]
        exact D6
      · exact st6.chg _ _ (sT _ _ hb4) nfb
    · rintro σ H3 ⟨c, pl, rfl, D4, hb4, st⟩
      have el : l.take (nkv t l).length = l := by
        unfold nkv
        rw [List.length_map, List.take_length]
      rw [el] at D4
      refine ⟨hb4, ?_⟩
      refine k B1 _ hBa (D4.outer (b := b) (fun c o e h => by rw [upd_ne h]; exact e) nfb nba) ?_
      refine hst.trans ⟨fun c o e hc => ?_, fun c hc => .inl hc⟩
      by_cases q : c = b
      · subst q
        rw [upd_same, ← e]
        exact hb2.symm
      · rw [upd_ne q]
        refine st.chg c o ?_ hc
        rw [upd_ne q]
        exact e
end
end Dk

set_option maxHeartbeats 4000000
/-! an access -/
namespace Dk
open PySem PySem.Spec PyProof.Rows L2
abbrev sAccess : Stmt := inClass (top 17) 1
abbrev sResult : Stmt := inClass (top 17) 9
def putN (l : List (Nat × Int)) (j : Nat) (x : Int) : List (Nat × Int) := if (l.any fun p => decide (p.1 = j)) = true then l.map (fun p => if p.1 = j then (p.1, x) else p) else l ++ [(j, x)]
theorem putN_kv (t : Nat) (l : List (Nat × Int)) (j : Nat) (x : Int) : putK (nkv t l) (Sum.inl ((1 + t + j : Nat) : Int) : Key) (.int x) = nkv t (putN l j x) := by
  have ek : ∀ p : Nat × Int, ((Sum.inl ((1 + t + p.1 : Nat) : Int) : Key) = Sum.inl ((1 + t + j : Nat) : Int)) ↔ p.1 = j := fun p => ⟨fun e => by have := Sum.inl.inj e; omega, fun e => by rw [e]⟩
  have ea : ((nkv t l).any fun kv => decide (kv.1 = (Sum.inl ((1 + t + j : Nat) : Int) : Key))) = (l.any fun p => decide (p.1 = j)) := by
    unfold nkv
    rw [List.any_map]
    congr 1
    funext p
    exact decide_eq_decide.mpr (ek p)
  unfold putK putN
  rw [ea]
  by_cases c : (l.any fun p => decide (p.1 = j)) = true
  · rw [if_pos c, if_pos c]
    unfold nkv
    rw [List.map_map, List.map_map]
    refine List.map_congr_left fun p _ => ?_
    show (if (Sum.inl ((1 + t + p.1 : Nat) : Int) : Key) = Sum.inl ((1 + t + j : Nat) : Int) then _ else _) = _
    by_cases e : p.1 = j
    · rw [if_pos ((ek p).mpr e)]
      show _ = ((Sum.inl ((1 + t + (if p.1 = j then (p.1, x) else p).1 : Nat) : Int) : Key), V.int (if p.1 = j then (p.1, x) else p).2)
      rw [if_pos e]
    · rw [if_neg (fun q => e ((ek p).mp q))]
      show _ = ((Sum.inl ((1 + t + (if p.1 = j then (p.1, x) else p).1 : Nat) : Int) : Key), V.int (if p.1 = j then (p.1, x) else p).2)
      rw [if_neg e]
  · rw [if_neg c, if_neg c]
    unfold nkv
    rw [List.map_append]
    rfl
theorem putN_len (l : List (Nat × Int)) (j : Nat) (x : Int) : (putN l j x).length ≤ l.length + 1 := by
  unfold putN
  split
  · rw [List.length_map]; omega
  · rw [List.length_append, List.length_singleton]; omega
theorem putN_mem {l : List (Nat × Int)} {j n : Nat} {x : Int} (h : ∀ p, p ∈ l → p.1 < n) (hj : j < n) : ∀ p, p ∈ putN l j x → p.1 < n := by
  intro p hp
  unfold putN at hp
  split at hp
  · obtain ⟨q, hq, e⟩ := List.mem_map.mp hp
    split at e
    · rw [← e]; exact h q hq
    · rw [← e]; exact h q hq
  · rcases List.mem_append.mp hp with m | m
    · exact h p m
    · rw [List.mem_singleton.mp m]; exact hj
/-- what a memory's state keeps to -/
structure SOk (S : MS) (t n B : Nat) : Prop where
  psl : S.ps.length = 1 + t
  tne : ∀ j, j < n → S.tr j ≠ []
  tlen : ∀ j, j < n → (S.tr j).length ≤ B + 1
  nts : ∀ th, th < t → ∃ l, S.notes[th]? = some (nkv t l) ∧ (∀ p, p ∈ l → p.1 < n) ∧ l.length ≤ B
  log : S.log.length ≤ B
/-- what an access gives, and what the memory holds behind it -/
def Res (K : PySem.W.Frag) (S : MS) (t th : Nat) (H H' : Hp) : Rq → V → MS → Prop
  | .read i, v, S' => cellV S t i = some v ∧ S' = S
  | .write i x, v, S' => v = .non ∧ S' = S.give t i x
  | .swap i o n, v, S' => ∃ p tp to, cellV S t i = some p ∧ Dvl K H p tp ∧ Dvl K H o to ∧ ((tp = to ∧ v = .bl true ∧ S' = S.give t i n) ∨ (tp ≠ to ∧ v = .bl false ∧ S' = S))
  | .decide i x, v, S' => ∃ p tp, cellV S t i = some p ∧ Dvl K H p tp ∧ ((tp = .sc (.int 0) ∧ v = .bl true ∧ ∃ q, H' q = some (.tup [.str x, .int S.count]) ∧ S' = S.give t i (.ref q)) ∨ (tp ≠ .sc (.int 0) ∧ v = .bl false ∧ S' = S))
  | .flush i, v, S' => v = .non ∧ ∃ l, S.notes[th]? = some (nkv t l) ∧ S' = S.withNotes (S.notes.set th (nkv t (putN l (i - (1 + t)) (S.lost (i - (1 + t)) + ((S.tr (i - (1 + t))).length : Int) - 1))))
  | .fence, v, S' => v = .non ∧ ∃ l, S.notes[th]? = some (nkv t l) ∧ S' = fenceS (S.withNotes (S.notes.set th [])) l
/-- the present value where it is compared -/
def Rq.flatAt (K : PySem.W.Frag) (H : Hp) (S : MS) (t : Nat) : Rq → Prop
  | .swap i _ _ => ∃ p tp, cellV S t i = some p ∧ Dvl K H p tp
  | .decide i _ => ∃ p tp, cellV S t i = some p ∧ Dvl K H p tp
  | _ => True
theorem SOk.cell {S : MS} {t n B i : Nat} (h : SOk S t n B) (hi : i < 1 + t + n) : ∃ v, cellV S t i = some v := by
  unfold cellV
  by_cases c : i < 1 + t
  · rw [if_pos c]
    exact ⟨_, List.getElem?_eq_getElem (by rw [h.psl]; exact c)⟩
  · rw [if_neg c]
    have := h.tne (i - (1 + t)) (by omega)
    exact ⟨_, List.getLast?_eq_some_getLast this⟩
def spResult (K : PySem.W.Frag) (C M : Addr) : Sp := fun vs H Q _ => ∃ (m : Addr) (t w r th B : Nat) (A : Adr) (S : MS) (rq : Rq) (q : Addr), vs = [.ref m, .int (th : Int), .ref q] ∧ NOk t w r ∧ MemAt C M H m t w r A S ∧ th < t ∧ H q = some (.tup rq.vs) ∧ rq.ok t w r ∧ SOk S t (t + w + r) B ∧ B + 5 < sizeLine ∧ rq.vals K H ∧ rq.flatAt K H S t ∧
  ∀ (v : V) (A' : Adr) (S' : MS) (H' : Hp), A'.a = A.a → Res K S t th H H' rq v S' → MemAt C M H' m t w r A' S' → Step m (t + w + r) A H A' H' → Q v H'
section
variable {P : Program} {w : World} {K : PySem.W.Frag} {mg : Str → Option Value} {base : Heap} {C M NV LE : Addr}
abbrev NR : List Str := ["self", "thread", "request", "cell", "value", "old", "new", "word"]
theorem scResult : FnScope NR ["self", "thread", "request"] (defScope sResult) := ⟨rfl, rfl, rfl, by decide +kernel, rfl, by decide +kernel, by decide +kernel⟩
theorem mo_result (F : MT K M "_result" "Memory._result" sResult ["self", "thread", "request"]) (T : LTxt K mg C) (TM : MTxt K M) (GP : MO P w K mg base CX0 M 8 "peek" ["self", "cell"] (spPeek C M)) (GG : MO P w K mg base CX0 M 8 "_give" ["self", "cell", "value"] (spGive C M))
    (GI : MO P w K mg base CX0 M 9 "_give_if" ["self", "cell", "old", "new"] (spGiveIf K C M)) (GF : MO P w K mg base CX0 M 2 "_fence" ["self", "thread"] (spFence C M)) : MO P w K mg base CX0 M 10 "_result" ["self", "thread", "request"] (spResult K C M) := by
  obtain ⟨f, fd, F, hm, hb⟩ := F
  refine ⟨f, fd, ?_, hm, hb⟩
  refine F.ok scResult (fun vs H Q E h => ?_) (fun cdv A outer s H vs Q E hr h => ?_)
  · obtain ⟨m, t, w, r, th, B, A, S, rq, q, rfl, _⟩ := h
    rfl
  · obtain ⟨m, t, w, r, th, B, A0, S, rq, q, rfl, nok, D, hth, hq, ok, so, hB, vals, hfl, k⟩ := h
    obtain ⟨dx, h1⟩ := D.ob
    have hu := hu_of hr
    have nd := scResult.nd
    have hr8 : Room 8 _ := hr.mono (by decide)
    have hr2 : Room 2 _ := hr.mono (by decide)
    refine ⟨_, pss_cons (ps_match (pv 2)
        (pms_case (is := [3]) rfl nd (.cons rfl rfl .nil) (pss_one (ps_ret (pm_ GP TM.cl hr8 (pv 0) (pa_cons (pv 3) pa_nil))))
        (pms_case (is := [3, 4]) rfl nd (.cons rfl rfl (.cons rfl rfl .nil)) (pss_one (ps_expr (pm_ GG TM.cl hr8 (pv 0) (pa_cons (pv 3) (pa_cons (pv 4) pa_nil)))))
        (pms_case (is := [3, 5, 6]) rfl nd (.cons rfl rfl (.cons rfl rfl (.cons rfl rfl .nil))) (pss_one (ps_ret (pm_ GI TM.cl hr (pv 0) (pa_cons (pv 3) (pa_cons (pv 5) (pa_cons (pv 6) pa_nil))))))
        (pms_case (is := [3, 7]) rfl nd (.cons rfl rfl (.cons rfl rfl .nil)) (pss_one (ps_ret (pm_ GI TM.cl hr (pv 0) (pa_cons (pv 3) (pa_cons pe_int (pa_cons (pe_tup (pa_cons (pv 7) (pa_cons (pe_fld (pv 0) rfl) pa_nil))) pa_nil))))))
        (pms_case (is := [3]) rfl nd (.cons rfl rfl .nil) (pss_one (ps_dput hu (pe_ix ix_list (pe_fld (pv 0) rfl) (pv 1) (fun _ _ => rfl)) (pv 3)
          (pe_op op_sub (pe_op op_add (pe_dget hu (pe_fld (pv 0) rfl) (pv 3) (fun _ _ => rfl)) (pe_callB call_len_seq (by rfl) T.bn.len PySem.boot_len (pa_cons (pe_dget hu (pe_fld (pv 0) rfl) (pv 3) (fun _ _ => rfl)) pa_nil))) pe_int) rfl))
        (pms_case (is := []) rfl nd .nil (pss_one (ps_expr (pm_ GF TM.cl hr2 (pv 0) (pa_cons (pv 1) pa_nil)))) pms_nil)))))))
      (pss_one (ps_ret pe_non)), ?_⟩
    refine ⟨_, rfl, q, _, rfl, SqT.of hq, ?_⟩
    cases rq with
    | read i =>
      obtain ⟨v, hv⟩ := so.cell ok
      refine mhit rfl ?_
      exact ⟨_, rfl, m, dx, _, rfl, h1, rfl, _, rfl, m, t, w, r, i, A0, S, v, rfl, D, ok, hv, k v A0 S H rfl ⟨hv, rfl⟩ D Step.refl⟩
    | write i x =>
      have ok : i < 1 + t + (t + w + r) := ok
      refine mmiss (by decide +kernel) (mhit rfl ?_)
      refine ⟨_, rfl, m, dx, _, rfl, h1, rfl, _, rfl, _, rfl, m, t, w, r, i, A0, S, x, rfl, D, ok, fun c => by rw [so.psl]; exact c, fun c => by have := so.tlen (i - (1 + t)) (by omega); omega, fun H' D' s' => ?_⟩
      exact k .non A0 _ H' rfl ⟨rfl, rfl⟩ D' s'
    | swap i o n =>
      have ok : i < 1 + t + (t + w + r) := ok
      obtain ⟨⟨to, fo⟩, tn, fn⟩ := vals
      obtain ⟨p, tp, hp, fp⟩ := hfl
      refine mmiss (by decide +kernel) (mmiss (by decide +kernel) (mhit rfl ?_))
      refine ⟨_, rfl, m, dx, _, rfl, h1, rfl, _, rfl, _, rfl, _, rfl, m, t, w, r, i, A0, S, o, n, p, tp, to, rfl, D, ok, hp, fp, fo, fun c => by rw [so.psl]; exact c, fun c => by have := so.tlen (i - (1 + t)) (by omega); omega, fun e H' D' s' => ?_, fun e H' s' => ?_⟩
      · exact k _ A0 _ H' rfl ⟨p, tp, to, hp, fp, fo, .inl ⟨e, rfl, rfl⟩⟩ D' s'
      · exact k _ A0 _ H' rfl ⟨p, tp, to, hp, fp, fo, .inr ⟨e, rfl, rfl⟩⟩ (D.same s') (Step.same s')
    | decide i x =>
      have ok : i < 1 + t + (t + w + r) := ok
      obtain ⟨p, tp, hp, fp⟩ := hfl
      refine mmiss (by decide +kernel) (mmiss (by decide +kernel) (mmiss (by decide +kernel) (mhit rfl ?_)))
      refine ⟨_, rfl, m, dx, _, rfl, h1, rfl, _, rfl, _, rfl, _, rfl, m, M, dx, _, _, rfl, h1, TM.cl, TM.nC, rfl, (by show 2 ≤ sizeLine; decide), fun u hu' => ?_⟩
      have s1 : Same H (upd H u (.tup [V.str x, V.int S.count])) := fun b o e => by rw [upd_ne (ne_of_none e hu')]; exact e
      refine ⟨m, t, w, r, i, A0, S, .int 0, .ref u, p, tp, .sc (.int 0), rfl, D.same s1, ok, hp, fp.same s1, Dvl.int 0, fun c => by rw [so.psl]; exact c, fun c => by have := so.tlen (i - (1 + t)) (by omega); omega, fun e H' D' s' => ?_, fun e H' s' => ?_⟩
      · refine k _ A0 _ H' rfl ⟨p, tp, hp, fp, .inl ⟨e, rfl, u, ?_, rfl⟩⟩ D' ((Step.same s1).trans s')
        refine s'.chg _ _ upd_same fun hf => ?_
        rcases hf with q | q | q | q | q | q | ⟨j, hj, q⟩ | q
        · exact ne_of_none h1 hu' q.symm
        · exact ne_of_none D.ps hu' q.symm
        · exact ne_of_none D.tr.d hu' q.symm
        · exact ne_of_none D.ld hu' q.symm
        · exact ne_of_none D.nl hu' q.symm
        · exact ne_of_none D.gl hu' q.symm
        · exact ne_of_none (D.tr.l j hj) hu' q.symm
        · obtain ⟨z, hz⟩ := List.getElem?_of_mem q
          obtain ⟨ns, _, e2⟩ := D.no z u hz
          exact ne_of_none e2 hu' rfl
      · exact k _ A0 _ H' rfl ⟨p, tp, hp, fp, .inr ⟨e, rfl, rfl⟩⟩ ((D.same s1).same s') ((Step.same s1).trans (Step.same s'))
    | flush i =>
      obtain ⟨o1, o2⟩ := ok
      have hj : i - (1 + t) < t + w + r := by omega
      obtain ⟨l, hl, hl2, hl3⟩ := so.nts th hth
      have hlen : th < A0.na.length := by rw [D.nn]; exact hth
      obtain ⟨b, hbn⟩ : ∃ b, A0.na[th]? = some b := ⟨A0.na[th], List.getElem?_eq_getElem hlen⟩
      obtain ⟨ns, e1, hbd⟩ := D.no th b hbn
      rw [hl] at e1
      have e1 := (Option.some.inj e1).symm
      subst e1
      have hv : (A0.na.map V.ref)[th]? = some (.ref b) := by rw [List.getElem?_map, hbn]; rfl
      refine mmiss (by decide +kernel) (mmiss (by decide +kernel) (mmiss (by decide +kernel) (mmiss (by decide +kernel) (mhit rfl ?_))))
      have hg : DGet H A0.ld (.int (i : Int)) (some (.int (S.lost (i - (1 + t))))) := by
        have := DGet.k (k := (Sum.inl (i : Int) : Key)) D.ld
        rw [show (i : Int) = ((1 + t : Nat) : Int) + ((i - (1 + t) : Nat) : Int) by omega, kv_val _ _ _ _ hj, show ((1 + t : Nat) : Int) + ((i - (1 + t) : Nat) : Int) = (i : Int) by omega] at this
        exact this
      refine ⟨_, rfl, m, M, dx, _, _, rfl, h1, TM.cl, TM.nO, rfl, _, rfl, A0.ld, _, rfl, hg, _, rfl, m, M, dx, _, _, rfl, h1, TM.cl, TM.nT, rfl, _, rfl, A0.td, _, rfl, tr_get D o1 o2, A0.tl (i - (1 + t)), _, rfl, .inl (SqL.of (D.tr.l _ hj)), _, _, rfl, rfl, _, _, rfl, rfl, ?_⟩
      refine ⟨_, rfl, m, M, dx, _, _, rfl, h1, TM.cl, TM.nN, rfl, _, rfl, A0.nl, _, _, _, rfl, rfl, SqL.of D.nl, atI_nat hv, _, rfl, b, _, rfl, DPut.k (k := Sum.inl _) hbd (by unfold nkv; rw [List.length_map]; omega), ?_⟩
      have ek : (Sum.inl (i : Int) : Key) = Sum.inl ((1 + t + (i - (1 + t)) : Nat) : Int) := by rw [show 1 + t + (i - (1 + t)) = i by omega]
      rw [ek, putN_kv]
      exact k .non A0 _ _ rfl ⟨rfl, l, hl, rfl⟩ (D.setNotes hbn _) (Step.up (.inr (.inr (.inr (.inr (.inr (.inr (.inr (List.mem_of_getElem? hbn)))))))))
    | fence =>
      obtain ⟨l, hl, hl2, hl3⟩ := so.nts th hth
      refine mmiss (by decide +kernel) (mmiss (by decide +kernel) (mmiss (by decide +kernel) (mmiss (by decide +kernel) (mmiss (by decide +kernel) (mhit rfl ?_)))))
      refine ⟨_, rfl, m, dx, _, rfl, h1, rfl, _, rfl, m, t, w, r, th, A0, S, l, rfl, nok, D, hth, hl, hl2, so.tne, fun A' H' ea D' s' => ?_⟩
      exact k .non A' _ H' ea ⟨rfl, l, hl, rfl⟩ D' s'
end
end Dk

set_option maxHeartbeats 4000000
/-! access; drift -/
namespace Dk
open PySem PySem.Spec PyProof.Rows L2
theorem SOk.mono {S : MS} {t n B B' : Nat} (h : SOk S t n B) (hb : B ≤ B') : SOk S t n B' := ⟨h.psl, h.tne, fun j hj => by have := h.tlen j hj; omega, fun th hth => let ⟨l, a, b, c⟩ := h.nts th hth; ⟨l, a, b, by omega⟩, by have := h.log; omega⟩
theorem SOk.logged {S : MS} {t n B : Nat} {c : Int} {x : V} (h : SOk S t n B) : SOk ((S.withCount c).withLog (S.log ++ [x])) t n (B + 1) := by
  refine ⟨h.psl, h.tne, fun j hj => ?_, fun th hth => ?_, ?_⟩
  · have := h.tlen j hj
    show (S.tr j).length ≤ B + 1 + 1
    omega
  · obtain ⟨l, a, b, c⟩ := h.nts th hth
    exact ⟨l, a, b, by omega⟩
  · show (S.log ++ [x]).length ≤ B + 1
    rw [List.length_append, List.length_singleton]
    have := h.log
    omega
theorem SOk.give {S : MS} {t n B i : Nat} {v : V} (h : SOk S t n B) (hi : i < 1 + t + n) : SOk (S.give t i v) t n (B + 1) := by
  have h' := h.mono (Nat.le_succ B)
  unfold MS.give
  by_cases c : i < 1 + t
  · rw [if_pos c]
    refine ⟨?_, h.tne, h'.tlen, h'.nts, h'.log⟩
    show (S.ps.set i v).length = 1 + t
    rw [List.length_set, h.psl]
  · rw [if_neg c]
    refine ⟨h.psl, fun j hj => ?_, fun j hj => ?_, h'.nts, h'.log⟩
    · show sett S.tr (i - (1 + t)) (S.tr (i - (1 + t)) ++ [v]) j ≠ []
      by_cases e : j = i - (1 + t)
      · rw [e, sett_same]
        intro z
        have := congrArg List.length z
        rw [List.length_append, List.length_singleton, List.length_nil] at this
        omega
      · rw [sett_ne e]; exact h.tne j hj
    · show (sett S.tr (i - (1 + t)) (S.tr (i - (1 + t)) ++ [v]) j).length ≤ B + 1 + 1
      by_cases e : j = i - (1 + t)
      · rw [e, sett_same, List.length_append, List.length_singleton]
        have := h.tlen (i - (1 + t)) (by omega)
        omega
      · rw [sett_ne e]
        have := h.tlen j hj
        omega
theorem SOk.short {S : MS} {t n B j : Nat} {k : Int} (h : SOk S t n B) : SOk (S.short j k) t n B := by
  refine ⟨h.psl, short_ne h.tne, fun i hi => ?_, h.nts, h.log⟩
  show (sett S.tr j ((S.tr j).drop (cutN (S.tr j).length k)) i).length ≤ B + 1
  by_cases e : i = j
  · rw [e, sett_same, List.length_drop]
    have := h.tlen j (by omega)
    omega
  · rw [sett_ne e]; exact h.tlen i hi
theorem SOk.fence {t n B : Nat} : ∀ {l : List (Nat × Int)} {S : MS}, SOk S t n B → SOk (fenceS S l) t n B
  | [], _, h => h
  | p :: l, S, h => SOk.fence (l := l) (S := S.short p.1 (p.2 - S.lost p.1)) h.short
theorem SOk.notes {S : MS} {t n B th : Nat} {l : List (Nat × Int)} (h : SOk S t n B) (hl : ∀ p, p ∈ l → p.1 < n) (hb : l.length ≤ B) : SOk (S.withNotes (S.notes.set th (nkv t l))) t n B := by
  refine ⟨h.psl, h.tne, h.tlen, fun k hk => ?_, h.log⟩
  show ∃ l', (S.notes.set th (nkv t l))[k]? = some (nkv t l') ∧ _
  obtain ⟨l0, a, b, c⟩ := h.nts k hk
  by_cases e : k = th
  · subst e
    exact ⟨l, List.getElem?_set_self (List.getElem?_eq_some_iff.mp a).1, hl, hb⟩
  · exact ⟨l0, by rw [List.getElem?_set_ne (fun z => e z.symm)]; exact a, b, c⟩
theorem Res.ok {K : PySem.W.Frag} {S S' : MS} {t w r th B : Nat} {H H' : Hp} {rq : Rq} {v : V} (R : Res K S t th H H' rq v S') (ok : rq.ok t w r) (hth : th < t) (h : SOk S t (t + w + r) B) : SOk S' t (t + w + r) (B + 1) := by
  cases rq with
  | read i => obtain ⟨_, rfl⟩ := R; exact h.mono (Nat.le_succ B)
  | write i x => obtain ⟨_, rfl⟩ := R; exact h.give ok
  | swap i o n =>
    obtain ⟨p, _, _, _, _, _, ⟨_, _, rfl⟩ | ⟨_, _, rfl⟩⟩ := R
    · exact h.give ok
    · exact h.mono (Nat.le_succ B)
  | decide i x =>
    obtain ⟨p, _, _, _, ⟨_, _, q, _, rfl⟩ | ⟨_, _, rfl⟩⟩ := R
    · exact h.give ok
    · exact h.mono (Nat.le_succ B)
  | flush i =>
    obtain ⟨_, l, hl, rfl⟩ := R
    obtain ⟨o1, o2⟩ := ok
    obtain ⟨l0, a, b, c⟩ := h.nts th hth
    rw [hl] at a
    have e : l = l0 := by
      have e1 := Option.some.inj a
      have inj : ∀ (x y : List (Nat × Int)), nkv t x = nkv t y → x = y := fun x => by
        induction x with
        | nil => intro y e; cases y with | nil => rfl | cons _ _ => cases e
        | cons p x ih =>
          intro y e
          cases y with
          | nil => cases e
          | cons q y =>
            have e : ((Sum.inl ((1 + t + p.1 : Nat) : Int) : Key), V.int p.2) :: nkv t x = ((Sum.inl ((1 + t + q.1 : Nat) : Int) : Key), V.int q.2) :: nkv t y := e
            injection e with e1 e2
            have e3 := Sum.inl.inj (congrArg Prod.fst e1)
            have e4 := V.int.inj (congrArg Prod.snd e1)
            rw [ih y e2]
            have : p = q := Prod.ext (by omega) e4
            rw [this]
      exact inj _ _ e1
    subst e
    exact (h.mono (Nat.le_succ B)).notes (putN_mem b (by omega)) (by have := putN_len l (i - (1 + t)) (S.lost (i - (1 + t)) + ((S.tr (i - (1 + t))).length : Int) - 1); omega)
  | fence =>
    obtain ⟨_, l, hl, rfl⟩ := R
    exact SOk.fence ((h.mono (Nat.le_succ B)).notes (l := []) (fun p hp => by cases hp) (Nat.zero_le _))
theorem short_count {S : MS} {j : Nat} {k : Int} : (S.short j k).count = S.count ∧ (S.short j k).log = S.log := ⟨rfl, rfl⟩
theorem fence_count : ∀ {l : List (Nat × Int)} {S : MS}, (fenceS S l).count = S.count ∧ (fenceS S l).log = S.log
  | [], _ => ⟨rfl, rfl⟩
  | p :: l, S => fence_count (l := l) (S := S.short p.1 (p.2 - S.lost p.1))
theorem give_count {S : MS} {t i : Nat} {v : V} : (S.give t i v).count = S.count ∧ (S.give t i v).log = S.log := by
  unfold MS.give
  split <;> exact ⟨rfl, rfl⟩
theorem Res.count {K : PySem.W.Frag} {S S' : MS} {t th : Nat} {H H' : Hp} {rq : Rq} {v : V} (R : Res K S t th H H' rq v S') : S'.count = S.count ∧ S'.log = S.log := by
  cases rq with
  | read i => obtain ⟨_, rfl⟩ := R; exact ⟨rfl, rfl⟩
  | write i x => obtain ⟨_, rfl⟩ := R; exact give_count
  | swap i o n =>
    obtain ⟨p, _, _, _, _, _, ⟨_, _, rfl⟩ | ⟨_, _, rfl⟩⟩ := R
    · exact give_count
    · exact ⟨rfl, rfl⟩
  | decide i x =>
    obtain ⟨p, _, _, _, ⟨_, _, q, _, rfl⟩ | ⟨_, _, rfl⟩⟩ := R
    · exact give_count
    · exact ⟨rfl, rfl⟩
  | flush i => obtain ⟨_, l, hl, rfl⟩ := R; exact ⟨rfl, rfl⟩
  | fence => obtain ⟨_, l, hl, rfl⟩ := R; exact fence_count
theorem Res.ext {K : PySem.W.Frag} {S S' : MS} {t th : Nat} {H0 H H' H1 : Hp} {rq : Rq} {v : V} (R : Res K S t th H0 H rq v S') (s0 : ExT H0 H1) (s : ExT H H') : Res K S t th H1 H' rq v S' := by
  cases rq with
  | swap i o n =>
    obtain ⟨p, tp, to, h1, h2, h3, h4⟩ := R
    exact ⟨p, tp, to, h1, h2.ext s0, h3.ext s0, h4⟩
  | decide i x =>
    obtain ⟨p, tp, hp, h2, ⟨e1, e2, q, hq, e3⟩ | h⟩ := R
    · exact ⟨p, tp, hp, h2.ext s0, .inl ⟨e1, e2, q, s.1 _ _ hq, e3⟩⟩
    · exact ⟨p, tp, hp, h2.ext s0, .inr h⟩
  | _ => exact R
theorem flatAt_log {K : PySem.W.Frag} {H : Hp} {S : MS} {t : Nat} {c : Int} {l : List V} {rq : Rq} (h : rq.flatAt K H S t) : rq.flatAt K H ((S.withCount c).withLog l) t := by
  cases rq <;> exact h
theorem flatAt_ext {K : PySem.W.Frag} {H H' : Hp} {S : MS} {t : Nat} {rq : Rq} (h : rq.flatAt K H S t) (s : ExT H H') : rq.flatAt K H' S t := by
  cases rq with
  | swap i o n => exact let ⟨p, tp, h1, h2⟩ := h; ⟨p, tp, h1, h2.ext s⟩
  | decide i x => exact let ⟨p, tp, h1, h2⟩ := h; ⟨p, tp, h1, h2.ext s⟩
  | _ => exact h
theorem vals_ext {K : PySem.W.Frag} {H H' : Hp} {rq : Rq} (h : rq.vals K H) (s : ExT H H') : rq.vals K H' := by
  cases rq with
  | write i v => exact let ⟨t, h⟩ := h; ⟨t, h.ext s⟩
  | swap i o n => exact let ⟨⟨t, h⟩, u, h2⟩ := h; ⟨⟨t, h.ext s⟩, u, h2.ext s⟩
  | _ => trivial
theorem tup_out {C M : Addr} {H : Hp} {m : Addr} {t w r : Nat} {A : Adr} {S : MS} (D : MemAt C M H m t w r A S) {u : Addr} {xs : List V} (hu : H u = some (.tup xs)) : ¬ Foot m A (t + w + r) u := fun hf => by
  obtain ⟨dx, h1⟩ := D.ob
  rcases hf with q | q | q | q | q | q | ⟨j, hj, q⟩ | q
  · exact ne_of hu h1 (by intro z; cases z) q
  · exact ne_of hu D.ps (by intro z; cases z) q
  · exact ne_of hu D.tr.d (by intro z; cases z) q
  · exact ne_of hu D.ld (by intro z; cases z) q
  · exact ne_of hu D.nl (by intro z; cases z) q
  · exact ne_of hu D.gl (by intro z; cases z) q
  · exact ne_of hu (D.tr.l j hj) (by intro z; cases z) q
  · obtain ⟨z, hz⟩ := List.getElem?_of_mem q
    obtain ⟨ns, _, e2⟩ := D.no z u hz
    exact ne_of hu e2 (by intro z; cases z) rfl
theorem frz_out {C M : Addr} {H : Hp} {m : Addr} {t w r : Nat} {A : Adr} {S : MS} (D : MemAt C M H m t w r A S) {u : Addr} {o : Obj} {x : HO} (hu : H u = some (.frz o x)) : ¬ Foot m A (t + w + r) u := fun hf => by
  obtain ⟨dx, h1⟩ := D.ob
  rcases hf with q | q | q | q | q | q | ⟨j, hj, q⟩ | q
  · exact ne_of hu h1 (by intro z; cases z) q
  · exact ne_of hu D.ps (by intro z; cases z) q
  · exact ne_of hu D.tr.d (by intro z; cases z) q
  · exact ne_of hu D.ld (by intro z; cases z) q
  · exact ne_of hu D.nl (by intro z; cases z) q
  · exact ne_of hu D.gl (by intro z; cases z) q
  · exact ne_of hu (D.tr.l j hj) (by intro z; cases z) q
  · obtain ⟨z, hz⟩ := List.getElem?_of_mem q
    obtain ⟨ns, _, e2⟩ := D.no z u hz
    exact ne_of hu e2 (by intro z; cases z) rfl
theorem Step.ext {C M : Addr} {H H' : Hp} {m : Addr} {t w r : Nat} {A A' : Adr} {S : MS} (st : Step m (t + w + r) A H A' H') (D : MemAt C M H m t w r A S) : ExT H H' :=
  ⟨fun b xs e => st.chg b _ e (tup_out D e), fun b o xs e => st.chg b _ e (frz_out D e)⟩
/-- o.m(e, ..) of a method that may raise, where it doesn't -/
theorem pmX_ {X : Cx} {k : Nat} {C : Addr} {ps : List Str} {sp : Sp} {m : Str} {apos pos : Pos} {e o : Expr} {es : List Expr} {ta : TE} {t : TA} {pl : Sem Bool} (G : MO X.prog X.w X.K X.mg X.base (L2.CX X.prog X.w) C k m ps sp) (c : Cls X.K C) (hr : Room k X.A) (he : PE X o ta) (ha : PA X (e :: es) t)
    (hst : starEach (e :: es) X.env = (false, eval e X.env) :: starEach es X.env := by rfl) (hpl : (backTo pos (starEach es X.env)).any (·.1) = false := by rfl)
    (ht : eval (.Call (.Attribute o m apos) (e :: es) [] pos) X.env = (do
      let ov ← eval o X.env
      standAt apos.atName
      let (f, first) ← holding [ov] (getMethod ov m pl)
      callWith pos f first (backTo pos (starEach (e :: es) X.env)) (backToKw pos (keywordEach [] X.env))) := by rfl) : PE X (.Call (.Attribute o m apos) (e :: es) [] pos) (tMeth C m sp [] E0 ta t) := by
  obtain ⟨f, fd, F, hm, hb⟩ := G
  exact pe_meth he c hm F hr hb .nil passL ha hst hpl ht
def spAccess (K : PySem.W.Frag) (C M : Addr) : Sp := fun vs H Q _ => ∃ (m : Addr) (t w r th B : Nat) (A : Adr) (S : MS) (rq : Rq) (q : Addr), vs = [.ref m, .int (th : Int), .ref q] ∧ NOk t w r ∧ MemAt C M H m t w r A S ∧ th < t ∧ H q = some (.tup rq.vs) ∧ rq.ok t w r ∧ SOk S t (t + w + r) B ∧ B + 6 < sizeLine ∧ rq.vals K H ∧ rq.flatAt K H S t ∧
  ∀ (v x : V) (p : Addr) (A' : Adr) (S' : MS) (H' : Hp), A'.a = A.a → Res K ((S.withCount (S.count + 1)).withLog (S.log ++ [x])) t th H' H' rq v S' → H' p = some (.tup [v, .int (S.count + 1)]) → SOk S' t (t + w + r) (B + 2) → MemAt C M H' m t w r A' S' → Step m (t + w + r) A H A' H' → Q (.ref p) H'
section
variable {P : Program} {w : World} {K : PySem.W.Frag} {mg : Str → Option Value} {base : Heap} {C M NV LE : Addr}
theorem scAccess : FnScope ["self", "thread", "request"] ["self", "thread", "request"] (defScope sAccess) := ⟨rfl, rfl, rfl, by decide +kernel, rfl, by decide +kernel, by decide +kernel⟩
theorem mo_access (F : MT K M "access" "Memory.access" sAccess ["self", "thread", "request"]) (T : LTxt K mg C) (TM : MTxt K M) (GH : MO P w K mg base CX0 C 3 "has_thread" ["self", "thread"] (spHasT C)) (GA : GO P w K mg base CX0 8 "is_access" ["layout", "request"] (spIsAcc K C))
    (GR : MO P w K mg base CX0 M 10 "_result" ["self", "thread", "request"] (spResult K C M)) : MO P w K mg base CX0 M 11 "access" ["self", "thread", "request"] (spAccess K C M) := by
  obtain ⟨f, fd, F, hm, hb⟩ := F
  refine ⟨f, fd, ?_, hm, hb⟩
  refine F.ok scAccess (fun vs H Q E h => ?_) (fun cdv A outer s H vs Q E hr h => ?_)
  · obtain ⟨m, t, w, r, th, B, A, S, rq, q, rfl, _⟩ := h
    rfl
  · obtain ⟨m, t, w, r, th, B, A0, S, rq, q, rfl, nok, D, hth, hq, ok, so, hB, vals, hfl, k⟩ := h
    obtain ⟨dx, h1⟩ := D.ob
    obtain ⟨da, ha⟩ := D.lay
    have hr3 : Room 3 _ := hr.mono (by decide)
    have hr8 : Room 8 _ := hr.mono (by decide)
    refine ⟨_, pss_cons (ps_if (PW.pt (pw_or (pt_not (pt_val (pm_ GH T.cl hr3 (pe_fld (pv 0) rfl) (pa_cons (pv 1) pa_nil)))) (pw_or1 (pt_not (pt_val (pc_ GA hr8 (pa_cons (pe_fld (pv 0) rfl) (pa_cons (pv 2) pa_nil)))))))) (pss_one ps_never) pss_nil)
      (pss_cons (ps_fldaug (pv 0) pe_int in_add)
      (pss_cons (ps_expr (pe_bm PySem.F.plainAttrs_list PySem.F.slot_list_append PySem.F.type_list_append mt_append (pe_fld (pv 0) rfl) (pa_cons (pe_tup (pa_cons (pe_fld (pv 0) rfl) (pa_cons (pv 1) (pa_cons (pv 2) pa_nil)))) pa_nil)))
      (pss_one (ps_ret (pe_tup (pa_cons (pm_ GR TM.cl hr (pv 0) (pa_cons (pv 1) (pa_cons (pv 2) pa_nil))) (pa_cons (pe_fld (pv 0) rfl) pa_nil))))))), ?_⟩
    refine ⟨_, rfl, m, M, dx, _, _, rfl, h1, TM.cl, TM.nL, rfl, A0.a, da, _, rfl, ha, rfl, _, rfl, A0.a, t, w, r, _, "int", rfl, rfl, ⟨da, ha⟩, _, rfl, ?_⟩
    rw [inW_nat, decide_eq_true hth]
    refine iteF ?_
    refine ⟨_, rfl, m, M, dx, _, _, rfl, h1, TM.cl, TM.nL, rfl, _, rfl, A0.a, q, t, w, r, rq, rfl, ⟨da, ha⟩, hq, ok, vals, fun H1 s1 => ⟨_, rfl, iteF ?_⟩⟩
    have D1 := D.same s1
    -- self.count += 1
    refine ⟨_, rfl, m, M, dx, _, _, rfl, s1 _ _ h1, TM.cl, TM.nC, rfl, _, _, rfl, rfl, dx, _, s1 _ _ h1, (by show 7 < 1000; decide), ?_⟩
    have D2 : MemAt C M (upd H1 m (.ins M dx (putF "count" (.int (S.count + 1)) (mf A0 S.count)))) m t w r A0 (S.withCount (S.count + 1)) := D1.setCount (S.count + 1) dx
    have q2 : upd H1 m (.ins M dx (putF "count" (.int (S.count + 1)) (mf A0 S.count))) q = some (.tup rq.vs) := by
      rw [upd_ne (ne_of hq h1 (by intro z; cases z))]
      exact s1 _ _ hq
    have st2 : Step m (t + w + r) A0 H A0 (upd H1 m (.ins M dx (putF "count" (.int (S.count + 1)) (mf A0 S.count)))) := (Step.same s1).trans (Step.up (.inl rfl))
    generalize hH2 : upd H1 m (.ins M dx (putF "count" (.int (S.count + 1)) (mf A0 S.count))) = H2 at D2 q2 st2 ⊢
    obtain ⟨dx2, h2⟩ := D2.ob
    -- self._log.append(..)
    refine ⟨_, rfl, m, M, dx2, _, _, rfl, h2, TM.cl, TM.nG, rfl, .inl ⟨rfl, _, SqL.of D2.gl⟩, _, rfl, m, M, dx2, _, _, rfl, h2, TM.cl, TM.nC, rfl, _, rfl, _, rfl, (by show 3 ≤ sizeLine; decide), fun u hu => ?_⟩
    have s3 : Same H2 (upd H2 u (.tup [.int (S.count + 1), .int (th : Int), .ref q])) := fun b o e => by rw [upd_ne (ne_of_none e hu)]; exact e
    have D3 := D2.same s3
    refine ⟨A0.gl, _, _, rfl, rfl, D3.gl, (by have := so.log; show S.log.length < sizeLine; omega), ?_⟩
    have D4 := D3.setLog (S.log ++ [.ref u])
    have q4 : upd (upd H2 u (.tup [.int (S.count + 1), .int (th : Int), .ref q])) A0.gl (.lst (S.log ++ [.ref u])) q = some (.tup rq.vs) := by
      rw [upd_ne (ne_of (s3 _ _ q2) D3.gl (by intro z; cases z))]
      exact s3 _ _ q2
    have st4 : Step m (t + w + r) A0 H A0 (upd (upd H2 u (.tup [.int (S.count + 1), .int (th : Int), .ref q])) A0.gl (.lst (S.log ++ [.ref u]))) := (st2.trans (Step.same s3)).trans (Step.up (.inr (.inr (.inr (.inr (.inr (.inl rfl)))))))
    have D4 : MemAt C M (upd (upd H2 u (.tup [.int (S.count + 1), .int (th : Int), .ref q])) A0.gl (.lst (S.log ++ [.ref u]))) m t w r A0 ((S.withCount (S.count + 1)).withLog (S.log ++ [.ref u])) := D4
    have hgoal : ∀ H4, MemAt C M H4 m t w r A0 ((S.withCount (S.count + 1)).withLog (S.log ++ [.ref u])) → H4 q = some (.tup rq.vs) → Step m (t + w + r) A0 H A0 H4 → (tRet (tTup (tCons (tMeth M "_result" (spResult K C M) [] E0 (tVar 0) (tCons (tVar 1) (tCons (tVar 2) tNil))) (tCons (tFld K (tVar 0) "count") tNil)))) { nx := fun _ H' => Q .non H', rt := Q } [some (.ref m), some (.int (th : Int)), some (.ref q)] H4 := fun H4 D4 q4 st4 => by
      obtain ⟨dx4, h4⟩ := D4.ob
      refine ⟨_, rfl, m, dx4, _, rfl, h4, rfl, _, rfl, _, rfl, m, t, w, r, th, B + 1, A0, _, rq, q, rfl, nok, D4, hth, q4, ok, so.logged, by omega, vals_ext vals (st4.ext D), flatAt_ext (flatAt_log hfl) (st4.ext D), fun v A' S' H5 ea R D5 st5 => ?_⟩
      obtain ⟨dx5, h5⟩ := D5.ob
      obtain ⟨hc, hlg⟩ := R.count
      refine ⟨_, rfl, m, M, dx5, _, _, rfl, h5, TM.cl, TM.nC, rfl, (by show 2 ≤ sizeLine; decide), fun p hp => ?_⟩
      have s6 : Same H5 (upd H5 p (.tup [v, .int S'.count])) := fun b o e => by rw [upd_ne (ne_of_none e hp)]; exact e
      refine k v (.ref u) p A' S' _ ea (R.ext ((st5.ext D4).trans (.of s6)) (.of s6)) ?_ (R.ok ok hth so.logged) (D5.same s6) ((st4.trans st5).trans (Step.same s6))
      rw [hc]
      exact upd_same
    exact hgoal _ D4 q4 st4
end
end Dk

set_option maxHeartbeats 4000000
/-! what the cells hold behind an access, a drift -/
namespace Dk
open PySem PySem.Spec PyProof.Rows L2
theorem cellV_give_same {S : MS} {t i : Nat} {v : V} (h : S.ps.length = 1 + t) : cellV (S.give t i v) t i = some v := by
  unfold MS.give cellV
  by_cases c : i < 1 + t
  · rw [if_pos c, if_pos c]
    show (S.ps.set i v)[i]? = some v
    rw [List.getElem?_set, if_pos rfl, if_pos (by omega)]
  · rw [if_neg c, if_neg c]
    show (sett S.tr (i - (1 + t)) (S.tr (i - (1 + t)) ++ [v]) (i - (1 + t))).getLast? = some v
    rw [sett_same]
    simp
theorem cellV_give_ne {S : MS} {t i c : Nat} {v : V} (h : c ≠ i) : cellV (S.give t i v) t c = cellV S t c := by
  unfold MS.give cellV
  by_cases ci : i < 1 + t
  · rw [if_pos ci]
    by_cases cc : c < 1 + t
    · rw [if_pos cc, if_pos cc]
      show (S.ps.set i v)[c]? = _
      rw [List.getElem?_set, if_neg (fun z => h z.symm)]
    · rw [if_neg cc, if_neg cc]
      rfl
  · rw [if_neg ci]
    by_cases cc : c < 1 + t
    · rw [if_pos cc, if_pos cc]
      rfl
    · rw [if_neg cc, if_neg cc]
      show (sett S.tr (i - (1 + t)) _ (c - (1 + t))).getLast? = _
      rw [sett_ne (by omega)]
theorem cellV_short {S : MS} {t j c : Nat} {k : Int} : cellV (S.short j k) t c = cellV S t c := by
  unfold cellV
  by_cases cc : c < 1 + t
  · rw [if_pos cc, if_pos cc]
    rfl
  · rw [if_neg cc, if_neg cc]
    show (sett S.tr j ((S.tr j).drop (cutN (S.tr j).length k)) (c - (1 + t))).getLast? = _
    by_cases cj : c - (1 + t) = j
    · rw [cj, sett_same]
      cases hl : S.tr j with
      | nil => simp
      | cons x xs =>
        have : cutN (x :: xs).length k < (x :: xs).length := by
          unfold cutN
          rw [List.length_cons]
          omega
        rw [List.getLast?_drop, if_neg (by omega)]
    · rw [sett_ne cj]
/-- what a cell holds, of a shape -/
def CellIs (K : PySem.W.Frag) (H : Hp) (X : MS) (t c : Nat) (u : Tr) : Prop := ∃ v, cellV X t c = some v ∧ Dvl K H v u
theorem CellIs.ext {K : PySem.W.Frag} {H H' : Hp} {X : MS} {t c : Nat} {u : Tr} (h : CellIs K H X t c u) (s : ExT H H') : CellIs K H' X t c u := let ⟨v, e, d⟩ := h; ⟨v, e, d.ext s⟩
theorem CellIs.same {K : PySem.W.Frag} {H H' : Hp} {X : MS} {t c : Nat} {u : Tr} (h : CellIs K H X t c u) (s : Same H H') : CellIs K H' X t c u := h.ext (.of s)
theorem CellIs.eq {K : PySem.W.Frag} {H : Hp} {X X' : MS} {t c : Nat} {u : Tr} (h : CellIs K H X t c u) (e : cellV X' t c = cellV X t c) : CellIs K H X' t c u := let ⟨v, e', d⟩ := h; ⟨v, e.trans e', d⟩
def Nice (u : Tr) : Prop := u.ok ∧ u.sz < 1000 ∧ u.data.depth ≤ 10
theorem nice_int (i : Int) : Nice (.sc (.int i)) := ⟨rfl, by show 1 < 1000; decide, by show (PyData.int i).depth ≤ 10; simp [PyData.depth]⟩
theorem nice_non : Nice (.sc .non) := ⟨rfl, by show 1 < 1000; decide, by show PyData.none.depth ≤ 10; simp [PyData.depth]⟩
theorem nice_tup4 (a b c d : Int) : Nice (.tup [.sc (.int a), .sc (.int b), .sc (.int c), .sc (.int d)]) := by
  refine ⟨shaped_iff.mpr ⟨?_, ?_⟩, by show 1 + (1 + (1 + (1 + (1 + 0)))) < 1000; decide, ?_⟩
  · simp [Tr.data, datas, PyData.canLay0, PyData.canLayAll0]
  · simp [Tr.data, datas, PyData.depth, PyData.depthAll]
  · simp [Tr.data, datas, PyData.depth, PyData.depthAll]
theorem nice_st (x : Str) (i : Int) (hx : (PyData.str x).canLay0 = true) : Nice (.tup [.sc (.str x), .sc (.int i)]) := by
  refine ⟨shaped_iff.mpr ⟨?_, ?_⟩, by show 1 + (1 + (1 + 0)) < 1000; decide, ?_⟩
  · simp [Tr.data, datas, PyData.canLay0, PyData.canLayAll0] at hx ⊢
    exact hx
  · simp [Tr.data, datas, PyData.depth, PyData.depthAll]
  · simp [Tr.data, datas, PyData.depth, PyData.depthAll]
theorem nice_items : Nice (.tup [.sc (.str "items"), .tup []]) := by
  refine ⟨(show SeqAt.shaped (Tr.tup [.sc (.str "items"), .tup []]).data = true by decide +kernel), by decide, ?_⟩
  simp [Tr.data, datas, PyData.depth, PyData.depthAll]
theorem Nice.dvl {K : PySem.W.Frag} {H : Hp} {v : V} {u : Tr} (n : Nice u) (d : DV K H v u) : Dvl K H v u := ⟨d, n.1, Nat.lt_trans n.2.1 (by decide)⟩
theorem dv_int {K : PySem.W.Frag} {H : Hp} {v : V} {i : Int} (d : DV K H v (.sc (.int i))) : v = .int i := by cases d; rfl
theorem dv_tup {K : PySem.W.Frag} {H : Hp} {v : V} {l : List Tr} (d : DV K H v (.tup l)) : ∃ a xs, v = .ref a ∧ SqT K H a xs ∧ DVs K H xs l := by
  cases d with
  | tup h e => exact ⟨_, _, rfl, h, e⟩
theorem dvs_cons {K : PySem.W.Frag} {H : Hp} {xs : List V} {w : V} {l : List Tr} (d : DVs K H xs (.sc w :: l)) : ∃ ys, xs = w :: ys ∧ DVs K H ys l := by
  cases d with
  | cons a b =>
    cases a
    exact ⟨_, rfl, b⟩
theorem dvs_nil {K : PySem.W.Frag} {H : Hp} {xs : List V} (d : DVs K H xs []) : xs = [] := by cases d; rfl
end Dk

set_option maxHeartbeats 4000000
/-! is_many -/
namespace Dk
open PySem PySem.Spec PyProof.Rows L2
abbrev sMany : Stmt := top 7
def spMany : Sp := fun vs H Q _ => ∃ v t, vs = [v] ∧ vty v = some t ∧ Q (.bl (manyB v)) H
section
variable {P : Program} {w : World} {K : PySem.W.Frag} {mg : Str → Option Value} {base : Heap} {C M NV LE : Addr}
theorem scMany : FnScope ["value"] ["value"] (defScope sMany) := ⟨rfl, rfl, rfl, by decide +kernel, rfl, by decide +kernel, by decide +kernel⟩
theorem go_many (F : GT K mg "is_many" sMany ["value"]) (G : GO P w K mg base CX0 1 "is_whole" ["value"] spWhole) : GO P w K mg base CX0 2 "is_many" ["value"] spMany := by
  obtain ⟨f, fd, F, hm, hb⟩ := F
  refine ⟨f, fd, ?_, hm, F.kp, hb⟩
  refine F.ok scMany (fun vs H Q E h => ?_) (fun cdv A outer s H vs Q E hr h => ?_)
  · obtain ⟨v, t, rfl, _⟩ := h
    rfl
  · obtain ⟨v, t, rfl, ht, k⟩ := h
    refine ⟨_, pss_one (ps_ret (pe_and (pc_ G hr (pa_cons (pv 0) pa_nil)) (pe_one (pe_cmpR op_ge (pv 0) pe_int (nomark _))))), ?_⟩
    refine ⟨_, rfl, v, t, rfl, ht, _, rfl, ?_⟩
    cases v <;> cases ht
    · exact iteF k
    · exact iteF k
    · exact iteT ⟨_, rfl, _, _, rfl, rfl, k⟩
    · exact iteF k
end
end Dk

set_option maxHeartbeats 4000000
/-! drift -/
namespace Dk
open PySem PySem.Spec PyProof.Rows L2
abbrev sDrift : Stmt := inClass (top 17) 5
def spDrift (C M : Addr) : Sp := fun vs H Q _ => ∃ (m : Addr) (t w r j k : Nat) (A : Adr) (S : MS), vs = [.ref m, .int ((1 + t + j : Nat) : Int), .int (k : Int)] ∧ NOk t w r ∧ MemAt C M H m t w r A S ∧ j < t + w + r ∧ S.tr j ≠ [] ∧
  ∀ H', MemAt C M H' m t w r A (S.short j k) → Step m (t + w + r) A H A H' → Q .non H'
section
variable {P : Program} {w : World} {K : PySem.W.Frag} {mg : Str → Option Value} {base : Heap} {C M NV LE : Addr}
theorem scDrift : FnScope ["self", "cell", "steps"] ["self", "cell", "steps"] (defScope sDrift) := ⟨rfl, rfl, rfl, by decide +kernel, rfl, by decide +kernel, by decide +kernel⟩
theorem mo_drift (F : MT K M "drift" "Memory.drift" sDrift ["self", "cell", "steps"]) (TM : MTxt K M) (GA : MO P w K mg base (L2.CX P w) M 8 "_ask_lasting" ["self", "cell"] (spAsk C M NV)) (GM : GO P w K mg base CX0 2 "is_many" ["value"] spMany)
    (GS : MO P w K mg base CX0 M 1 "_shorten" ["self", "cell", "steps"] (spShort C M)) : MO P w K mg base CX0 M 9 "drift" ["self", "cell", "steps"] (spDrift C M) := by
  obtain ⟨f, fd, F, hm, hb⟩ := F
  refine ⟨f, fd, ?_, hm, hb⟩
  refine F.ok scDrift (fun vs H Q E h => ?_) (fun cdv A outer s H vs Q E hr h => ?_)
  · obtain ⟨m, t, w, r, j, k, A, S, rfl, _⟩ := h
    rfl
  · obtain ⟨m, t, w, r, j, x, A0, S, rfl, nok, D, hj, hne, k⟩ := h
    obtain ⟨dx, h1⟩ := D.ob
    refine ⟨_, pss_cons (ps_expr (pmX_ GA TM.cl hr (pv 0) (pa_cons (pv 1) pa_nil))) (pss_cons (ps_if (pt_not (pt_val (pc_ GM (hr.mono (by decide)) (pa_cons (pv 2) pa_nil)))) (pss_one ps_never) pss_nil)
      (pss_one (ps_expr (pm_ GS TM.cl (hr.mono (by decide)) (pv 0) (pa_cons (pv 1) (pa_cons (pv 2) pa_nil)))))), ?_⟩
    refine ⟨_, rfl, m, dx, _, rfl, h1, rfl, _, rfl, m, t, w, r, 1 + t + j, A0, S, rfl, D, fun _ => ?_, fun c => absurd (by omega) c⟩
    refine ⟨_, rfl, _, "int", rfl, rfl, _, rfl, ?_⟩
    have e : manyB (.int (x : Int)) = true := by
      show decide ((0 : Int) ≤ (x : Int)) = true
      exact decide_eq_true (by omega)
    rw [e]
    refine iteF ?_
    exact ⟨_, rfl, m, dx, _, rfl, h1, rfl, _, rfl, _, rfl, m, t, w, r, j, A0, S, _, rfl, nok, D, hj, hne, fun H' D' st => k H' D' st⟩
end
end Dk

set_option maxHeartbeats 4000000
/-! a cut of the power -/
namespace Dk
open PySem PySem.Spec PyProof.Rows L2
abbrev sCut : Stmt := inClass (top 17) 6
/-- the trails behind the drifts of a cut -/
def cutT (S : MS) (ks : List Nat) (j : Nat) : List V := (S.tr j).drop (cutN (S.tr j).length ((ks.getD j 0 : Nat) : Int))
theorem cutT_ne {S : MS} {ks : List Nat} {j : Nat} (h : S.tr j ≠ []) : cutT S ks j ≠ [] := by
  have h2 : 0 < (S.tr j).length := List.length_pos_iff.mpr h
  refine List.length_pos_iff.mp ?_
  unfold cutT
  rw [List.length_drop]
  unfold cutN
  omega
section
variable {C M : Addr} {H : Hp} {m : Addr} {t w r : Nat} {A : Adr} {S : MS}
theorem MemAt.newPs (D : MemAt C M H m t w r A S) {H1 : Hp} {p : Addr} {l : List V} (s : Same H H1) (hp : H p = none) (h1 : H1 p = some (.lst l)) (dx : Addr) :
    MemAt C M (upd H1 m (.ins M dx (mf { A with pl := p } S.count))) m t w r { A with pl := p } (S.withPs l) := by
  obtain ⟨dx', hl⟩ := D.ob
  obtain ⟨da, hlay⟩ := D.lay
  have pn : ∀ {b : Addr} {o : HO}, H b = some o → p ≠ b := fun {b o} e => (ne_of_none e hp).symm
  have hm := s _ _ hl
  refine ⟨⟨dx, upd_same⟩, ⟨da, ?_⟩, ?_, ⟨?_, fun i hi => ?_, D.tr.inj⟩, ?_, ?_, D.nn, D.nd, fun i b hb => ?_, ?_, fun j hj => ?_, ?_, D.d3, D.d4, D.d5⟩
  · rw [upd_ne D.d5.symm]; exact s _ _ hlay
  · rw [upd_ne (pn hl)]; exact h1
  · rw [upd_ne (ne_of (s _ _ D.tr.d) hm (by intro z; cases z))]; exact s _ _ D.tr.d
  · rw [upd_ne (ne_of (s _ _ (D.tr.l i hi)) hm (by intro z; cases z))]; exact s _ _ (D.tr.l i hi)
  · rw [upd_ne (ne_of (s _ _ D.ld) hm (by intro z; cases z))]; exact s _ _ D.ld
  · rw [upd_ne (ne_of (s _ _ D.nl) hm (by intro z; cases z))]; exact s _ _ D.nl
  · obtain ⟨ns, e1, e2⟩ := D.no i b hb
    exact ⟨ns, e1, by rw [upd_ne (ne_of (s _ _ e2) hm (by intro z; cases z))]; exact s _ _ e2⟩
  · rw [upd_ne (ne_of (s _ _ D.gl) hm (by intro z; cases z))]; exact s _ _ D.gl
  · exact ⟨(pn (D.tr.l j hj)).symm, (D.d1 j hj).2.1, (D.d1 j hj).2.2⟩
  · exact ⟨pn D.gl, pn D.nl, D.d2.2.2⟩
theorem MemAt.newNl (D : MemAt C M H m t w r A S) {H1 : Hp} {p : Addr} {na : List Addr} (s : Same H H1) (hp : H p = none) (h1 : H1 p = some (.lst (na.map V.ref))) (hn : na.length = t) (hd : na.Nodup) (hb : ∀ b, b ∈ na → H1 b = some (.dK []) ∧ H b = none) (dx : Addr) :
    MemAt C M (upd H1 m (.ins M dx (mf { A with nl := p, na := na } S.count))) m t w r { A with nl := p, na := na } (S.withNotes (List.replicate t [])) := by
  obtain ⟨dx', hl⟩ := D.ob
  obtain ⟨da, hlay⟩ := D.lay
  have pn : ∀ {b : Addr} {o : HO}, H b = some o → p ≠ b := fun {b o} e => (ne_of_none e hp).symm
  have hm := s _ _ hl
  refine ⟨⟨dx, upd_same⟩, ⟨da, ?_⟩, ?_, ⟨?_, fun i hi => ?_, D.tr.inj⟩, ?_, ?_, hn, hd, fun i b hbi => ?_, ?_, fun j hj => ?_, ?_, D.d3, fun b hbm => ?_, D.d5⟩
  · rw [upd_ne D.d5.symm]; exact s _ _ hlay
  · rw [upd_ne (ne_of (s _ _ D.ps) hm (by intro z; cases z))]; exact s _ _ D.ps
  · rw [upd_ne (ne_of (s _ _ D.tr.d) hm (by intro z; cases z))]; exact s _ _ D.tr.d
  · rw [upd_ne (ne_of (s _ _ (D.tr.l i hi)) hm (by intro z; cases z))]; exact s _ _ (D.tr.l i hi)
  · rw [upd_ne (ne_of (s _ _ D.ld) hm (by intro z; cases z))]; exact s _ _ D.ld
  · rw [upd_ne (pn hl)]; exact h1
  · have hbm : b ∈ na := List.mem_of_getElem? hbi
    refine ⟨[], ?_, ?_⟩
    · show (List.replicate t ([] : List (Key × V)))[i]? = some []
      have hi : i < na.length := (List.getElem?_eq_some_iff.mp hbi).1
      rw [List.getElem?_replicate, if_pos (by omega)]
    · rw [upd_ne (ne_of (hb b hbm).1 hm (by intro z; cases z))]
      exact (hb b hbm).1
  · rw [upd_ne (ne_of (s _ _ D.gl) hm (by intro z; cases z))]; exact s _ _ D.gl
  · exact ⟨(D.d1 j hj).1, (D.d1 j hj).2.1, (pn (D.tr.l j hj)).symm⟩
  · exact ⟨D.d2.1, (pn D.ps).symm, (pn D.gl).symm⟩
  · have e := (hb b hbm).2
    exact ⟨(ne_of_none D.tr.d e).symm, (ne_of_none D.ld e).symm⟩
end
def spCut (C M : Addr) : Sp := fun vs H Q _ => ∃ (m ch : Addr) (t w r : Nat) (A : Adr) (S : MS) (ks : List Nat), vs = [.ref m, .ref ch] ∧ NOk t w r ∧ MemAt C M H m t w r A S ∧ H ch = some (.lst (ks.map fun (k : Nat) => V.int (k : Int))) ∧ ¬ Foot m A (t + w + r) ch ∧ ks.length < 1000 ∧ (∀ j, j < t + w + r → S.tr j ≠ []) ∧
  ∀ (A' : Adr) (S' : MS) (H' : Hp), A'.a = A.a → S'.count = S.count → S'.log = S.log → S'.ps = .int 0 :: List.replicate t .non → S'.notes = List.replicate t [] → (∀ j, j < t + w + r → S'.tr j = (cutT S ks j).take 1) → MemAt C M H' m t w r A' S' → Step m (t + w + r) A H A' H' → Q .non H'
end Dk

set_option maxHeartbeats 4000000
/-! values without truth values: == is being the same tree; lists of values -/
namespace Dk
open PySem PySem.Spec PyProof.Rows L2
mutual
def Plain : Tr → Prop
  | .sc .non => True
  | .sc (.int _) => True
  | .sc (.str _) => True
  | .sc _ => False
  | .tup l => Plains l
def Plains : List Tr → Prop
  | [] => True
  | t :: l => Plain t ∧ Plains l
end
theorem plain_cases {v : V} (h : Plain (.sc v)) : v = .non ∨ (∃ i, v = .int i) ∨ ∃ s, v = .str s := by
  cases v with
  | non => exact .inl rfl
  | int i => exact .inr (.inl ⟨i, rfl⟩)
  | str s => exact .inr (.inr ⟨s, rfl⟩)
  | _ => simp [Plain] at h
mutual
theorem eqv_plain : ∀ (t u : Tr), Plain t → Plain u → PyData.eqv t.data u.data = true → t = u
  | .sc v, .sc x, h, k, e => by
    rcases plain_cases h with rfl | ⟨i, rfl⟩ | ⟨s, rfl⟩ <;> rcases plain_cases k with rfl | ⟨j, rfl⟩ | ⟨z, rfl⟩ <;> first
      | rfl
      | (simp only [Tr.data, PyData.eqv] at e; rw [eq_of_beq e])
      | simp [Tr.data, PyData.eqv] at e
  | .sc v, .tup l, h, k, e => by
    rcases plain_cases h with rfl | ⟨i, rfl⟩ | ⟨s, rfl⟩ <;> simp [Tr.data, PyData.eqv] at e
  | .tup l, .sc v, h, k, e => by
    rcases plain_cases k with rfl | ⟨i, rfl⟩ | ⟨s, rfl⟩ <;> simp [Tr.data, PyData.eqv] at e
  | .tup l, .tup m, h, k, e => by
    rw [Tr.data, Tr.data, PyData.eqv] at e
    rw [eqvs_plain l m h k e]
theorem eqvs_plain : ∀ (l m : List Tr), Plains l → Plains m → PyData.eqvAll (datas l) (datas m) = true → l = m
  | [], [], _, _, _ => rfl
  | [], u :: m, _, _, e => by simp [datas, PyData.eqvAll] at e
  | t :: l, [], _, _, e => by simp [datas, PyData.eqvAll] at e
  | t :: l, u :: m, h, k, e => by
    simp only [datas, PyData.eqvAll, Bool.and_eq_true] at e
    rw [eqv_plain t u h.1 k.1 e.1, eqvs_plain l m h.2 k.2 e.2]
end
/-- a value of a cell, small and without truth values -/
structure Fine (t : Tr) : Prop where
  o : t.ok
  z : t.sz < 50
  d : t.data.depth ≤ 4
  p : Plain t
theorem Fine.dvl {K : PySem.W.Frag} {H : Hp} {v : V} {u : Tr} (n : Fine u) (d : DV K H v u) : Dvl K H v u := ⟨d, n.o, Nat.lt_trans n.z (by decide)⟩
theorem Fine.eqT {t : Tr} (h : Fine t) : PyData.eqv t.data t.data = true := SeqAt.eqv_refl _ (SeqAt.canLay_of_shaped h.o)
theorem Fine.eqF {t u : Tr} (h : Fine t) (k : Fine u) (e : t ≠ u) : PyData.eqv t.data u.data = false := by
  cases q : PyData.eqv t.data u.data with
  | false => rfl
  | true => exact absurd (eqv_plain _ _ h.p k.p q) e
theorem fine_int (i : Int) : Fine (.sc (.int i)) := ⟨rfl, by show 1 < 50; decide, by show (PyData.int i).depth ≤ 4; simp [PyData.depth], trivial⟩
theorem fine_non : Fine (.sc .non) := ⟨rfl, by show 1 < 50; decide, by show PyData.none.depth ≤ 4; simp [PyData.depth], trivial⟩
theorem fine_str {s : Str} (h : (PyData.str s).canLay0 = true) : Fine (.sc (.str s)) := ⟨shaped_iff.mpr ⟨h, by simp [Tr.data, PyData.depth]⟩, by show 1 < 50; decide, by simp [Tr.data, PyData.depth], trivial⟩
theorem fine_ii (i j : Int) : Fine (.tup [.sc (.int i), .sc (.int j)]) := by
  refine ⟨shaped_iff.mpr ⟨?_, ?_⟩, by show 1 + (1 + (1 + 0)) < 50; decide, ?_, ⟨trivial, trivial, trivial⟩⟩
  · simp [Tr.data, datas, PyData.canLay0, PyData.canLayAll0]
  · simp [Tr.data, datas, PyData.depth, PyData.depthAll]
  · simp [Tr.data, datas, PyData.depth, PyData.depthAll]
theorem fine_si {s : Str} (h : (PyData.str s).canLay0 = true) (j : Int) : Fine (.tup [.sc (.str s), .sc (.int j)]) := by
  refine ⟨shaped_iff.mpr ⟨?_, ?_⟩, by show 1 + (1 + (1 + 0)) < 50; decide, ?_, ⟨trivial, trivial, trivial⟩⟩
  · simp [Tr.data, datas, PyData.canLay0, PyData.canLayAll0] at h ⊢
    exact h
  · simp [Tr.data, datas, PyData.depth, PyData.depthAll]
  · simp [Tr.data, datas, PyData.depth, PyData.depthAll]
theorem fine_items : Fine (.tup [.sc (.str "items"), .tup []]) := by
  refine ⟨(show SeqAt.shaped (Tr.tup [.sc (.str "items"), .tup []]).data = true by decide +kernel), by decide, ?_, ⟨trivial, trivial, trivial⟩⟩
  simp [Tr.data, datas, PyData.depth, PyData.depthAll]
/-- lists of values -/
theorem fines_lay : ∀ {l : List Tr}, (∀ t ∈ l, Fine t) → PyData.canLayAll0 (datas l) = true ∧ PyData.depthAll (datas l) ≤ 4
  | [], _ => ⟨by simp [datas, PyData.canLayAll0], by simp [datas, PyData.depthAll]⟩
  | t :: l, h => by
    have ih := fines_lay (l := l) fun u hu => h u (List.mem_cons_of_mem _ hu)
    have ht := h t List.mem_cons_self
    refine ⟨?_, ?_⟩
    · simp only [datas, PyData.canLayAll0, Bool.and_eq_true]
      exact ⟨(shaped_iff.mp ht.o).1, ih.1⟩
    · simp only [datas, PyData.depthAll]
      have := ht.d
      omega
theorem fines_shaped {l : List Tr} (h : ∀ t ∈ l, Fine t) : SeqAt.shaped (.list (datas l)) = true := by
  obtain ⟨h1, h2⟩ := fines_lay h
  refine shaped_iff.mpr ⟨by simp only [PyData.canLay0]; exact h1, ?_⟩
  simp only [PyData.depth]
  omega
theorem eqv_sh {d : PyData} (h : SeqAt.shaped d = true) : PyData.eqv d d = true := SeqAt.eqv_refl _ (SeqAt.canLay_of_shaped h)
/-- a list of values, and their trees -/
def Vls (K : PySem.W.Frag) (H : Hp) (xs : List V) (us : List Tr) : Prop := DVs K H xs us ∧ ∀ t ∈ us, Fine t
theorem Vls.ext {K : PySem.W.Frag} {H H' : Hp} {xs : List V} {us : List Tr} (h : Vls K H xs us) (s : ExT H H') : Vls K H' xs us := ⟨DVs.extT s _ _ h.1, h.2⟩
theorem Vls.len {K : PySem.W.Frag} {H : Hp} {xs : List V} {us : List Tr} (h : Vls K H xs us) : xs.length = us.length := (DVs.len h.1).1
theorem Vls.lst {K : PySem.W.Frag} {H : Hp} {a : Addr} {xs : List V} {us : List Tr} (h : Vls K H xs us) (ha : H a = some (.lst xs)) : Dp K H (.ref a) (.list (datas us)) := .lst (SqL.of ha) (DVs.dp _ _ h.1)
theorem dvs_app {K : PySem.W.Frag} {H : Hp} : ∀ {xs : List V} {us : List Tr} {x : V} {t : Tr}, DVs K H xs us → DV K H x t → DVs K H (xs ++ [x]) (us ++ [t])
  | _, _, _, _, .nil, d => .cons d .nil
  | _, _, _, _, .cons a b, d => .cons a (dvs_app b d)
theorem dvs_get {K : PySem.W.Frag} {H : Hp} : ∀ {xs : List V} {us : List Tr}, DVs K H xs us → ∀ {i : Nat} {x : V}, xs[i]? = some x → ∃ t, us[i]? = some t ∧ DV K H x t
  | _, _, .nil, i, x, h => by cases h
  | _, _, .cons (t := t) a b, 0, x, h => by
    cases h
    exact ⟨t, rfl, a⟩
  | _, _, .cons a b, i + 1, x, h => dvs_get b (i := i) (by simpa using h)
theorem dvs_drop {K : PySem.W.Frag} {H : Hp} : ∀ {xs : List V} {us : List Tr} (n : Nat), DVs K H xs us → DVs K H (xs.drop n) (us.drop n)
  | _, _, 0, h => h
  | _, _, n + 1, .nil => .nil
  | _, _, n + 1, .cons a b => dvs_drop n b
theorem dvs_take {K : PySem.W.Frag} {H : Hp} : ∀ {xs : List V} {us : List Tr} (n : Nat), DVs K H xs us → DVs K H (xs.take n) (us.take n)
  | _, _, 0, h => .nil
  | _, _, n + 1, .nil => .nil
  | _, _, n + 1, .cons a b => .cons a (dvs_take n b)
theorem Vls.app {K : PySem.W.Frag} {H : Hp} {xs : List V} {us : List Tr} {x : V} {t : Tr} (h : Vls K H xs us) (d : DV K H x t) (f : Fine t) : Vls K H (xs ++ [x]) (us ++ [t]) :=
  ⟨dvs_app h.1 d, fun u hu => (List.mem_append.mp hu).elim (h.2 u) fun z => by rw [List.mem_singleton.mp z]; exact f⟩
theorem Vls.drop {K : PySem.W.Frag} {H : Hp} {xs : List V} {us : List Tr} (n : Nat) (h : Vls K H xs us) : Vls K H (xs.drop n) (us.drop n) := ⟨dvs_drop n h.1, fun u hu => h.2 u (List.mem_of_mem_drop hu)⟩
theorem Vls.take {K : PySem.W.Frag} {H : Hp} {xs : List V} {us : List Tr} (n : Nat) (h : Vls K H xs us) : Vls K H (xs.take n) (us.take n) := ⟨dvs_take n h.1, fun u hu => h.2 u (List.mem_of_mem_take hu)⟩
theorem Vls.one {K : PySem.W.Frag} {H : Hp} {x : V} {t : Tr} (d : DV K H x t) (f : Fine t) : Vls K H [x] [t] := ⟨.cons d .nil, fun u hu => by rw [List.mem_singleton.mp hu]; exact f⟩
/-- two lists with the same trees -/
def Twin (K : PySem.W.Frag) (H : Hp) (xs ys : List V) : Prop := ∃ us, Vls K H xs us ∧ Vls K H ys us
theorem Twin.ext {K : PySem.W.Frag} {H H' : Hp} {xs ys : List V} (h : Twin K H xs ys) (s : ExT H H') : Twin K H' xs ys := let ⟨us, a, b⟩ := h; ⟨us, a.ext s, b.ext s⟩
theorem Twin.len {K : PySem.W.Frag} {H : Hp} {xs ys : List V} (h : Twin K H xs ys) : xs.length = ys.length := let ⟨us, a, b⟩ := h; a.len.trans b.len.symm
theorem Twin.drop {K : PySem.W.Frag} {H : Hp} {xs ys : List V} (n : Nat) (h : Twin K H xs ys) : Twin K H (xs.drop n) (ys.drop n) := let ⟨us, a, b⟩ := h; ⟨us.drop n, a.drop n, b.drop n⟩
theorem Twin.take {K : PySem.W.Frag} {H : Hp} {xs ys : List V} (n : Nat) (h : Twin K H xs ys) : Twin K H (xs.take n) (ys.take n) := let ⟨us, a, b⟩ := h; ⟨us.take n, a.take n, b.take n⟩
theorem Twin.app {K : PySem.W.Frag} {H : Hp} {xs ys : List V} {x y : V} {t : Tr} (h : Twin K H xs ys) (d : DV K H x t) (e : DV K H y t) (f : Fine t) : Twin K H (xs ++ [x]) (ys ++ [y]) := let ⟨us, a, b⟩ := h; ⟨us ++ [t], a.app d f, b.app e f⟩
theorem Twin.one {K : PySem.W.Frag} {H : Hp} {x y : V} {t : Tr} (d : DV K H x t) (e : DV K H y t) (f : Fine t) : Twin K H [x] [y] := ⟨[t], .one d f, .one e f⟩
theorem Twin.get {K : PySem.W.Frag} {H : Hp} {xs ys : List V} (h : Twin K H xs ys) {i : Nat} {x : V} (hx : xs[i]? = some x) : ∃ y t, ys[i]? = some y ∧ DV K H x t ∧ DV K H y t ∧ Fine t := by
  obtain ⟨us, a, b⟩ := h
  obtain ⟨t, ht, d⟩ := dvs_get a.1 hx
  have hi := (List.getElem?_eq_some_iff.mp hx).1
  have hj : i < ys.length := by have := a.len; have := b.len; omega
  obtain ⟨t', ht', d'⟩ := dvs_get b.1 (List.getElem?_eq_getElem hj)
  rw [ht] at ht'
  cases ht'
  exact ⟨_, t, List.getElem?_eq_getElem hj, d, d', a.2 t (List.mem_of_getElem? ht)⟩
theorem Twin.last {K : PySem.W.Frag} {H : Hp} {xs ys : List V} (h : Twin K H xs ys) {x : V} (hx : xs.getLast? = some x) : ∃ y t, ys.getLast? = some y ∧ DV K H x t ∧ DV K H y t ∧ Fine t := by
  rw [List.getLast?_eq_getElem?] at hx
  obtain ⟨y, t, h1, h2⟩ := h.get hx
  refine ⟨y, t, ?_, h2⟩
  rw [List.getLast?_eq_getElem?, ← h.len]
  exact h1
theorem Twin.symm {K : PySem.W.Frag} {H : Hp} {xs ys : List V} (h : Twin K H xs ys) : Twin K H ys xs := let ⟨us, a, b⟩ := h; ⟨us, b, a⟩
end Dk

set_option maxHeartbeats 8000000
/-! accesses, drifts and cuts that are refused -/
namespace Dk
open PySem PySem.Spec PyProof.Rows L2
theorem ds_get {f : Int} {n i : Nat} {g : Nat → V} (h : i < n) : ((kv f n g).map fun p => kV p.1)[i]? = some (V.int (f + (i : Int))) := by
  unfold kv
  rw [List.getElem?_map, List.getElem?_map, List.getElem?_range h]
  rfl
theorem ds_len {f : Int} {n : Nat} {g : Nat → V} : ((kv f n g).map fun p => kV p.1).length = n := by
  rw [List.length_map, kv_len]
theorem all_many (ks : List Nat) : (ks.map fun _ => true).all id = true := by
  rw [List.all_eq_true]
  intro x hx
  obtain ⟨_, _, e⟩ := List.mem_map.mp hx
  rw [← e]
  rfl
/-- what is no access -/
inductive BadRq : List V → Prop
  | flush (i : Int) : lastB 2 2 6 (.int i) = false → BadRq [.str "flush", .int i]
  | read (i : Int) : inW 0 (cells 2 2 6 - 1) (.int i) = false → BadRq [.str "read", .int i]
  | swap (i : Int) : inW 0 (cells 2 2 6 - 1) (.int i) = false → BadRq [.str "swap", .int i, .int 0, .int 0]
  | fence1 : BadRq [.str "fence", .int 1]
  | end1 : BadRq [.str "end", .int 1]
  | write5 : BadRq [.str "write", .int 5]
  | nil : BadRq []
theorem mskip {kind : Str} {is : List Nat} {tb : TS} {tr : Addr → List V → TS} {a : Addr} {xs : List V} {D : Ends} {σ : L2.St} {H : Hp} (hlen : xs.length ≠ is.length + 1) (h : tr a xs D σ H) : mCase kind is tb tr a xs D σ H := by
  unfold mCase
  rw [if_neg hlen]
  exact h
def spIsAcc2 (K : PySem.W.Frag) (C : Addr) : Sp := fun vs H Q E => spIsAcc K C vs H Q E ∨ ∃ (la q : Addr) (ys : List V), vs = [.ref la, .ref q] ∧ LayAt C H la 2 2 6 ∧ H q = some (.tup ys) ∧ BadRq ys ∧ Q (.bl false) H
def spAccess2 (K : PySem.W.Frag) (C M NV : Addr) : Sp := fun vs H Q E => spAccess K C M vs H Q E ∨ ∃ (m q : Addr) (th : Int) (A : Adr) (S : MS) (ys : List V), vs = [.ref m, .int th, .ref q] ∧ MemAt C M H m 2 2 6 A S ∧ H q = some (.tup ys) ∧ (inW 0 (2 - 1) (.int th) = false ∨ inW 0 (2 - 1) (.int th) = true ∧ BadRq ys) ∧ E (.ref NV) none H
def spAsk2 (C M NV : Addr) : Sp := fun vs H Q E => ∃ (m : Addr) (t w r : Nat) (i : Int) (A : Adr) (S : MS), vs = [.ref m, .int i] ∧ MemAt C M H m t w r A S ∧ (lastB t w r (.int i) = true → Q .non H) ∧ (lastB t w r (.int i) = false → E (.ref NV) none H)
def spDrift2 (C M NV : Addr) : Sp := fun vs H Q E => spDrift C M vs H Q E ∨ ∃ (m : Addr) (i : Int) (v : V) (t : String) (A : Adr) (S : MS), vs = [.ref m, .int i, v] ∧ vty v = some t ∧ MemAt C M H m 2 2 6 A S ∧ (lastB 2 2 6 (.int i) = false ∨ lastB 2 2 6 (.int i) = true ∧ manyB v = false) ∧ E (.ref NV) none H
/-- what is no list of choices -/
inductive BadCh (H : Hp) : V → Prop
  | non : BadCh H .non
  | tup {q : Addr} {xs : List V} : H q = some (.tup xs) → BadCh H (.ref q)
  | lst {q : Addr} {xs : List V} : H q = some (.lst xs) → xs.length < 1000 → (∀ x ∈ xs, ∃ t, vty x = some t) → (xs.map manyB).all id = false → BadCh H (.ref q)
def spCut2 (C M NV : Addr) : Sp := fun vs H Q E => spCut C M vs H Q E ∨ ∃ (m : Addr) (v : V), vs = [.ref m, v] ∧ BadCh H v ∧ ∀ H', Same H H' → E (.ref NV) none H'
section
variable {P : Program} {w : World} {K : PySem.W.Frag} {mg : Str → Option Value} {base : Heap} {C M NV LE : Addr}
theorem go_isacc2 (F : GT K mg "is_access" sIsAcc ["layout", "request"]) (T : LTxt K mg C) (GI : MO P w K mg base CX0 C 6 "is_cell" ["self", "cell"] (spLV C fun t w r v => .bl (inW 0 (cells t w r - 1) v)))
    (GL : MO P w K mg base CX0 C 7 "is_lasting" ["self", "cell"] (spLV C fun t w r v => .bl (lastB t w r v))) (GV : GO P w K mg base CX0 1 "is_value" ["value"] (spIsValueD K)) : GO P w K mg base CX0 8 "is_access" ["layout", "request"] (spIsAcc2 K C) := by
  obtain ⟨f, fd, F, hm, hb⟩ := F
  refine ⟨f, fd, ?_, hm, F.kp, hb⟩
  refine F.ok scIsAcc (fun vs H Q E h => ?_) (fun cdv A outer s H vs Q E hr h => ?_)
  · rcases h with ⟨la, q, t, w, r, rq, rfl, _⟩ | ⟨la, q, ys, rfl, _⟩ <;> rfl
  · have nd := scIsAcc.nd
    have hr6 : Room 6 _ := hr.mono (by decide)
    have hr1 : Room 1 _ := hr.mono (by decide)
    refine ⟨_, pss_cons (ps_if (pt_not (pt_val (pe_callB call_isi (by rfl) T.bn.isi (by decide +kernel) (pa_cons (pv 1) (pa_cons (pe_bltn (v := .ty "tuple") (by rfl) T.bn.tuple (by decide +kernel) rfl) pa_nil))))) (pss_one ps_never) pss_nil)
      (pss_cons (ps_match (pv 1)
        (pms_case (is := [2]) rfl nd (.cons rfl rfl .nil) (pss_one (ps_ret (pm_ GI T.cl hr6 (pv 0) (pa_cons (pv 2) pa_nil))))
        (pms_case (is := [2, 3]) rfl nd (.cons rfl rfl (.cons rfl rfl .nil)) (pss_one (ps_ret (pe_and (pm_ GI T.cl hr6 (pv 0) (pa_cons (pv 2) pa_nil)) (pe_one (pc_ GV hr1 (pa_cons (pv 3) pa_nil))))))
        (pms_case (is := [2, 4, 5]) rfl nd (.cons rfl rfl (.cons rfl rfl (.cons rfl rfl .nil))) (pss_one (ps_ret (pe_and (pm_ GI T.cl hr6 (pv 0) (pa_cons (pv 2) pa_nil)) (pe_and (pc_ GV hr1 (pa_cons (pv 4) pa_nil)) (pe_one (pc_ GV hr1 (pa_cons (pv 5) pa_nil)))))))
        (pms_case (is := [2, 6]) rfl nd (.cons rfl rfl (.cons rfl rfl .nil)) (pss_one (ps_ret (pe_and (pm_ GI T.cl hr6 (pv 0) (pa_cons (pv 2) pa_nil)) (pe_one (pe_callB call_isi (by rfl) T.bn.isi (by decide +kernel) (pa_cons (pv 6) (pa_cons (pe_bltn (v := .ty "str") (by rfl) T.bn.str (by decide +kernel) rfl) pa_nil)))))))
        (pms_case (is := [2]) rfl nd (.cons rfl rfl .nil) (pss_one (ps_ret (pm_ GL T.cl hr (pv 0) (pa_cons (pv 2) pa_nil))))
        (pms_case (is := []) rfl nd .nil (pss_one (ps_ret pe_bl)) pms_nil)))))))
      (pss_one (ps_ret pe_bl))), ?_⟩
    rcases h with ⟨la, q, t, w, r, rq, rfl, L, hq, ok, vals, k⟩ | ⟨la, q, ys, rfl, L, hq, bad, k⟩
    · obtain ⟨da, ha⟩ := id L
      refine ⟨_, rfl, _, _, _, _, true, rfl, .ty "tuple", .base (.tup hq), kit_ty (by decide +kernel), _, rfl, iteF ?_⟩
      refine ⟨_, rfl, q, _, rfl, SqT.of hq, ?_⟩
      have cell : ∀ {i : Nat} {Q : VK}, i < 1 + t + (t + w + r) → Q (.bl true) H → Q (.bl (inW 0 (cells (t : Int) w r - 1) (.int (i : Int)))) H := fun {i Q} hi q => by
        rw [cells_n, inW_nat, decide_eq_true hi]
        exact q
      cases rq with
      | read i =>
        refine mhit rfl ?_
        exact ⟨_, rfl, la, da, _, rfl, ha, rfl, _, rfl, la, t, w, r, _, "int", rfl, rfl, L, cell ok (k _ (Same.refl H))⟩
      | write i v =>
        have ok : i < 1 + t + (t + w + r) := ok
        obtain ⟨tv, hv⟩ := vals
        have hsl : sizeLine = 16777216 := sizeLine_eq
        have hz := hv.z
        refine mmiss (by decide +kernel) (mhit rfl ?_)
        refine ⟨_, rfl, la, da, _, rfl, ha, rfl, _, rfl, la, t, w, r, _, "int", rfl, rfl, L, _, rfl, ?_⟩
        rw [cells_n, inW_nat, decide_eq_true ok]
        refine iteT ?_
        exact ⟨_, rfl, v, tv, rfl, hv.d, by omega, fun H' s => k H' s⟩
      | swap i o n =>
        have ok : i < 1 + t + (t + w + r) := ok
        obtain ⟨⟨to, ho⟩, tn, hn⟩ := vals
        have hsl : sizeLine = 16777216 := sizeLine_eq
        have hz := ho.z
        have hz2 := hn.z
        refine mmiss (by decide +kernel) (mmiss (by decide +kernel) (mhit rfl ?_))
        refine ⟨_, rfl, la, da, _, rfl, ha, rfl, _, rfl, la, t, w, r, _, "int", rfl, rfl, L, _, rfl, ?_⟩
        rw [cells_n, inW_nat, decide_eq_true ok]
        refine iteT ?_
        exact ⟨_, rfl, o, to, rfl, ho.d, by omega, fun H' s => ⟨_, rfl, iteT ⟨_, rfl, n, tn, rfl, (hn.same s).d, by omega, fun H2 s2 => k H2 (s.trans s2)⟩⟩⟩
      | decide i x =>
        have ok : i < 1 + t + (t + w + r) := ok
        refine mmiss (by decide +kernel) (mmiss (by decide +kernel) (mmiss (by decide +kernel) (mhit rfl ?_)))
        refine ⟨_, rfl, la, da, _, rfl, ha, rfl, _, rfl, la, t, w, r, _, "int", rfl, rfl, L, _, rfl, ?_⟩
        rw [cells_n, inW_nat, decide_eq_true ok]
        refine iteT ?_
        exact ⟨_, rfl, _, _, _, _, true, rfl, .ty "str", .base (.str _), kit_ty (by decide +kernel), k H (Same.refl H)⟩
      | flush i =>
        refine mmiss (by decide +kernel) (mmiss (by decide +kernel) (mmiss (by decide +kernel) (mmiss (by decide +kernel) (mhit rfl ?_))))
        refine ⟨_, rfl, la, da, _, rfl, ha, rfl, _, rfl, la, t, w, r, _, "int", rfl, rfl, L, ?_⟩
        have e : V.bl (lastB (t : Int) w r (.int (i : Int))) = .bl true := by rw [lastB_nat, decide_eq_true (p := 1 + t ≤ i ∧ i < 1 + t + (t + w + r)) ok]
        show Q (V.bl (lastB (t : Int) w r (.int (i : Int)))) H
        rw [e]
        exact k _ (Same.refl H)
      | fence =>
        refine mmiss (by decide +kernel) (mmiss (by decide +kernel) (mmiss (by decide +kernel) (mmiss (by decide +kernel) (mmiss (by decide +kernel) (mhit rfl ?_)))))
        exact k _ (Same.refl H)
    · obtain ⟨da, ha⟩ := id L
      refine ⟨_, rfl, _, _, _, _, true, rfl, .ty "tuple", .base (.tup hq), kit_ty (by decide +kernel), _, rfl, iteF ?_⟩
      refine ⟨_, rfl, q, _, rfl, SqT.of hq, ?_⟩
      cases bad with
      | flush i h =>
        refine mmiss (by decide +kernel) (mmiss (by decide +kernel) (mmiss (by decide +kernel) (mmiss (by decide +kernel) (mhit rfl ?_))))
        refine ⟨_, rfl, la, da, _, rfl, ha, rfl, _, rfl, la, 2, 2, 6, _, "int", rfl, rfl, L, ?_⟩
        show Q (V.bl (lastB 2 2 6 (V.int i))) H
        rw [h]
        exact k
      | read i h =>
        refine mhit rfl ?_
        refine ⟨_, rfl, la, da, _, rfl, ha, rfl, _, rfl, la, 2, 2, 6, _, "int", rfl, rfl, L, ?_⟩
        show Q (V.bl (inW 0 (cells 2 2 6 - 1) (V.int i))) H
        rw [h]
        exact k
      | swap i h =>
        refine mskip (by show 4 ≠ 2; decide) (mskip (by show 4 ≠ 3; decide) (mhit rfl ?_))
        refine ⟨_, rfl, la, da, _, rfl, ha, rfl, _, rfl, la, 2, 2, 6, _, "int", rfl, rfl, L, _, rfl, ?_⟩
        rw [h]
        exact iteF k
      | fence1 => exact mmiss (by decide +kernel) (mskip (by decide) (mskip (by decide) (mskip (by decide) (mmiss (by decide +kernel) (mskip (by decide) k)))))
      | end1 => exact mmiss (by decide +kernel) (mskip (by decide) (mskip (by decide) (mskip (by decide) (mmiss (by decide +kernel) (mskip (by decide) k)))))
      | write5 => exact mmiss (by decide +kernel) (mskip (by decide) (mskip (by decide) (mskip (by decide) (mmiss (by decide +kernel) (mskip (by decide) k)))))
      | nil => exact mskip (by decide) (mskip (by decide) (mskip (by decide) (mskip (by decide) (mskip (by decide) (mskip (by decide) k)))))
theorem mo_access2 (F : MT K M "access" "Memory.access" sAccess ["self", "thread", "request"]) (T : LTxt K mg C) (TM : MTxt K M) (X0 : XTxt K mg NV LE) (GH : MO P w K mg base CX0 C 3 "has_thread" ["self", "thread"] (spHasT C)) (GA2 : GO P w K mg base CX0 8 "is_access" ["layout", "request"] (spIsAcc2 K C))
    (GR : MO P w K mg base CX0 M 10 "_result" ["self", "thread", "request"] (spResult K C M)) : MO P w K mg base (L2.CX P w) M 11 "access" ["self", "thread", "request"] (spAccess2 K C M NV) := by
  obtain ⟨f, fd, F, hm, hb⟩ := F
  refine ⟨f, fd, ?_, hm, hb⟩
  refine F.okX scAccess (fun vs H Q E h => ?_) (fun cdv A outer s H vs Q E hr h => ?_)
  · rcases h with ⟨m, t, w, r, th, B, A, S, rq, q, rfl, _⟩ | ⟨m, q, th, A, S, ys, rfl, _⟩ <;> rfl
  · have hr3 : Room 3 _ := hr.mono (by decide)
    have hr8 : Room 8 _ := hr.mono (by decide)
    refine ⟨_, pss_cons (ps_if (PW.pt (pw_or (pt_not (pt_val (pm_ GH T.cl hr3 (pe_fld (pv 0) rfl) (pa_cons (pv 1) pa_nil)))) (pw_or1 (pt_not (pt_val (pc_ GA2 hr8 (pa_cons (pe_fld (pv 0) rfl) (pa_cons (pv 2) pa_nil)))))))) (pss_one (ps_raise rfl (takes_of rfl rfl rfl rfl) (pmk_own0 PySem.F.excBase_ValueError X0.xN X0.gN X0.kN (raises_own X0.sN X0.tN) rfl))) pss_nil)
      (pss_cons (ps_fldaug (pv 0) pe_int in_add)
      (pss_cons (ps_expr (pe_bm PySem.F.plainAttrs_list PySem.F.slot_list_append PySem.F.type_list_append mt_append (pe_fld (pv 0) rfl) (pa_cons (pe_tup (pa_cons (pe_fld (pv 0) rfl) (pa_cons (pv 1) (pa_cons (pv 2) pa_nil)))) pa_nil)))
      (pss_one (ps_ret (pe_tup (pa_cons (pm_ GR TM.cl hr (pv 0) (pa_cons (pv 1) (pa_cons (pv 2) pa_nil))) (pa_cons (pe_fld (pv 0) rfl) pa_nil))))))), ?_⟩
    rcases h with ⟨m, t, w, r, th, B, A0, S, rq, q, rfl, nok, D, hth, hq, ok, so, hB, vals, hfl, k⟩ | ⟨m, q, th, A0, S, ys, rfl, D, hq, bad, k⟩
    · obtain ⟨dx, h1⟩ := D.ob
      obtain ⟨da, ha⟩ := D.lay
      refine ⟨_, rfl, m, M, dx, _, _, rfl, h1, TM.cl, TM.nL, rfl, A0.a, da, _, rfl, ha, rfl, _, rfl, A0.a, t, w, r, _, "int", rfl, rfl, ⟨da, ha⟩, _, rfl, ?_⟩
      rw [inW_nat, decide_eq_true hth]
      refine iteF ?_
      refine ⟨_, rfl, m, M, dx, _, _, rfl, h1, TM.cl, TM.nL, rfl, _, rfl, .inl ⟨A0.a, q, t, w, r, rq, rfl, ⟨da, ha⟩, hq, ok, vals, fun H1 s1 => ⟨_, rfl, iteF ?_⟩⟩⟩
      have D1 := D.same s1
      -- self.count += 1
      refine ⟨_, rfl, m, M, dx, _, _, rfl, s1 _ _ h1, TM.cl, TM.nC, rfl, _, _, rfl, rfl, dx, _, s1 _ _ h1, (by show 7 < 1000; decide), ?_⟩
      have D2 : MemAt C M (upd H1 m (.ins M dx (putF "count" (.int (S.count + 1)) (mf A0 S.count)))) m t w r A0 (S.withCount (S.count + 1)) := D1.setCount (S.count + 1) dx
      have q2 : upd H1 m (.ins M dx (putF "count" (.int (S.count + 1)) (mf A0 S.count))) q = some (.tup rq.vs) := by
        rw [upd_ne (ne_of hq h1 (by intro z; cases z))]
        exact s1 _ _ hq
      have st2 : Step m (t + w + r) A0 H A0 (upd H1 m (.ins M dx (putF "count" (.int (S.count + 1)) (mf A0 S.count)))) := (Step.same s1).trans (Step.up (.inl rfl))
      generalize hH2 : upd H1 m (.ins M dx (putF "count" (.int (S.count + 1)) (mf A0 S.count))) = H2 at D2 q2 st2 ⊢
      obtain ⟨dx2, h2⟩ := D2.ob
      -- self._log.append(..)
      refine ⟨_, rfl, m, M, dx2, _, _, rfl, h2, TM.cl, TM.nG, rfl, .inl ⟨rfl, _, SqL.of D2.gl⟩, _, rfl, m, M, dx2, _, _, rfl, h2, TM.cl, TM.nC, rfl, _, rfl, _, rfl, (by show 3 ≤ sizeLine; decide), fun u hu => ?_⟩
      have s3 : Same H2 (upd H2 u (.tup [.int (S.count + 1), .int (th : Int), .ref q])) := fun b o e => by rw [upd_ne (ne_of_none e hu)]; exact e
      have D3 := D2.same s3
      refine ⟨A0.gl, _, _, rfl, rfl, D3.gl, (by have := so.log; show S.log.length < sizeLine; omega), ?_⟩
      have D4 := D3.setLog (S.log ++ [.ref u])
      have q4 : upd (upd H2 u (.tup [.int (S.count + 1), .int (th : Int), .ref q])) A0.gl (.lst (S.log ++ [.ref u])) q = some (.tup rq.vs) := by
        rw [upd_ne (ne_of (s3 _ _ q2) D3.gl (by intro z; cases z))]
        exact s3 _ _ q2
      have st4 : Step m (t + w + r) A0 H A0 (upd (upd H2 u (.tup [.int (S.count + 1), .int (th : Int), .ref q])) A0.gl (.lst (S.log ++ [.ref u]))) := (st2.trans (Step.same s3)).trans (Step.up (.inr (.inr (.inr (.inr (.inr (.inl rfl)))))))
      have D4 : MemAt C M (upd (upd H2 u (.tup [.int (S.count + 1), .int (th : Int), .ref q])) A0.gl (.lst (S.log ++ [.ref u]))) m t w r A0 ((S.withCount (S.count + 1)).withLog (S.log ++ [.ref u])) := D4
      have hgoal : ∀ H4, MemAt C M H4 m t w r A0 ((S.withCount (S.count + 1)).withLog (S.log ++ [.ref u])) → H4 q = some (.tup rq.vs) → Step m (t + w + r) A0 H A0 H4 → (tRet (tTup (tCons (tMeth M "_result" (spResult K C M) [] E0 (tVar 0) (tCons (tVar 1) (tCons (tVar 2) tNil))) (tCons (tFld K (tVar 0) "count") tNil)))) { nx := fun _ H' => Q .non H', rt := Q } [some (.ref m), some (.int (th : Int)), some (.ref q)] H4 := fun H4 D4 q4 st4 => by
        obtain ⟨dx4, h4⟩ := D4.ob
        refine ⟨_, rfl, m, dx4, _, rfl, h4, rfl, _, rfl, _, rfl, m, t, w, r, th, B + 1, A0, _, rq, q, rfl, nok, D4, hth, q4, ok, so.logged, by omega, vals_ext vals (st4.ext D), flatAt_ext (flatAt_log hfl) (st4.ext D), fun v A' S' H5 ea R D5 st5 => ?_⟩
        obtain ⟨dx5, h5⟩ := D5.ob
        obtain ⟨hc, hlg⟩ := R.count
        refine ⟨_, rfl, m, M, dx5, _, _, rfl, h5, TM.cl, TM.nC, rfl, (by show 2 ≤ sizeLine; decide), fun p hp => ?_⟩
        have s6 : Same H5 (upd H5 p (.tup [v, .int S'.count])) := fun b o e => by rw [upd_ne (ne_of_none e hp)]; exact e
        refine k v (.ref u) p A' S' _ ea (R.ext ((st5.ext D4).trans (.of s6)) (.of s6)) ?_ (R.ok ok hth so.logged) (D5.same s6) ((st4.trans st5).trans (Step.same s6))
        rw [hc]
        exact upd_same
      exact hgoal _ D4 q4 st4
    · obtain ⟨dx, h1⟩ := D.ob
      obtain ⟨da, ha⟩ := D.lay
      refine ⟨_, rfl, m, M, dx, _, _, rfl, h1, TM.cl, TM.nL, rfl, A0.a, da, _, rfl, ha, rfl, _, rfl, A0.a, 2, 2, 6, _, "int", rfl, rfl, ⟨da, ha⟩, _, rfl, ?_⟩
      rcases bad with c | ⟨c, bad⟩
      · rw [c]
        exact iteT k
      · rw [c]
        refine iteF ?_
        exact ⟨_, rfl, m, M, dx, _, _, rfl, h1, TM.cl, TM.nL, rfl, _, rfl, .inr ⟨A0.a, q, ys, rfl, ⟨da, ha⟩, hq, bad, _, rfl, iteT k⟩⟩
theorem mo_ask2 (F : MT K M "_ask_lasting" "Memory._ask_lasting" sAsk ["self", "cell"]) (T : LTxt K mg C) (TM : MTxt K M) (X0 : XTxt K mg NV LE)
    (GL : MO P w K mg base CX0 C 7 "is_lasting" ["self", "cell"] (spLV C fun t w r v => .bl (lastB t w r v))) : MO P w K mg base (L2.CX P w) M 8 "_ask_lasting" ["self", "cell"] (spAsk2 C M NV) := by
  obtain ⟨f, fd, F, hm, hb⟩ := F
  refine ⟨f, fd, ?_, hm, hb⟩
  refine F.okX scAsk (fun vs H Q E h => ?_) (fun cdv A outer s H vs Q E hr h => ?_)
  · obtain ⟨m, t, w, r, i, A, S, rfl, _⟩ := h
    rfl
  · obtain ⟨m, t, w, r, i, B, S, rfl, D, k1, k2⟩ := h
    obtain ⟨dx, h1⟩ := D.ob
    obtain ⟨da, ha⟩ := D.lay
    refine ⟨_, pss_one (ps_if (pt_not (pt_val (pm_ GL T.cl hr (pe_fld (pv 0) rfl) (pa_cons (pv 1) pa_nil))))
      (pss_one (ps_raise rfl (takes_of rfl rfl rfl rfl) (pmk_own0 PySem.F.excBase_ValueError X0.xN X0.gN X0.kN (raises_own X0.sN X0.tN) rfl))) pss_nil), ?_⟩
    refine ⟨_, rfl, m, M, dx, _, _, rfl, h1, TM.cl, TM.nL, rfl, B.a, da, _, rfl, ha, rfl, _, rfl, B.a, t, w, r, _, "int", rfl, rfl, ⟨da, ha⟩, _, rfl, ?_⟩
    cases c : lastB (t : Int) w r (.int i) with
    | true => exact iteF (k1 c)
    | false => exact iteT (k2 c)
theorem mo_drift2 (F : MT K M "drift" "Memory.drift" sDrift ["self", "cell", "steps"]) (TM : MTxt K M) (X0 : XTxt K mg NV LE) (GA : MO P w K mg base (L2.CX P w) M 8 "_ask_lasting" ["self", "cell"] (spAsk2 C M NV)) (GM : GO P w K mg base CX0 2 "is_many" ["value"] spMany)
    (GS : MO P w K mg base CX0 M 1 "_shorten" ["self", "cell", "steps"] (spShort C M)) : MO P w K mg base (L2.CX P w) M 9 "drift" ["self", "cell", "steps"] (spDrift2 C M NV) := by
  obtain ⟨f, fd, F, hm, hb⟩ := F
  refine ⟨f, fd, ?_, hm, hb⟩
  refine F.okX scDrift (fun vs H Q E h => ?_) (fun cdv A outer s H vs Q E hr h => ?_)
  · rcases h with ⟨m, t, w, r, j, k, A, S, rfl, _⟩ | ⟨m, i, v, t, A, S, rfl, _⟩ <;> rfl
  · refine ⟨_, pss_cons (ps_expr (pmE_ (E := fun _ => E) GA TM.cl hr (fun σ => passAt (takes_of rfl rfl rfl rfl) σ) (pv 0) (pa_cons (pv 1) pa_nil))) (pss_cons (ps_if (pt_not (pt_val (pc_ GM (hr.mono (by decide)) (pa_cons (pv 2) pa_nil)))) (pss_one (ps_raise rfl (takes_of rfl rfl rfl rfl) (pmk_own0 PySem.F.excBase_ValueError X0.xN X0.gN X0.kN (raises_own X0.sN X0.tN) rfl))) pss_nil)
      (pss_one (ps_expr (pm_ GS TM.cl (hr.mono (by decide)) (pv 0) (pa_cons (pv 1) (pa_cons (pv 2) pa_nil)))))), ?_⟩
    rcases h with ⟨m, t, w, r, j, x, A0, S, rfl, nok, D, hj, hne, k⟩ | ⟨m, i, v, t, A0, S, rfl, hv, D, bad, k⟩
    · obtain ⟨dx, h1⟩ := D.ob
      refine ⟨_, rfl, m, dx, _, rfl, h1, rfl, _, rfl, m, t, w, r, _, A0, S, rfl, D, fun _ => ?_, fun c => ?_⟩
      · refine ⟨_, rfl, _, "int", rfl, rfl, _, rfl, ?_⟩
        have e : manyB (.int (x : Int)) = true := by
          show decide ((0 : Int) ≤ (x : Int)) = true
          exact decide_eq_true (by omega)
        rw [e]
        refine iteF ?_
        exact ⟨_, rfl, m, dx, _, rfl, h1, rfl, _, rfl, _, rfl, m, t, w, r, j, A0, S, _, rfl, nok, D, hj, hne, fun H' D' st => k H' D' st⟩
      · exfalso
        rw [lastB_nat, decide_eq_true (by omega)] at c
        cases c
    · obtain ⟨dx, h1⟩ := D.ob
      refine ⟨_, rfl, m, dx, _, rfl, h1, rfl, _, rfl, m, 2, 2, 6, i, A0, S, rfl, D, fun c => ?_, fun c => ?_⟩
      · rcases bad with b | ⟨_, b⟩
        · have c : lastB 2 2 6 (.int i) = true := c
          rw [b] at c; cases c
        · refine ⟨_, rfl, _, t, rfl, hv, _, rfl, ?_⟩
          rw [b]
          exact iteT k
      · exact k
abbrev NC : List Str := ["self", "choices", "cells", "cell", "steps"]
theorem scCut : FnScope NC ["self", "choices"] (defScope sCut) := ⟨rfl, rfl, rfl, by decide +kernel, rfl, by decide +kernel, by decide +kernel⟩
theorem mo_cut2 (F : MT K M "cut" "Memory.cut" sCut ["self", "choices"]) (T : LTxt K mg C) (TM : MTxt K M) (X0 : XTxt K mg NV LE) (za : mg "all" = none) (zz : mg "zip" = none) (GM : GO P w K mg base CX0 2 "is_many" ["value"] spMany) (GS : MO P w K mg base CX0 M 1 "_shorten" ["self", "cell", "steps"] (spShort C M))
    (GP : GO P w K mg base CX0 1 "passing_values" ["layout"] (spPass C)) (GN : GO P w K mg base CX0 1 "no_notes" ["layout"] (spNotes C)) : MO P w K mg base (L2.CX P w) M 3 "cut" ["self", "choices"] (spCut2 C M NV) := by
  obtain ⟨f, fd, F, hm, hb⟩ := F
  refine ⟨f, fd, ?_, hm, hb⟩
  refine F.okX scCut (fun vs H Q E h => ?_) (fun cdv A outer s H vs Q E hr h => ?_)
  · rcases h with ⟨m, ch, t, w, r, A, S, ks, rfl, _⟩ | ⟨m, v, rfl, _⟩ <;> rfl
  · have hu := hu_of hr
    have nd := scCut.nd
    have hr1 : Room 1 _ := hr.mono (by decide)
    have hsl : sizeLine = 16777216 := sizeLine_eq
    have htail : PSs (cxOf (L2.CX P w) P w K mg base NC "Memory.cut" (defScope sCut) f cdv A outer s H E).nox ((defBody sCut).drop 1) _ := (pss_cons (ps_set (i := 2) nd rfl (Or.inl rfl) (pe_callTy (call_listD rfl) (by rfl) T.bn.list (by decide +kernel) (pa_cons (pe_fld (pv 0) rfl) pa_nil)))
      (pss_cons (ps_for PassesOwn.never rfl (pi_zip (by rfl) zz (pa_cons (pv 2) (pa_cons (pv 1) pa_nil))) (pg_tup (by rfl) (pgs_cons (pg_name (i := 3) nd rfl (Or.inl rfl)) (pgs_cons (pg_name (i := 4) nd rfl (Or.inl rfl)) pgs_nil)))
        (pss_one (ps_expr (pm_ GS TM.cl hr1 (pv 0) (pa_cons (pv 3) (pa_cons (pv 4) pa_nil))))))
      (pss_cons (ps_for PassesOwn.never rfl (pi_list (pv 2)) (pg_name (i := 3) nd rfl (Or.inl rfl))
        (pss_one (ps_delSl (pe_dget hu (pe_fld (pv 0) rfl) (pv 3) (fun _ _ => rfl)) (po_some pe_int) po_none)))
      (pss_cons (ps_fld (pv 0) (pc_ GP hr1 (pa_cons (pe_fld (pv 0) rfl) pa_nil)) rfl)
      (pss_one (ps_fld (pv 0) (pc_ GN hr1 (pa_cons (pe_fld (pv 0) rfl) pa_nil)) rfl))))))
    refine ⟨_, pss_cons (ps_if (PW.pt (pw_or (pt_not (pt_val (pe_callB call_isi (by rfl) T.bn.isi (by decide +kernel) (pa_cons (pv 1) (pa_cons (pe_bltn (v := .ty "list") (by rfl) T.bn.list (by decide +kernel) rfl) pa_nil)))))
        (pw_or1 (pt_not (pt_val (pe_callB (cr_all rfl) (by rfl) za (by decide +kernel) (pa_cons (pe_lc (own := [("steps", 4)]) (g := gName 4) (tt := tYes) rfl nd (pi_list (pv 1)) (blkOk_by (N := NC) (sc := defScope sCut) (by decide +kernel)) (fun _ _ _ _ _ => pg_name (i := 4) nd rfl (Or.inl rfl)) (fun _ _ _ _ _ => pts_nil)
          (fun _ _ _ _ _ => pc_ GM hr (pa_cons (pv 4) pa_nil))) pa_nil))))))) (pss_one (ps_raise rfl (takes_of rfl rfl rfl rfl) (pmk_own0 PySem.F.excBase_ValueError X0.xN X0.gN X0.kN (raises_own X0.sN X0.tN) rfl))) pss_nil) htail.nox, ?_⟩
    rcases h with ⟨m, ch, t, w, r, A0, S, ks, rfl, nok, D, hch, nfc, hks, hne, k⟩ | ⟨m, v, rfl, bad, k⟩
    · obtain ⟨dx, h1⟩ := D.ob
      -- the choices are a list of numbers
      refine ⟨_, rfl, _, _, _, _, true, rfl, .ty "list", .base (.lst hch), kit_ty (by decide +kernel), _, rfl, iteF ?_⟩
      refine ⟨_, rfl, ch, rfl, ⟨_, SqL.of hch⟩, fun D1 hD1 => ?_⟩
      have up1 : ∀ {l : List V}, Same H (upd H D1 (.lst l)) := fun {l} b o e => by rw [upd_ne (ne_of_none e hD1)]; exact e
      refine lc_list (K := K) (a := ch) (xs := ks.map fun (k : Nat) => V.int (k : Int)) (fun i H' => H' D1 = some (.lst (((ks.take i).map fun _ => true).map V.bl)) ∧ Same H H') ⟨upd_same, up1⟩ (fun i H' _ q => SqL.of (q.2 _ _ hch)) ?_ ?_
      · rintro i x H' hi ⟨hl, sm⟩
        have hil : i < ks.length := by
          have := (List.getElem?_eq_some_iff.mp hi).1
          rwa [List.length_map] at this
        have hx : x = V.int ((ks[i] : Nat) : Int) := by
          rw [List.getElem?_map, List.getElem?_eq_getElem hil] at hi
          exact (Option.some.inj hi).symm
        subst hx
        refine ⟨rfl, _, rfl, _, "int", rfl, rfl, ?_⟩
        have e : manyB (.int ((ks[i] : Nat) : Int)) = true := by
          show decide ((0 : Int) ≤ ((ks[i] : Nat) : Int)) = true
          exact decide_eq_true (by omega)
        rw [e]
        refine ⟨_, hl, ?_, ?_, fun b o e => by rw [upd_ne (ne_of_none e hD1)]; exact sm b o e⟩
        · rw [List.length_map, List.length_map, List.length_take]
          omega
        · rw [upd_same, List.take_succ, List.getElem?_eq_getElem hil, List.map_append, List.map_append]
          rfl
      rintro H2 ⟨hl2, s2⟩
      rw [List.length_map, List.take_length] at hl2
      refine ⟨D1, _, rfl, SqL.of hl2, _, rfl, ?_⟩
      rw [all_many]
      refine iteF ?_
      have D2 := D.same s2
      obtain ⟨dx2, h2⟩ := D2.ob
      -- cells = list(self._trails)
      refine ⟨_, rfl, m, M, dx2, _, _, rfl, h2, TM.cl, TM.nT, rfl, A0.td, _, rfl, .inl D2.tr.d, fun cl hcl => ?_⟩
      have s3 : Same H2 (upd H2 cl (.lst ((kv ((1 + t : Nat) : Int) (t + w + r) fun j => .ref (A0.tl j)).map fun p => kV p.1))) := fun b o e => by rw [upd_ne (ne_of_none e hcl)]; exact e
      have l3 : upd H2 cl (.lst ((kv ((1 + t : Nat) : Int) (t + w + r) fun j => .ref (A0.tl j)).map fun p => kV p.1)) cl = some (.lst ((kv ((1 + t : Nat) : Int) (t + w + r) fun j => .ref (A0.tl j)).map fun p => kV p.1)) := upd_same
      have D3 := D2.same s3
      have s23 := s2.trans s3
      have nfl : ¬ Foot m A0 (t + w + r) cl := fun hf => by
        rcases hf with q | q | q | q | q | q | ⟨j, hj, q⟩ | q
        · exact ne_of_none h2 hcl q.symm
        · exact ne_of_none D2.ps hcl q.symm
        · exact ne_of_none D2.tr.d hcl q.symm
        · exact ne_of_none D2.ld hcl q.symm
        · exact ne_of_none D2.nl hcl q.symm
        · exact ne_of_none D2.gl hcl q.symm
        · exact ne_of_none (D2.tr.l j hj) hcl q.symm
        · obtain ⟨z, hz⟩ := List.getElem?_of_mem q
          obtain ⟨ns, _, e2⟩ := D2.no z cl hz
          exact ne_of_none e2 hcl rfl
      generalize hH3 : upd H2 cl (.lst ((kv ((1 + t : Nat) : Int) (t + w + r) fun j => .ref (A0.tl j)).map fun p => kV p.1)) = H3 at s3 l3 D3 s23 ⊢
      have hch3 := s23 _ _ hch
      -- the drifts
      have nmin : min ((kv ((1 + t : Nat) : Int) (t + w + r) fun j => V.ref (A0.tl j)).map fun p => kV p.1).length (ks.map fun (k : Nat) => V.int (k : Int)).length = min (t + w + r) ks.length := by rw [ds_len, List.length_map]
      refine ⟨_, rfl, _, rfl, cl, ch, _, _, rfl, SqL.of l3, SqL.of hch3, for_it (walk_zip rfl) (fun i σ H' => ∃ (c p : Option V) (lo : Nat → Int), σ = [some (.ref m), some (.ref ch), some (.ref cl), c, p] ∧ MemAt C M H' m t w r A0 ((S.withTr fun j => if j < i then cutT S ks j else S.tr j).withLost lo) ∧ Step m (t + w + r) A0 H3 A0 H')
        ⟨_, _, S.lost, rfl, by simpa [MS.withTr, MS.withLost] using D3, Step.refl⟩ (fun i σ H' _ ⟨_, _, _, _, _, st⟩ => ⟨SqL.of (st.chg _ _ l3 nfl), SqL.of (st.chg _ _ hch3 nfc)⟩) ?_ ?_⟩
      · rintro i x σ H4 H5 hi ⟨c, p, lo, rfl, D4, st⟩ ⟨T0, x1, x2, rfl, nT, rfl, ex1, ex2⟩
        rw [nmin] at hi
        have hil : i < ks.length := by omega
        have hin : i < t + w + r := by omega
        dsimp only at ex1 ex2
        rw [ds_get hin] at ex1
        rw [List.getElem?_map, List.getElem?_eq_getElem hil] at ex2
        have ex1 : V.int (((1 + t : Nat) : Int) + (i : Int)) = x1 := Option.some.inj ex1
        have ex2 : V.int ((ks[i] : Nat) : Int) = x2 := Option.some.inj ex2
        subst ex1
        subst ex2
        have sT : Same H4 (upd H4 T0 (.tup [V.int (((1 + t : Nat) : Int) + (i : Int)), V.int ((ks[i] : Nat) : Int)])) := fun b o e => by rw [upd_ne (ne_of_none e nT)]; exact e
        have D5 := D4.same sT
        obtain ⟨dx5, h5⟩ := D5.ob
        refine ⟨T0, _, rfl, SqT.of upd_same, rfl, _, _, rfl, _, _, rfl, rfl, ?_⟩
        have hne4 : ((S.withTr fun j => if j < i then cutT S ks j else S.tr j).withLost lo).tr i ≠ [] := by
          show (if i < i then cutT S ks i else S.tr i) ≠ []
          rw [if_neg (Nat.lt_irrefl i)]
          exact hne i hin
        refine ⟨_, rfl, m, dx5, _, rfl, h5, rfl, _, rfl, _, rfl, m, t, w, r, i, A0, _, _, by rw [show ((1 + t : Nat) : Int) + (i : Int) = ((1 + t + i : Nat) : Int) by omega]; rfl, nok, D5, hin, hne4, fun H6 D6 st6 => ?_⟩
        refine ⟨_, _, setl lo i (lo i + (cutN (S.tr i).length ((ks[i] : Nat) : Int) : Nat)), rfl, ?_, (st.trans (Step.same sT)).trans st6⟩
        have e7 : sett (fun j => if j < i then cutT S ks j else S.tr j) i ((S.tr i).drop (cutN (S.tr i).length ((ks[i] : Nat) : Int))) = fun j => if j < i + 1 then cutT S ks j else S.tr j := by
          funext j
          unfold sett
          by_cases c1 : j = i
          · subst c1
            rw [if_pos rfl, if_pos (Nat.lt_succ_self j)]
            unfold cutT
            rw [List.getD_eq_getElem?_getD, List.getElem?_eq_getElem hil]
            rfl
          · rw [if_neg c1]
            by_cases c2 : j < i
            · have c3 : j < i + 1 := by omega
              simp only [c2, c3, if_true]
            · have c3 : ¬ j < i + 1 := by omega
              simp only [c2, c3, if_false]
        have e8 : ((S.withTr fun j => if j < i then cutT S ks j else S.tr j).withLost lo).tr i = S.tr i := by
          show (if i < i then cutT S ks i else S.tr i) = S.tr i
          rw [if_neg (Nat.lt_irrefl i)]
        have D6 : MemAt C M H6 m t w r A0 (((S.withTr fun j => if j < i then cutT S ks j else S.tr j).withLost lo).short i ((ks[i] : Nat) : Int)) := D6
        unfold MS.short at D6
        rw [e8] at D6
        have D6 : MemAt C M H6 m t w r A0 ((S.withTr (sett (fun j => if j < i then cutT S ks j else S.tr j) i ((S.tr i).drop (cutN (S.tr i).length ((ks[i] : Nat) : Int))))).withLost (setl lo i (lo i + (cutN (S.tr i).length ((ks[i] : Nat) : Int) : Nat)))) := D6
        rw [e7] at D6
        exact D6
      · rintro σ H4 ⟨c, p, lo, rfl, D4, st⟩
        rw [nmin] at D4
        have e1 : (fun j => if j < min (t + w + r) ks.length then cutT S ks j else S.tr j) = fun j => if j < t + w + r then cutT S ks j else S.tr j := by
          funext j
          by_cases c1 : j < t + w + r
          · rw [if_pos c1]
            by_cases c2 : j < ks.length
            · rw [if_pos (by omega)]
            · rw [if_neg (by omega)]
              unfold cutT
              rw [List.getD_eq_getElem?_getD, List.getElem?_eq_none (by omega)]
              show S.tr j = (S.tr j).drop (cutN (S.tr j).length ((0 : Nat) : Int))
              unfold cutN
              rw [show min ((0 : Nat) : Int).toNat ((S.tr j).length - 1) = 0 by omega]
              rfl
          · rw [if_neg c1, if_neg (by omega)]
        rw [e1] at D4
        have l4 := st.chg _ _ l3 nfl
        -- the trails become one value long
        refine ⟨_, rfl, cl, rfl, ⟨_, SqL.of l4⟩, for_list (K := K) (a := cl) (xs := (kv ((1 + t : Nat) : Int) (t + w + r) fun j => V.ref (A0.tl j)).map fun p => kV p.1) (fun i σ H' => ∃ (c p : Option V), σ = [some (.ref m), some (.ref ch), some (.ref cl), c, p] ∧ MemAt C M H' m t w r A0 ((S.withTr fun j => if j < i then (cutT S ks j).take 1 else if j < t + w + r then cutT S ks j else S.tr j).withLost lo) ∧ Step m (t + w + r) A0 H3 A0 H')
          ⟨_, _, rfl, by simpa using D4, st⟩ (fun i σ H' _ ⟨_, _, _, _, st⟩ => SqL.of (st.chg _ _ l3 nfl)) ?_ ?_⟩
        · rintro i x σ H5 hi ⟨c, p, rfl, D5, st5⟩
          have hin : i < t + w + r := by
            have := (List.getElem?_eq_some_iff.mp hi).1
            rwa [ds_len] at this
          rw [ds_get hin] at hi
          have hi : V.int (((1 + t : Nat) : Int) + (i : Int)) = x := Option.some.inj hi
          subst hi
          obtain ⟨dx5, h5⟩ := D5.ob
          have hg := tr_get D5 (i := 1 + t + i) (by omega) (by omega)
          rw [show ((1 + t + i : Nat) : Int) = ((1 + t : Nat) : Int) + (i : Int) by omega, show 1 + t + i - (1 + t) = i by omega] at hg
          have hl5 := D5.tr.l i hin
          have e5 : ((S.withTr fun j => if j < i then (cutT S ks j).take 1 else if j < t + w + r then cutT S ks j else S.tr j).withLost lo).tr i = cutT S ks i := by
            show (if i < i then (cutT S ks i).take 1 else if i < t + w + r then cutT S ks i else S.tr i) = cutT S ks i
            rw [if_neg (Nat.lt_irrefl i), if_pos hin]
          rw [e5] at hl5
          have hpos : 0 < (cutT S ks i).length := List.length_pos_iff.mpr (cutT_ne (hne i hin))
          refine ⟨_, rfl, m, M, dx5, _, _, rfl, h5, TM.cl, TM.nT, rfl, _, rfl, A0.td, _, rfl, hg, 1, rfl, A0.tl i, _, 1, (cutT S ks i).length, rfl, hl5, bounds_tail (a := 1) hpos, hpos, ?_⟩
          rw [List.drop_length, List.append_nil]
          have D6 := D5.setTr hin ((cutT S ks i).take 1)
          refine ⟨_, _, rfl, ?_, st5.trans (Step.up (.inr (.inr (.inr (.inr (.inr (.inr (.inl ⟨i, hin, rfl⟩))))))))⟩
          have e7 : sett (fun j => if j < i then (cutT S ks j).take 1 else if j < t + w + r then cutT S ks j else S.tr j) i ((cutT S ks i).take 1) = fun j => if j < i + 1 then (cutT S ks j).take 1 else if j < t + w + r then cutT S ks j else S.tr j := by
            funext j
            unfold sett
            by_cases c1 : j = i
            · subst c1
              rw [if_pos rfl, if_pos (Nat.lt_succ_self j)]
            · rw [if_neg c1]
              by_cases c2 : j < i
              · have c3 : j < i + 1 := by omega
                simp only [c2, c3, if_true]
              · have c3 : ¬ j < i + 1 := by omega
                simp only [c2, c3, if_false]
          have D6 : MemAt C M _ m t w r A0 ((S.withTr (sett (fun j => if j < i then (cutT S ks j).take 1 else if j < t + w + r then cutT S ks j else S.tr j) i ((cutT S ks i).take 1))).withLost lo) := D6
          rw [e7] at D6
          exact D6
        · rintro σ H5 ⟨c, p, rfl, D5, st5⟩
          rw [ds_len] at D5
          obtain ⟨dx5, h5⟩ := D5.ob
          -- self._passing = passing_values(self.layout)
          refine ⟨_, rfl, m, M, dx5, _, _, rfl, h5, TM.cl, TM.nL, rfl, A0.a, _, _, _, rfl, D5.lay, nok.lok, fun pl H6 npl hpl s6 => ?_⟩
          have h6 := s6 _ _ h5
          rw [show (t : Int).toNat = t by omega] at hpl
          have D7 := D5.newPs s6 npl hpl dx5
          refine ⟨_, rfl, m, M, dx5, _, rfl, h6, TM.cl, TM.nP, (by show 7 < 1000; decide), ?_⟩
          have st7 : Step m (t + w + r) A0 H5 { A0 with pl := pl } (upd H6 m (.ins M dx5 (mf { A0 with pl := pl } S.count))) := by
            refine ⟨fun b o e hb => ?_, fun b hb => ?_⟩
            · rw [upd_ne (fun q => hb (.inl q))]
              exact s6 b o e
            · rcases hb with q | q | q
              · exact .inl (.inl q)
              · exact .inr (by rw [q]; exact npl)
              · exact .inl (.inr (.inr q))
          have D7 : MemAt C M (upd H6 m (.ins M dx5 (mf { A0 with pl := pl } S.count))) m t w r { A0 with pl := pl } (((S.withTr fun j => if j < t + w + r then (cutT S ks j).take 1 else if j < t + w + r then cutT S ks j else S.tr j).withLost lo).withPs (.int 0 :: List.replicate t .non)) := D7
          have hgoal : ∀ H7, MemAt C M H7 m t w r { A0 with pl := pl } (((S.withTr fun j => if j < t + w + r then (cutT S ks j).take 1 else if j < t + w + r then cutT S ks j else S.tr j).withLost lo).withPs (.int 0 :: List.replicate t .non)) → Step m (t + w + r) A0 H5 { A0 with pl := pl } H7 →
              sFld K (tVar 0) (tCall (spNotes C) [] E0 (tCons (tFld K (tVar 0) "layout") tNil)) "_notes" { nx := fun _ H' => Q .non H', rt := Q } [some (.ref m), some (.ref ch), some (.ref cl), c, p] H7 := fun H7 D7 st7 => by
            obtain ⟨dx7, h7⟩ := D7.ob
            refine ⟨_, rfl, m, M, dx7, _, _, rfl, h7, TM.cl, TM.nL, rfl, A0.a, t, w, r, rfl, D7.lay, nok, fun nl na H8 hnl hlen hnd hall nnl s8 => ?_⟩
            have h8 := s8 _ _ h7
            refine ⟨_, rfl, m, M, dx7, _, rfl, h8, TM.cl, TM.nN, (by show 7 < 1000; decide), ?_⟩
            have D9 := D7.newNl s8 nnl hnl hlen hnd hall dx7
            have st9 : Step m (t + w + r) { A0 with pl := pl } H7 { A0 with pl := pl, nl := nl, na := na } (upd H8 m (.ins M dx7 (mf { A0 with pl := pl, nl := nl, na := na } S.count))) := by
              refine ⟨fun b o e hb => ?_, fun b hb => ?_⟩
              · rw [upd_ne (fun q => hb (.inl q))]
                exact s8 b o e
              · rcases hb with q | q | q | q | q | q | q | q
                · exact .inl (.inl q)
                · exact .inl (.inr (.inl q))
                · exact .inl (.inr (.inr (.inl q)))
                · exact .inl (.inr (.inr (.inr (.inl q))))
                · exact .inr (by rw [q]; exact nnl)
                · exact .inl (.inr (.inr (.inr (.inr (.inr (.inl q))))))
                · exact .inl (.inr (.inr (.inr (.inr (.inr (.inr (.inl q)))))))
                · exact .inr (hall b q).2
            refine k { A0 with pl := pl, nl := nl, na := na } ((((S.withTr fun j => if j < t + w + r then (cutT S ks j).take 1 else if j < t + w + r then cutT S ks j else S.tr j).withLost lo).withPs (.int 0 :: List.replicate t .non)).withNotes (List.replicate t [])) _ rfl rfl rfl rfl rfl (fun j hj => ?_) D9 (((Step.same s23).trans st5).trans (st7.trans st9))
            show (if j < t + w + r then (cutT S ks j).take 1 else if j < t + w + r then cutT S ks j else S.tr j) = (cutT S ks j).take 1
            rw [if_pos hj]
          exact hgoal _ D7 st7
    · cases bad with
      | non => exact ⟨_, rfl, _, _, _, _, false, rfl, .ty "list", .base .non, kit_ty (by decide +kernel), _, rfl, iteT (k H (Same.refl H))⟩
      | @tup q xs hq => exact ⟨_, rfl, _, _, _, _, false, rfl, .ty "list", .base (.tup hq), kit_ty (by decide +kernel), _, rfl, iteT (k H (Same.refl H))⟩
      | @lst q xs hq hl ht hb =>
        refine ⟨_, rfl, _, _, _, _, true, rfl, .ty "list", .base (.lst hq), kit_ty (by decide +kernel), _, rfl, iteF ?_⟩
        refine ⟨_, rfl, q, rfl, ⟨_, SqL.of hq⟩, fun D1 hD1 => ?_⟩
        have up1 : ∀ {l : List V}, Same H (upd H D1 (.lst l)) := fun {l} b o e => by rw [upd_ne (ne_of_none e hD1)]; exact e
        refine lc_list (K := K) (a := q) (xs := xs) (fun i H' => H' D1 = some (.lst (((xs.take i).map manyB).map V.bl)) ∧ Same H H') ⟨upd_same, up1⟩ (fun i H' _ q => SqL.of (q.2 _ _ hq)) ?_ ?_
        · rintro i x H' hi ⟨hl', sm⟩
          have hil := (List.getElem?_eq_some_iff.mp hi).1
          have ex : xs[i] = x := (List.getElem?_eq_some_iff.mp hi).2
          obtain ⟨t, hx⟩ := ht x (List.mem_of_getElem? hi)
          refine ⟨rfl, _, rfl, _, t, rfl, hx, ?_⟩
          refine ⟨_, hl', ?_, ?_, fun b o e => by rw [upd_ne (ne_of_none e hD1)]; exact sm b o e⟩
          · rw [List.length_map, List.length_map, List.length_take]
            omega
          · rw [upd_same, List.take_succ_eq_append_getElem hil, ex, List.map_append, List.map_append]
            rfl
        rintro H2 ⟨hl2, s2⟩
        rw [List.take_length] at hl2
        refine ⟨D1, _, rfl, SqL.of hl2, _, rfl, ?_⟩
        rw [hb]
        exact iteT (k H2 s2)
end
end Dk

set_option maxHeartbeats 4000000
/-! the law's own lists; giving and shortening there -/
namespace Dk
open PySem PySem.Spec PyProof.Rows L2
abbrev sGiv : Stmt := top 24
abbrev sShr : Stmt := top 25
def Zst (Z : Addr → Prop) (H : Hp) (Z' : Addr → Prop) (H' : Hp) : Prop := (∀ b o, H b = some o → ¬ Z b → H' b = some o) ∧ ∀ b, Z' b → Z b ∨ H b = none
theorem Zst.trans {Z Z1 Z2 : Addr → Prop} {H H1 H2 : Hp} (a : Zst Z H Z1 H1) (b : Zst Z1 H1 Z2 H2) : Zst Z H Z2 H2 := by
  have keep : ∀ c o, H c = some o → ¬ Z c → ¬ Z1 c := fun c o e hc h => by
    rcases a.2 c h with q | q
    · exact hc q
    · rw [e] at q; cases q
  refine ⟨fun c o e hc => b.1 c o (a.1 c o e hc) (keep c o e hc), fun c h => ?_⟩
  rcases b.2 c h with q | q
  · exact a.2 c q
  · by_cases hc : Z c
    · exact .inl hc
    · refine .inr ?_
      cases e : H c with
      | none => rfl
      | some o =>
        rw [a.1 c o e hc] at q
        cases q
theorem Zst.refl {Z : Addr → Prop} {H : Hp} : Zst Z H Z H := ⟨fun _ _ e _ => e, fun _ h => .inl h⟩
theorem Zst.same {Z : Addr → Prop} {H H' : Hp} (s : Same H H') : Zst Z H Z H' := ⟨fun _ _ e _ => s _ _ e, fun _ h => .inl h⟩
/-- where the law's lists stand -/
structure WA where
  wd : Addr
  tl : Addr
  nl : Addr
  n0 : Addr
  n1 : Addr
  tc : Nat → Addr
def WA.nc (W : WA) (t : Nat) : Addr := if t = 0 then W.n0 else W.n1
def WOwn (W : WA) (b : Addr) : Prop := b = W.wd ∨ b = W.tl ∨ b = W.nl ∨ b = W.n0 ∨ b = W.n1 ∨ ∃ c, c < 13 ∧ b = W.tc c
structure WAt (H : Hp) (W : WA) (cnt : Int) (T : Nat → List V) (N : Nat → List (Nat × Int)) : Prop where
  wd : H W.wd = some (.dK [(Sum.inr "count", .int cnt), (Sum.inr "trails", .ref W.tl), (Sum.inr "notes", .ref W.nl)])
  tl : H W.tl = some (.lst ((List.range 13).map fun c => V.ref (W.tc c)))
  nl : H W.nl = some (.lst [.ref W.n0, .ref W.n1])
  tc : ∀ c, c < 13 → H (W.tc c) = some (.lst (T c))
  n0 : H W.n0 = some (.dK (nkv 2 (N 0)))
  n1 : H W.n1 = some (.dK (nkv 2 (N 1)))
  d1 : W.tl ≠ W.nl
  d2 : ∀ c, c < 13 → W.tc c ≠ W.tl ∧ W.tc c ≠ W.nl
  d3 : W.n0 ≠ W.n1 ∧ W.wd ≠ W.n0 ∧ W.wd ≠ W.n1
section
variable {H H' : Hp} {W : WA} {cnt : Int} {T : Nat → List V} {N : Nat → List (Nat × Int)}
theorem WAt.on (h : WAt H W cnt T N) (k : ∀ b o, H b = some o → WOwn W b → H' b = some o) : WAt H' W cnt T N :=
  ⟨k _ _ h.wd (.inl rfl), k _ _ h.tl (.inr (.inl rfl)), k _ _ h.nl (.inr (.inr (.inl rfl))), fun c hc => k _ _ (h.tc c hc) (.inr (.inr (.inr (.inr (.inr ⟨c, hc, rfl⟩))))), k _ _ h.n0 (.inr (.inr (.inr (.inl rfl)))), k _ _ h.n1 (.inr (.inr (.inr (.inr (.inl rfl))))), h.d1, h.d2, h.d3⟩
theorem WAt.same (h : WAt H W cnt T N) (s : Same H H') : WAt H' W cnt T N := h.on fun b o e _ => s b o e
theorem WAt.gt (h : WAt H W cnt T N) : DGet H W.wd (.str "trails") (some (.ref W.tl)) := DGet.k (k := (Sum.inr "trails" : Key)) h.wd
theorem WAt.gn (h : WAt H W cnt T N) : DGet H W.wd (.str "notes") (some (.ref W.nl)) := DGet.k (k := (Sum.inr "notes" : Key)) h.wd
theorem WAt.gc (h : WAt H W cnt T N) : DGet H W.wd (.str "count") (some (.int cnt)) := DGet.k (k := (Sum.inr "count" : Key)) h.wd
theorem WAt.al (h : WAt H W cnt T N) {b : Addr} (hb : WOwn W b) : ∃ o, H b = some o := by
  rcases hb with e | e | e | e | e | ⟨c, hc, e⟩
  · exact ⟨_, e ▸ h.wd⟩
  · exact ⟨_, e ▸ h.tl⟩
  · exact ⟨_, e ▸ h.nl⟩
  · exact ⟨_, e ▸ h.n0⟩
  · exact ⟨_, e ▸ h.n1⟩
  · exact ⟨_, e ▸ h.tc c hc⟩
theorem tc_at {c : Nat} (hc : c < 13) : atI ((List.range 13).map fun c => V.ref (W.tc c)) (c : Int) = some (V.ref (W.tc c)) := atI_nat (j := c) (by rw [List.getElem?_map, List.getElem?_range hc]; rfl)
/-- tuples are kept by what changes the law's lists -/
theorem WAt.ext {W' : WA} (h : WAt H W cnt T N) (z : Zst (WOwn W) H (WOwn W') H') : ExT H H' := by
  have no : ∀ b xs, H b = some (HO.tup xs) → ¬ WOwn W b := fun b xs e o => by
    rcases o with q | q | q | q | q | ⟨c, hc, q⟩
    · rw [q, h.wd] at e; cases e
    · rw [q, h.tl] at e; cases e
    · rw [q, h.nl] at e; cases e
    · rw [q, h.n0] at e; cases e
    · rw [q, h.n1] at e; cases e
    · rw [q, h.tc c hc] at e; cases e
  have no2 : ∀ b o' xs, H b = some (HO.frz o' (HO.tup xs)) → ¬ WOwn W b := fun b o' xs e o => by
    rcases o with q | q | q | q | q | ⟨c, hc, q⟩
    · rw [q, h.wd] at e; cases e
    · rw [q, h.tl] at e; cases e
    · rw [q, h.nl] at e; cases e
    · rw [q, h.n0] at e; cases e
    · rw [q, h.n1] at e; cases e
    · rw [q, h.tc c hc] at e; cases e
  exact ⟨fun b xs e => z.1 b _ e (no b xs e), fun b o xs e => z.1 b _ e (no2 b o xs e)⟩
/-- a new list in the place of one of the trails -/
theorem WAt.put {p : Addr} {xs : List V} {c : Nat} (h : WAt H W cnt T N) (hp : H p = some (.lst xs)) (np : ¬ WOwn W p) (hc : c < 13) (hne : p ≠ W.wd) :
    WAt (upd H W.tl (.lst (((List.range 13).map fun c => V.ref (W.tc c)).set c (.ref p)))) { W with tc := seta W.tc c p } cnt (sett T c xs) N := by
  have hl : ((List.range 13).map fun c => V.ref (W.tc c)).set c (.ref p) = (List.range 13).map fun j => V.ref (seta W.tc c p j) := by
    refine List.ext_getElem? fun j => ?_
    rw [List.getElem?_set, List.getElem?_map, List.getElem?_map]
    by_cases e : c = j
    · subst e
      rw [if_pos rfl, if_pos (by rw [List.length_map, List.length_range]; exact hc), List.getElem?_range hc]
      show _ = some (V.ref (seta W.tc c p c))
      rw [seta_same]
    · rw [if_neg e]
      by_cases hj : j < 13
      · rw [List.getElem?_range hj]
        show some (V.ref (W.tc j)) = some (V.ref (seta W.tc c p j))
        rw [seta_ne (fun z => e z.symm)]
      · rw [List.getElem?_eq_none (by rw [List.length_range]; omega)]
        rfl
  have np2 : p ≠ W.tl ∧ p ≠ W.nl := ⟨fun z => np (.inr (.inl z)), fun z => np (.inr (.inr (.inl z)))⟩
  refine ⟨?_, ?_, ?_, fun j hj => ?_, ?_, ?_, h.d1, fun j hj => ?_, h.d3⟩
  · show upd H W.tl _ W.wd = _
    rw [upd_ne (ne_of h.wd h.tl (by intro z; cases z))]
    exact h.wd
  · show upd H W.tl _ W.tl = _
    rw [upd_same, hl]
  · show upd H W.tl _ W.nl = _
    rw [upd_ne h.d1.symm]
    exact h.nl
  · show upd H W.tl _ (seta W.tc c p j) = some (.lst (sett T c xs j))
    by_cases e : j = c
    · subst e
      rw [seta_same, sett_same, upd_ne np2.1]
      exact hp
    · rw [seta_ne e, sett_ne e, upd_ne (h.d2 j hj).1]
      exact h.tc j hj
  · show upd H W.tl _ W.n0 = _
    rw [upd_ne (ne_of h.n0 h.tl (by intro z; cases z))]
    exact h.n0
  · show upd H W.tl _ W.n1 = _
    rw [upd_ne (ne_of h.n1 h.tl (by intro z; cases z))]
    exact h.n1
  · show seta W.tc c p j ≠ W.tl ∧ seta W.tc c p j ≠ W.nl
    by_cases e : j = c
    · subst e
      rw [seta_same]
      exact np2
    · rw [seta_ne e]
      exact h.d2 j hj
theorem own_put {p : Addr} {c : Nat} {b : Addr} (hb : WOwn { W with tc := seta W.tc c p } b) : WOwn W b ∨ b = p := by
  rcases hb with e | e | e | e | e | ⟨j, hj, e⟩
  · exact .inl (.inl e)
  · exact .inl (.inr (.inl e))
  · exact .inl (.inr (.inr (.inl e)))
  · exact .inl (.inr (.inr (.inr (.inl e))))
  · exact .inl (.inr (.inr (.inr (.inr (.inl e)))))
  · have e : b = seta W.tc c p j := e
    by_cases q : j = c
    · subst q
      rw [seta_same] at e
      exact .inr e
    · rw [seta_ne q] at e
      exact .inl (.inr (.inr (.inr (.inr (.inr ⟨j, hj, e⟩)))))
end
/-- what a giving makes of the trails -/
def giveT (T : Nat → List V) (c : Nat) (v : V) : Nat → List V := sett T c (if c < 3 then [v] else T c ++ [v])
def spGiv : Sp := fun vs H Q _ => ∃ (W : WA) (cnt : Int) (T : Nat → List V) (N : Nat → List (Nat × Int)) (c : Nat) (v : V), vs = [.ref W.wd, .int (c : Int), v] ∧ WAt H W cnt T N ∧ c < 13 ∧ (T c).length < 10000 ∧
  ∀ W' H', W'.wd = W.wd → WAt H' W' cnt (giveT T c v) N → Zst (WOwn W) H (WOwn W') H' → Q .non H'
section
variable {P : Program} {w : World} {K : PySem.W.Frag} {mg : Str → Option Value} {base : Heap} {C M NV LE : Addr}
theorem scGiv : FnScope ["w", "cell", "value"] ["w", "cell", "value"] (defScope sGiv) := ⟨rfl, rfl, rfl, by decide +kernel, rfl, by decide +kernel, by decide +kernel⟩
theorem up1 {H : Hp} {p : Addr} {o : HO} (h : H p = none) : Same H (upd H p o) := fun b u e => by rw [upd_ne (ne_of_none e h)]; exact e
theorem go_giv (F : GT K mg "_law_give" sGiv ["w", "cell", "value"]) : GO P w K mg base CX0 1 "_law_give" ["w", "cell", "value"] spGiv := by
  obtain ⟨f, fd, F, hm, hb⟩ := F
  refine ⟨f, fd, ?_, hm, F.kp, hb⟩
  refine F.ok scGiv (fun vs H Q E h => ?_) (fun cdv A outer s H vs Q E hr h => ?_)
  · obtain ⟨W, cnt, T, N, c, v, rfl, _⟩ := h
    rfl
  · obtain ⟨W, cnt, T, N, c, v, rfl, R, hc, hl, k⟩ := h
    have nd := scGiv.nd
    have hu := hu_of hr
    have hsl : sizeLine = 16777216 := sizeLine_eq
    refine ⟨_, (pss_one (ps_if (pt_cmpR op_lt (pv 1) pe_int (nomark _))
  (pss_one (ps_asg (pe_lst (pa_cons (pv 2) pa_nil)) (pg_sub (pe_dget hu (pv 0) pe_str (fun _ _ => rfl)) (pv 1) set_list)))
  (pss_one (ps_asg (pe_op op_cat (pe_ix ix_list (pe_dget hu (pv 0) pe_str (fun _ _ => rfl)) (pv 1) (fun _ _ => rfl)) (pe_lst (pa_cons (pv 2) pa_nil))) (pg_sub (pe_dget hu (pv 0) pe_str (fun _ _ => rfl)) (pv 1) set_list))))), ?_⟩
    have hix : ixN ((List.range 13).map fun c => V.ref (W.tc c)).length (c : Int) = some c := by
      rw [List.length_map, List.length_range]
      unfold ixN
      rw [if_pos (by omega), if_pos (by omega)]
      rfl
    have fin : ∀ (H1 : Hp) (p : Addr) (xs : List V), Same H H1 → H p = none → H1 p = some (.lst xs) → xs = (if c < 3 then [v] else T c ++ [v]) → Q .non (upd H1 W.tl (.lst (((List.range 13).map fun c => V.ref (W.tc c)).set c (.ref p)))) := fun H1 p xs s1 np hp ex => by
      have np' : ¬ WOwn W p := fun o => by obtain ⟨u, hu⟩ := R.al o; rw [np] at hu; cases hu
      have R1 := (R.same s1).put hp np' hc fun z => np' (.inl z)
      refine k { W with tc := seta W.tc c p } _ rfl (by rw [ex] at R1; exact R1) ⟨fun b o e nb => ?_, fun b hb => ?_⟩
      · rw [upd_ne fun z => nb (.inr (.inl z))]
        exact s1 _ _ e
      · rcases own_put hb with h | h
        · exact .inl h
        · exact .inr (h ▸ np)
    refine ⟨_, rfl, _, _, rfl, rfl, _, rfl, ite2 (fun d => ?_) (fun d => ?_)⟩
    · have d := of_decide_eq_true d
      refine ⟨_, rfl, (by show 1 ≤ sizeLine; omega), fun p hp => ?_⟩
      have s1 := up1 (o := HO.lst [v]) hp
      have e1 : upd H p (HO.lst [v]) p = _ := upd_same
      generalize upd H p (HO.lst [v]) = H1 at s1 e1 ⊢
      refine ⟨_, rfl, W.wd, _, rfl, (R.same s1).gt, _, rfl, W.tl, _, _, _, rfl, rfl, (R.same s1).tl, hix, ?_⟩
      exact fin H1 p _ s1 hp e1 (by rw [if_pos (by omega)])
    · have d : ¬ (c : Int) < 3 := fun z => d (decide_eq_true z)
      refine ⟨_, rfl, W.wd, _, rfl, R.gt, _, rfl, W.tl, _, _, _, rfl, rfl, SqL.of R.tl, tc_at hc, _, rfl, (by show 1 ≤ sizeLine; omega), fun p hp => ?_⟩
      have s1 := up1 (o := HO.lst [v]) hp
      have e1 : upd H p (HO.lst [v]) p = _ := upd_same
      generalize upd H p (HO.lst [v]) = H1 at s1 e1 ⊢
      refine ⟨W.tc c, p, _, _, rfl, rfl, s1 _ _ (R.tc c hc), e1, (by show (T c).length + 1 ≤ sizeLine; omega), fun q hq => ?_⟩
      have s2 := up1 (o := HO.lst (T c ++ [v])) hq
      have e2 : upd H1 q (HO.lst (T c ++ [v])) q = _ := upd_same
      generalize upd H1 q (HO.lst (T c ++ [v])) = H2 at s2 e2 ⊢
      have s12 := s1.trans s2
      refine ⟨_, rfl, W.wd, _, rfl, (R.same s12).gt, _, rfl, W.tl, _, _, _, rfl, rfl, (R.same s12).tl, hix, ?_⟩
      exact fin H2 q _ s12 (s1.free hq) e2 (by rw [if_neg (by omega)])
end
theorem iteDD {c : Bool} {A B : Prop} (hc : c = true) (h : A) : if c = true then A else B := by
  rw [hc]
  exact iteT h
theorem iteC {c : Bool} {A B : Prop} (hc : c = false) (h : B) : if c = true then A else B := by
  rw [hc]
  exact iteF h
/-! shortening -/
def getN (l : List (Nat × Int)) (j : Nat) : Option Int := (l.find? fun p => decide (p.1 = j)).map (·.2)
theorem valV_nkv (j : Nat) : ∀ l : List (Nat × Int), valV (nkv 2 l) (Sum.inl ((1 + 2 + j : Nat) : Int) : Key) = (getN l j).map V.int
  | [] => rfl
  | p :: l => by
    have ih := valV_nkv j l
    unfold getN at ih ⊢
    by_cases e : p.1 = j
    · have e1 : (Sum.inl ((1 + 2 + p.1 : Nat) : Int) : Key) = Sum.inl ((1 + 2 + j : Nat) : Int) := by rw [e]
      rw [List.find?_cons, decide_eq_true e]
      exact valV_pos (p := ((Sum.inl ((1 + 2 + p.1 : Nat) : Int) : Key), V.int p.2)) e1
    · have e1 : ¬ (Sum.inl ((1 + 2 + p.1 : Nat) : Int) : Key) = Sum.inl ((1 + 2 + j : Nat) : Int) := fun z => e (by have := Sum.inl.inj z; omega)
      rw [List.find?_cons, decide_eq_false e]
      exact (valV_neg (p := ((Sum.inl ((1 + 2 + p.1 : Nat) : Int) : Key), V.int p.2)) e1).trans ih
theorem nodup_len : ∀ {l m : List Nat}, l.Nodup → (∀ x ∈ l, x ∈ m) → l.length ≤ m.length
  | [], m, _, _ => Nat.zero_le _
  | x :: l, m, nd, h => by
    have nd' := List.nodup_cons.mp nd
    have hx := h x List.mem_cons_self
    have ih := nodup_len (l := l) (m := m.erase x) nd'.2 fun y hy => by
      have hne : y ≠ x := fun e => nd'.1 (e ▸ hy)
      exact (List.mem_erase_of_ne hne).mpr (h y (List.mem_cons_of_mem _ hy))
    rw [List.length_erase_of_mem hx] at ih
    have : 0 < m.length := List.length_pos_of_mem hx
    rw [List.length_cons]
    omega
structure NtOk (l : List (Nat × Int)) : Prop where
  nd : (l.map (·.1)).Nodup
  p : ∀ p ∈ l, 0 ≤ p.2 ∧ p.1 < 10
def decN (j : Nat) (k : Int) (l : List (Nat × Int)) : List (Nat × Int) := l.map fun p => if p.1 = j then (p.1, max 0 (p.2 - k)) else p
theorem getN_some {l : List (Nat × Int)} {j : Nat} {x : Int} (h : getN l j = some x) : (j, x) ∈ l := by
  unfold getN at h
  obtain ⟨p, hp, e⟩ := Option.map_eq_some_iff.mp h
  have h1 := List.find?_some hp
  have h2 := List.mem_of_find?_eq_some hp
  have h1 : p.1 = j := of_decide_eq_true h1
  rw [← h1, ← e]
  exact h2
theorem getN_none {l : List (Nat × Int)} {j : Nat} (h : getN l j = none) : ∀ p ∈ l, p.1 ≠ j := by
  unfold getN at h
  have h := List.find?_eq_none.mp (Option.map_eq_none_iff.mp h)
  intro p hp e
  exact h p hp (decide_eq_true e)
theorem getN_mem {l : List (Nat × Int)} {j : Nat} {x : Int} (nd : (l.map (·.1)).Nodup) (h : (j, x) ∈ l) : getN l j = some x := by
  cases e : getN l j with
  | none => exact absurd rfl (getN_none e (j, x) h)
  | some y =>
    have h2 := getN_some e
    have key : ∀ (l : List (Nat × Int)), (l.map (·.1)).Nodup → (j, x) ∈ l → (j, y) ∈ l → x = y := fun l => by
      induction l with
      | nil => intro _ h; cases h
      | cons p l ih =>
        intro nd h k
        have nd' : p.1 ∉ l.map (·.1) ∧ (l.map (·.1)).Nodup := List.nodup_cons.mp nd
        rcases List.mem_cons.mp h with e | h <;> rcases List.mem_cons.mp k with e' | k
        · rw [← e] at e'
          exact (Prod.mk.inj e').2.symm
        · exact absurd (List.mem_map.mpr ⟨(j, y), k, rfl⟩) (by rw [← e] at nd'; exact nd'.1)
        · exact absurd (List.mem_map.mpr ⟨(j, x), h, rfl⟩) (by rw [← e'] at nd'; exact nd'.1)
        · exact ih nd'.2 h k
    rw [key l nd h h2]
theorem decN_none {l : List (Nat × Int)} {j : Nat} {k : Int} (h : getN l j = none) : decN j k l = l := by
  unfold decN
  have := getN_none h
  exact (List.map_congr_left fun p hp => if_neg (this p hp)).trans (List.map_id _)
theorem decN_some {l : List (Nat × Int)} {j : Nat} {k x : Int} (nd : (l.map (·.1)).Nodup) (h : getN l j = some x) : putN l j (max 0 (x - k)) = decN j k l := by
  unfold putN decN
  rw [if_pos (List.any_eq_true.mpr ⟨(j, x), getN_some h, decide_eq_true rfl⟩)]
  refine List.map_congr_left fun p hp => ?_
  by_cases e : p.1 = j
  · rw [if_pos e, if_pos e]
    have : getN l j = some p.2 := getN_mem nd (by rw [← e]; exact hp)
    rw [h] at this
    cases this
    rfl
  · rw [if_neg e, if_neg e]
theorem decN_zero {l : List (Nat × Int)} {j : Nat} (h : NtOk l) : decN j 0 l = l := by
  unfold decN
  refine (List.map_congr_left fun p hp => ?_).trans (List.map_id _)
  have := (h.p p hp).1
  split
  · show (p.1, max 0 (p.2 - 0)) = p
    rw [Int.sub_zero, show max 0 p.2 = p.2 by omega]
  · rfl
theorem decN_ok {l : List (Nat × Int)} {j : Nat} {k : Int} (h : NtOk l) : NtOk (decN j k l) := by
  refine ⟨?_, fun p hp => ?_⟩
  · have : (decN j k l).map (·.1) = l.map (·.1) := by
      unfold decN
      rw [List.map_map]
      refine List.map_congr_left fun p _ => ?_
      show (if p.1 = j then (p.1, max 0 (p.2 - k)) else p).1 = p.1
      split <;> rfl
    rw [this]
    exact h.nd
  · obtain ⟨q, hq, e⟩ := List.mem_map.mp hp
    have := h.p q hq
    split at e
    · rw [← e]; exact ⟨by show 0 ≤ max 0 (q.2 - k); omega, this.2⟩
    · rw [← e]; exact this
theorem cutD {xs : List V} {n : Nat} (h : n ≤ xs.length) : cutV xs (some (n : Int)) none = xs.drop n := by
  unfold cutV
  rw [HT.sIx_none, HT.sIx_nat, show min n xs.length = n by omega]
  exact List.take_of_length_le (by rw [List.length_drop]; exact Nat.le_refl _)
def spShr : Sp := fun vs H Q _ => ∃ (W : WA) (cnt : Int) (T : Nat → List V) (N : Nat → List (Nat × Int)) (j : Nat) (k : Int), vs = [.ref W.wd, .int ((1 + 2 + j : Nat) : Int), .int k] ∧ WAt H W cnt T N ∧ j < 10 ∧ T (1 + 2 + j) ≠ [] ∧ NtOk (N 0) ∧ NtOk (N 1) ∧
  ∀ W' H', W'.wd = W.wd → WAt H' W' cnt (sett T (1 + 2 + j) ((T (1 + 2 + j)).drop (cutN (T (1 + 2 + j)).length k))) (fun t => decN j (cutN (T (1 + 2 + j)).length k : Nat) (N t)) → Zst (WOwn W) H (WOwn W') H' → Q .non H'
theorem WAt.eqT {H : Hp} {W : WA} {cnt : Int} {T T' : Nat → List V} {N : Nat → List (Nat × Int)} (h : WAt H W cnt T N) (e : ∀ c, c < 13 → T' c = T c) : WAt H W cnt T' N := ⟨h.wd, h.tl, h.nl, fun c hc => by rw [e c hc]; exact h.tc c hc, h.n0, h.n1, h.d1, h.d2, h.d3⟩
theorem WAt.eqN {H : Hp} {W : WA} {cnt : Int} {T : Nat → List V} {N N' : Nat → List (Nat × Int)} (h : WAt H W cnt T N) (e0 : N' 0 = N 0) (e1 : N' 1 = N 1) : WAt H W cnt T N' := ⟨h.wd, h.tl, h.nl, h.tc, by rw [e0]; exact h.n0, by rw [e1]; exact h.n1, h.d1, h.d2, h.d3⟩
section
variable {P : Program} {w : World} {K : PySem.W.Frag} {mg : Str → Option Value} {base : Heap} {C M NV LE : Addr}
theorem scShr : FnScope ["w", "cell", "steps", "notes"] ["w", "cell", "steps"] (defScope sShr) := ⟨rfl, rfl, rfl, by decide +kernel, rfl, by decide +kernel, by decide +kernel⟩
theorem go_shr (F : GT K mg "_law_shorten" sShr ["w", "cell", "steps"]) (B0 : Bn mg) (zx : mg "max" = none) (zn : mg "min" = none) : GO P w K mg base CX0 1 "_law_shorten" ["w", "cell", "steps"] spShr := by
  obtain ⟨f, fd, F, hm, hb⟩ := F
  refine ⟨f, fd, ?_, hm, F.kp, hb⟩
  refine F.ok scShr (fun vs H Q E h => ?_) (fun cdv A outer s H vs Q E hr h => ?_)
  · obtain ⟨W, cnt, T, N, c, v, rfl, _⟩ := h
    rfl
  · obtain ⟨W, cnt, T, N, j, k, rfl, R, hj, hne, n0, n1, kk⟩ := h
    have nd := scShr.nd
    have hu := hu_of hr
    have hsl : sizeLine = 16777216 := sizeLine_eq
    refine ⟨_, (pss_cons (ps_set (i := 2) nd rfl (Or.inl rfl) (pe_callB (call_min2 rfl) (by rfl) zn (by decide +kernel) (pa_cons (pv 2) (pa_cons (pe_op op_sub (pe_callB call_len_seq (by rfl) B0.len PySem.boot_len (pa_cons (pe_ix ix_list (pe_dget hu (pv 0) pe_str (fun _ _ => rfl)) (pv 1) (fun _ _ => rfl)) pa_nil)) pe_int) pa_nil))))
  (pss_one (ps_if (pt_cmpR op_gt (pv 2) pe_int (nomark _))
  (pss_cons (ps_asg (pe_slice sl_list (pe_ix ix_list (pe_dget hu (pv 0) pe_str (fun _ _ => rfl)) (pv 1) (fun _ _ => rfl)) (po_some (pv 2)) po_none) (pg_sub (pe_dget hu (pv 0) pe_str (fun _ _ => rfl)) (pv 1) set_list))
  (pss_one (ps_for PassesOwn.never rfl (pi_list (pe_dget hu (pv 0) pe_str (fun _ _ => rfl))) (pg_name (i := 3) nd rfl (Or.inl rfl))
  (pss_one (ps_if (pt_cmp (pc_din hu (pv 1) (pv 3)))
  (pss_one (ps_dput hu (pv 3) (pv 1) (pe_callB (call_max2 rfl) (by rfl) zx (by decide +kernel) (pa_cons pe_int (pa_cons (pe_op op_sub (pe_dget hu (pv 3) (pv 1) (fun _ _ => rfl)) (pv 2)) pa_nil))) rfl))
  pss_nil)))))
  pss_nil))), ?_⟩
    have hlen : 0 < (T (1 + 2 + j)).length := List.length_pos_iff.mpr hne
    have hc : 1 + 2 + j < 13 := by omega
    refine ⟨_, rfl, _, rfl, W.wd, _, rfl, R.gt, _, rfl, W.tl, _, _, _, rfl, rfl, SqL.of R.tl, tc_at hc, W.tc (1 + 2 + j), _, rfl, .inl (SqL.of (R.tc _ hc)), _, _, rfl, rfl, _, _, rfl, ?_⟩
    generalize hs : (if ((T (1 + 2 + j)).length : Int) - 1 < k then ((T (1 + 2 + j)).length : Int) - 1 else k) = st
    have hs' : (if st > 0 then st else 0) = ((cutN (T (1 + 2 + j)).length k : Nat) : Int) := by rw [← hs]; exact many_eq hlen k
    have hlt : cutN (T (1 + 2 + j)).length k < (T (1 + 2 + j)).length := by unfold cutN; omega
    generalize cutN (T (1 + 2 + j)).length k = mm at hs' hlt kk
    refine ⟨_, rfl, _, _, rfl, rfl, _, rfl, ite2 (fun d => ?_) (fun d => ?_)⟩
    · have d : 0 < st := of_decide_eq_true d
      rw [if_pos d] at hs'
      rw [hs']
      refine ⟨_, rfl, W.wd, _, rfl, R.gt, _, rfl, W.tl, _, _, _, rfl, rfl, SqL.of R.tl, tc_at hc, _, rfl, _, rfl, W.tc (1 + 2 + j), _, rfl, SqL.of (R.tc _ hc), fun p hp => ?_⟩
      rw [cutD (by omega)]
      have s1 := up1 (o := HO.lst ((T (1 + 2 + j)).drop mm)) hp
      have e1 : upd H p (HO.lst ((T (1 + 2 + j)).drop mm)) p = _ := upd_same
      generalize upd H p (HO.lst ((T (1 + 2 + j)).drop mm)) = H1 at s1 e1 ⊢
      have hix : ixN ((List.range 13).map fun c => V.ref (W.tc c)).length (((1 + 2 + j : Nat)) : Int) = some (1 + 2 + j) := by
        rw [List.length_map, List.length_range]
        unfold ixN
        rw [if_pos (by omega), if_pos (by omega)]
        rfl
      have np' : ¬ WOwn W p := fun o => by obtain ⟨u, hu⟩ := R.al o; rw [hp] at hu; cases hu
      have R1 := R.same s1
      refine ⟨_, rfl, W.wd, _, rfl, R1.gt, _, rfl, W.tl, _, _, _, rfl, rfl, R1.tl, hix, ?_⟩
      have R2 := R1.put e1 np' hc fun z => np' (.inl z)
      have z2 : Zst (WOwn W) H (WOwn { W with tc := seta W.tc (1 + 2 + j) p }) (upd H1 W.tl (.lst (((List.range 13).map fun c => V.ref (W.tc c)).set (1 + 2 + j) (.ref p)))) := by
        refine ⟨fun b o e nb => ?_, fun b hb => ?_⟩
        · rw [upd_ne fun z => nb (.inr (.inl z))]
          exact s1 _ _ e
        · rcases own_put hb with h | h
          · exact .inl h
          · exact .inr (h ▸ hp)
      generalize upd H1 W.tl (.lst (((List.range 13).map fun c => V.ref (W.tc c)).set (1 + 2 + j) (.ref p))) = H2 at R2 z2 ⊢
      -- the notes
      generalize hW2 : ({ W with tc := seta W.tc (1 + 2 + j) p } : WA) = W2 at R2 z2
      have ew : W2.wd = W.wd ∧ W2.nl = W.nl ∧ W2.n0 = W.n0 ∧ W2.n1 = W.n1 := by rw [← hW2]; exact ⟨rfl, rfl, rfl, rfl⟩
      rw [← ew.1]
      refine ⟨_, rfl, W2.wd, _, rfl, R2.gn, W2.nl, rfl, ⟨_, SqL.of R2.nl⟩, for_list (xs := [.ref W2.n0, .ref W2.n1]) (fun i σ H' => ∃ x, σ = [some (.ref W2.wd), some (.int ((1 + 2 + j : Nat) : Int)), some (.int (mm : Int)), x] ∧ WAt H' W2 cnt (sett T (1 + 2 + j) ((T (1 + 2 + j)).drop mm)) (fun t => if t < i then decN j (mm : Nat) (N t) else N t) ∧ Zst (WOwn W) H (WOwn W2) H')
        ⟨_, rfl, R2.eqN rfl rfl, z2⟩ (fun i σ H' _ z => by obtain ⟨_, _, r, _⟩ := z; exact SqL.of r.nl) ?_ ?_⟩
      · rintro i x σ H3 hi ⟨x3, rfl, R3, z3⟩
        obtain ⟨n, l, ok, hn, ex, own, fin⟩ : ∃ (n : Addr) (l : List (Nat × Int)), NtOk l ∧ H3 n = some (.dK (nkv 2 l)) ∧ x = .ref n ∧ (n = W2.n0 ∨ n = W2.n1) ∧ ∀ H4, (∀ b o, H3 b = some o → b ≠ n → H4 b = some o) → H4 n = some (.dK (nkv 2 (decN j (mm : Nat) l))) → WAt H4 W2 cnt (sett T (1 + 2 + j) ((T (1 + 2 + j)).drop mm)) (fun t => if t < i + 1 then decN j (mm : Nat) (N t) else N t) := by
          have i2 : i < 2 := (List.getElem?_eq_some_iff.mp hi).1
          have on : ∀ (n : Addr) (H4 : Hp), WOwn W2 n → (∀ b o, H3 b = some o → b ≠ n → H4 b = some o) → (n ≠ W2.wd ∧ n ≠ W2.tl ∧ n ≠ W2.nl ∧ ∀ c, c < 13 → n ≠ W2.tc c) → H4 W2.wd = H3 W2.wd ∧ H4 W2.tl = H3 W2.tl ∧ H4 W2.nl = H3 W2.nl ∧ ∀ c, c < 13 → H4 (W2.tc c) = H3 (W2.tc c) := fun n H4 _ k ⟨a, b, c, d⟩ =>
            ⟨by rw [k _ _ R3.wd a.symm, R3.wd], by rw [k _ _ R3.tl b.symm, R3.tl], by rw [k _ _ R3.nl c.symm, R3.nl], fun e he => by rw [k _ _ (R3.tc e he) (d e he).symm, R3.tc e he]⟩
          have i01 : i = 0 ∨ i = 1 := by omega
          rcases i01 with e | e
          · subst e
            have hx : V.ref W2.n0 = x := Option.some.inj hi
            refine ⟨W2.n0, N 0, n0, R3.n0, hx.symm, .inl rfl, fun H4 k hn => ?_⟩
            obtain ⟨a, b, c, d⟩ := on W2.n0 H4 (.inr (.inr (.inr (.inl rfl)))) k ⟨R3.d3.2.1.symm, ne_of R3.n0 R3.tl (by intro z; cases z), ne_of R3.n0 R3.nl (by intro z; cases z), fun c hc => ne_of R3.n0 (R3.tc c hc) (by intro z; cases z)⟩
            exact ⟨a.trans R3.wd, b.trans R3.tl, c.trans R3.nl, fun e he => (d e he).trans (R3.tc e he), hn, k _ _ R3.n1 R3.d3.1.symm, R3.d1, R3.d2, R3.d3⟩
          · subst e
            have hx : V.ref W2.n1 = x := Option.some.inj hi
            refine ⟨W2.n1, N 1, n1, R3.n1, hx.symm, .inr rfl, fun H4 k hn => ?_⟩
            obtain ⟨a, b, c, d⟩ := on W2.n1 H4 (.inr (.inr (.inr (.inr (.inl rfl))))) k ⟨R3.d3.2.2.symm, ne_of R3.n1 R3.tl (by intro z; cases z), ne_of R3.n1 R3.nl (by intro z; cases z), fun c hc => ne_of R3.n1 (R3.tc c hc) (by intro z; cases z)⟩
            exact ⟨a.trans R3.wd, b.trans R3.tl, c.trans R3.nl, fun e he => (d e he).trans (R3.tc e he), k _ _ R3.n0 R3.d3.1, hn, R3.d1, R3.d2, R3.d3⟩
        subst ex
        have hg : DGet H3 n (.int ((1 + 2 + j : Nat) : Int)) ((getN l j).map V.int) := by
          have := DGet.k (k := (Sum.inl ((1 + 2 + j : Nat) : Int) : Key)) hn
          rw [valV_nkv] at this
          exact this
        refine ⟨_, rfl, _, rfl, n, _, rfl, hg, ?_⟩
        refine ⟨_, rfl, ?_⟩
        cases hl : getN l j with
        | none => exact iteF ⟨_, rfl, fin H3 (fun _ _ e _ => e) (by rw [decN_none hl]; exact hn), z3⟩
        | some y =>
          rw [hl] at hg
          have hm : (if y - (mm : Int) > 0 then y - (mm : Int) else 0) = max 0 (y - (mm : Int)) := by split <;> omega
          have hp2 : DPut H3 n (.int ((1 + 2 + j : Nat) : Int)) (.int (if y - (mm : Int) > 0 then y - (mm : Int) else 0)) (upd H3 n (.dK (nkv 2 (decN j (mm : Nat) l)))) := by
            have := DPut.k (k := (Sum.inl ((1 + 2 + j : Nat) : Int) : Key)) (v := V.int (max 0 (y - (mm : Int)))) hn (by
              show (nkv 2 l).length < sizeLine
              unfold nkv
              rw [List.length_map]
              have hle : (l.map (·.1)).length ≤ (List.range 10).length := nodup_len ok.nd fun x hx => by
                obtain ⟨p, hp, e⟩ := List.mem_map.mp hx
                exact List.mem_range.mpr (e ▸ (ok.p p hp).2)
              rw [List.length_map, List.length_range] at hle
              omega)
            rw [putN_kv, decN_some ok.nd hl] at this
            rw [hm]
            exact this
          refine iteT ⟨_, rfl, _, rfl, n, _, rfl, hg, _, rfl, _, _, rfl, rfl, _, _, rfl, _, rfl, _, rfl, n, _, rfl, hp2, _, rfl, fin _ (fun b o e ne => by rw [upd_ne ne]; exact e) upd_same, fun b o e nb => ?_, z3.2⟩
          rw [upd_ne fun z => ?_]
          · exact z3.1 _ _ e nb
          · -- n is the law's own since the beginning
            rcases own with q | q
            · exact nb (.inr (.inr (.inr (.inl (z.trans (q.trans ew.2.2.1))))))
            · exact nb (.inr (.inr (.inr (.inr (.inl (z.trans (q.trans ew.2.2.2)))))))
      · rintro σ H3 ⟨x3, rfl, R3, z3⟩
        exact kk W2 H3 ew.1 (R3.eqN rfl rfl) z3
    · have d : ¬ 0 < st := fun z => d (decide_eq_true z)
      rw [if_neg d] at hs'
      have hm0 : mm = 0 := by omega
      subst hm0
      refine kk W H rfl ((R.eqT fun c _ => ?_).eqN (decN_zero n0) (decN_zero n1)) Zst.refl
      rw [List.drop_zero]
      unfold sett
      by_cases e : c = 1 + 2 + j
      · rw [if_pos e, e]
      · rw [if_neg e]
end
end Dk

set_option maxHeartbeats 4000000
/-! what the law's lists make of an access -/
namespace Dk
open PySem PySem.Spec PyProof.Rows L2
abbrev sDue : Stmt := top 26
section
variable {H H' : Hp} {W : WA} {cnt : Int} {T : Nat → List V} {N : Nat → List (Nat × Int)}
def WA.setn (W : WA) (th : Nat) (p : Addr) : WA := if th = 0 then { W with n0 := p } else { W with n1 := p }
def setNn (N : Nat → List (Nat × Int)) (th : Nat) (l : List (Nat × Int)) : Nat → List (Nat × Int) := fun t => if t = th then l else N t
theorem WAt.newN {p : Addr} {th : Nat} (h : WAt H W cnt T N) (hp : H p = some (.dK [])) (np : ¬ WOwn W p) (ht : th < 2) :
    WAt (upd H W.nl (.lst (([V.ref W.n0, V.ref W.n1]).set th (.ref p)))) (W.setn th p) cnt T (setNn N th []) := by
  have e : th = 0 ∨ th = 1 := by omega
  have p1 : p ≠ W.wd := fun z => np (.inl z)
  have p2 : p ≠ W.nl := fun z => np (.inr (.inr (.inl z)))
  have p3 : p ≠ W.n0 := fun z => np (.inr (.inr (.inr (.inl z))))
  have p4 : p ≠ W.n1 := fun z => np (.inr (.inr (.inr (.inr (.inl z)))))
  have o : ∀ {b : Addr} {u : HO}, H b = some u → b ≠ W.nl → upd H W.nl (.lst (([V.ref W.n0, V.ref W.n1]).set th (.ref p))) b = some u := fun {b u} e n => by rw [upd_ne n]; exact e
  rcases e with e | e
  · subst e
    exact ⟨o h.wd (ne_of h.wd h.nl (by intro z; cases z)), o h.tl h.d1, upd_same, fun c hc => o (h.tc c hc) (h.d2 c hc).2, o hp p2, o h.n1 (ne_of h.n1 h.nl (by intro z; cases z)), h.d1, h.d2, p4, p1.symm, h.d3.2.2⟩
  · subst e
    exact ⟨o h.wd (ne_of h.wd h.nl (by intro z; cases z)), o h.tl h.d1, upd_same, fun c hc => o (h.tc c hc) (h.d2 c hc).2, o h.n0 (ne_of h.n0 h.nl (by intro z; cases z)), o hp p2, h.d1, h.d2, p3.symm, h.d3.2.1, p1.symm⟩
theorem own_newN {p : Addr} {th : Nat} {b : Addr} (hb : WOwn (W.setn th p) b) : WOwn W b ∨ b = p := by
  unfold WA.setn at hb
  split at hb
  · rcases hb with e | e | e | e | e | e
    · exact .inl (.inl e)
    · exact .inl (.inr (.inl e))
    · exact .inl (.inr (.inr (.inl e)))
    · exact .inr e
    · exact .inl (.inr (.inr (.inr (.inr (.inl e)))))
    · exact .inl (.inr (.inr (.inr (.inr (.inr e)))))
  · rcases hb with e | e | e | e | e | e
    · exact .inl (.inl e)
    · exact .inl (.inr (.inl e))
    · exact .inl (.inr (.inr (.inl e)))
    · exact .inl (.inr (.inr (.inr (.inl e))))
    · exact .inr e
    · exact .inl (.inr (.inr (.inr (.inr (.inr e)))))
theorem WAt.nth {th : Nat} (h : WAt H W cnt T N) (ht : th < 2) : ∃ n, ([V.ref W.n0, V.ref W.n1])[th]? = some (.ref n) ∧ H n = some (.dK (nkv 2 (N th))) ∧ WOwn W n ∧
    ∀ l, WAt (upd H n (.dK (nkv 2 l))) W cnt T (setNn N th l) := by
  have e : th = 0 ∨ th = 1 := by omega
  rcases e with e | e
  · subst e
    refine ⟨W.n0, rfl, h.n0, .inr (.inr (.inr (.inl rfl))), fun l => ?_⟩
    have o : ∀ {b : Addr} {u : HO}, H b = some u → b ≠ W.n0 → upd H W.n0 (.dK (nkv 2 l)) b = some u := fun {b u} e n => by rw [upd_ne n]; exact e
    exact ⟨o h.wd h.d3.2.1, o h.tl (ne_of h.tl h.n0 (by intro z; cases z)), o h.nl (ne_of h.nl h.n0 (by intro z; cases z)), fun c hc => o (h.tc c hc) (ne_of (h.tc c hc) h.n0 (by intro z; cases z)), upd_same, o h.n1 h.d3.1.symm, h.d1, h.d2, h.d3⟩
  · subst e
    refine ⟨W.n1, rfl, h.n1, .inr (.inr (.inr (.inr (.inl rfl)))), fun l => ?_⟩
    have o : ∀ {b : Addr} {u : HO}, H b = some u → b ≠ W.n1 → upd H W.n1 (.dK (nkv 2 l)) b = some u := fun {b u} e n => by rw [upd_ne n]; exact e
    exact ⟨o h.wd h.d3.2.2, o h.tl (ne_of h.tl h.n1 (by intro z; cases z)), o h.nl (ne_of h.nl h.n1 (by intro z; cases z)), fun c hc => o (h.tc c hc) (ne_of (h.tc c hc) h.n1 (by intro z; cases z)), o h.n0 h.d3.1, upd_same, h.d1, h.d2, h.d3⟩
end
theorem Zst.out {Z Z' : Addr → Prop} {H H' : Hp} (a : Zst Z H Z' H') {c : Addr} {o : HO} (e : H c = some o) (hc : ¬ Z c) : H' c = some o ∧ ¬ Z' c :=
  ⟨a.1 c o e hc, fun h => (a.2 c h).elim hc fun q => by rw [e] at q; cases q⟩
/-! a fence -/
def cutO (xs : List V) : Option Int → List V
  | none => xs
  | some x => xs.drop (cutN xs.length x)
def decO (n : Nat) (p : Nat × Int) : Option Int → Nat × Int
  | none => p
  | some x => (p.1, max 0 (p.2 - ((cutN n x : Nat) : Int)))
theorem decO_key {n : Nat} {p : Nat × Int} : ∀ {o : Option Int}, (decO n p o).1 = p.1
  | none => rfl
  | some _ => rfl
def fT (g : Nat → Option Int) (T : Nat → List V) : Nat → List V := fun c => if c < 3 then T c else cutO (T c) (g (c - 3))
def fN (g : Nat → Option Int) (T : Nat → List V) (m : List (Nat × Int)) : List (Nat × Int) := m.map fun p => decO (T (1 + 2 + p.1)).length p (g p.1)
def putG (g : Nat → Option Int) (j : Nat) (x : Int) : Nat → Option Int := fun i => if i = j then some x else g i
theorem putG_same {g : Nat → Option Int} {j : Nat} {x : Int} : putG g j x j = some x := if_pos rfl
theorem putG_ne {g : Nat → Option Int} {i j : Nat} {x : Int} (h : i ≠ j) : putG g j x i = g i := if_neg h
theorem fT_none {g : Nat → Option Int} {T : Nat → List V} {j : Nat} (h : g j = none) : fT g T (1 + 2 + j) = T (1 + 2 + j) := by
  unfold fT
  rw [if_neg (by omega), show 1 + 2 + j - 3 = j by omega, h]
  rfl
theorem fT_step {g : Nat → Option Int} {T : Nat → List V} {j : Nat} {x : Int} (h : g j = none) : fT (putG g j x) T = sett (fT g T) (1 + 2 + j) ((fT g T (1 + 2 + j)).drop (cutN (fT g T (1 + 2 + j)).length x)) := by
  funext c
  rw [fT_none h]
  unfold sett
  by_cases e : c = 1 + 2 + j
  · subst e
    rw [if_pos rfl]
    unfold fT
    rw [if_neg (by omega), show 1 + 2 + j - 3 = j by omega, putG_same]
    rfl
  · rw [if_neg e]
    unfold fT
    by_cases c3 : c < 3
    · rw [if_pos c3, if_pos c3]
    · rw [if_neg c3, if_neg c3, putG_ne (show c - 3 ≠ j by omega)]
theorem fN_step {g : Nat → Option Int} {T : Nat → List V} {j : Nat} {x : Int} (h : g j = none) (m : List (Nat × Int)) : fN (putG g j x) T m = decN j ((cutN (T (1 + 2 + j)).length x : Nat) : Int) (fN g T m) := by
  unfold fN decN
  rw [List.map_map]
  refine List.map_congr_left fun p _ => ?_
  show decO _ p (putG g j x p.1) = if (decO _ p (g p.1)).1 = j then ((decO _ p (g p.1)).1, max 0 ((decO _ p (g p.1)).2 - _)) else decO _ p (g p.1)
  rw [decO_key]
  by_cases e : p.1 = j
  · rw [if_pos e, e, putG_same, h]
    show (p.1, _) = (j, _)
    rw [e]
    rfl
  · rw [if_neg e, putG_ne e]
theorem fN_ok {g : Nat → Option Int} {T : Nat → List V} {m : List (Nat × Int)} (h : NtOk m) : NtOk (fN g T m) := by
  refine ⟨?_, fun p hp => ?_⟩
  · have : (fN g T m).map (·.1) = m.map (·.1) := by
      unfold fN
      rw [List.map_map]
      exact List.map_congr_left fun p _ => decO_key
    rw [this]
    exact h.nd
  · obtain ⟨q, hq, e⟩ := List.mem_map.mp hp
    have := h.p q hq
    rw [← e, decO_key]
    refine ⟨?_, this.2⟩
    cases g q.1 with
    | none => exact this.1
    | some x => show 0 ≤ max 0 _; omega
theorem fT_id {T : Nat → List V} : fT (fun _ => none) T = T := by
  funext c
  unfold fT
  split <;> rfl
theorem fN_id {T : Nat → List V} (m : List (Nat × Int)) : fN (fun _ => none) T m = m := by
  unfold fN
  exact List.map_id _
theorem fT_ne {g : Nat → Option Int} {T : Nat → List V} {c : Nat} (h : T c ≠ []) : fT g T c ≠ [] := by
  have h2 : 0 < (T c).length := List.length_pos_iff.mpr h
  unfold fT
  split
  · exact h
  · cases g (c - 3) with
    | none => exact h
    | some x =>
      refine List.length_pos_iff.mp ?_
      show 0 < ((T c).drop _).length
      rw [List.length_drop]
      unfold cutN
      omega
/-- what an access is due to give, and what the lists hold behind it -/
def Due (K : PySem.W.Frag) (H H' : Hp) (cnt : Int) (T : Nat → List V) (N : Nat → List (Nat × Int)) (th : Nat) (v : V) (T' : Nat → List V) (N' : Nat → List (Nat × Int)) : Rq → Prop
  | .read i => (T i).getLast? = some v ∧ T' = T ∧ N' = N
  | .write i x => v = .non ∧ T' = giveT T i x ∧ N' = N
  | .swap i o n => ∃ p tp to, (T i).getLast? = some p ∧ DV K H p tp ∧ DV K H o to ∧ ((tp = to ∧ v = .bl true ∧ T' = giveT T i n) ∨ (tp ≠ to ∧ v = .bl false ∧ T' = T)) ∧ N' = N
  | .decide i z => ∃ p tp, (T i).getLast? = some p ∧ DV K H p tp ∧ ((tp = .sc (.int 0) ∧ v = .bl true ∧ ∃ u, H' u = some (.tup [.str z, .int cnt]) ∧ T' = giveT T i (.ref u)) ∨ (tp ≠ .sc (.int 0) ∧ v = .bl false ∧ T' = T)) ∧ N' = N
  | .flush i => v = .non ∧ T' = T ∧ N' = setNn N th (putN (N th) (i - 3) (((T i).length : Int) - 1))
  | .fence => v = .non ∧ T' = fT (getN (N th)) T ∧ N' = fun t => if t = th then [] else fN (getN (N th)) T (N t)
/-- the trails are not empty, and not long; the values are fine -/
structure TOk (K : PySem.W.Frag) (H : Hp) (T : Nat → List V) : Prop where
  ne : ∀ c, c < 13 → T c ≠ []
  le : ∀ c, c < 13 → (T c).length < 10000
  fi : ∀ c, c < 13 → ∃ us, Vls K H (T c) us
/-- the values of a request -/
def Rq.fine (K : PySem.W.Frag) (H : Hp) : Rq → Prop
  | .write _ v => ∃ t, DV K H v t ∧ Fine t
  | .swap _ o n => (∃ t, DV K H o t ∧ Fine t) ∧ ∃ t, DV K H n t ∧ Fine t
  | .decide _ z => z = "done" ∨ z = "failed"
  | _ => True
def spDue (K : PySem.W.Frag) : Sp := fun vs H Q _ => ∃ (W : WA) (cnt : Int) (T : Nat → List V) (N : Nat → List (Nat × Int)) (th : Nat) (q : Addr) (rq : Rq), vs = [.ref W.wd, .int (th : Int), .ref q] ∧ WAt H W cnt T N ∧ th < 2 ∧ H q = some (.tup rq.vs) ∧ rq.ok 2 2 6 ∧ rq.fine K H ∧ TOk K H T ∧ (∀ t, NtOk (N t)) ∧
  ∀ (v : V) (W' : WA) (H' : Hp) (T' : Nat → List V) (N' : Nat → List (Nat × Int)), W'.wd = W.wd → WAt H' W' cnt T' N' → Zst (WOwn W) H (WOwn W') H' → Due K H' H' cnt T N th v T' N' rq → Q v H'
section
variable {P : Program} {w : World} {K : PySem.W.Frag} {mg : Str → Option Value} {base : Heap} {C M NV LE : Addr}
abbrev NDu : List Str := ["w", "thread", "request", "kind", "notes", "cell", "value"]
theorem scDue : FnScope NDu ["w", "thread", "request"] (defScope sDue) := ⟨rfl, rfl, rfl, by decide +kernel, rfl, by decide +kernel, by decide +kernel⟩
theorem go_due (F : GT K mg "_law_due" sDue ["w", "thread", "request"]) (B0 : Bn mg) (zs : mg "sorted" = none) (zd : mg "dict" = none) (GSh : GO P w K mg base CX0 1 "_law_shorten" ["w", "cell", "steps"] spShr) (GGv : GO P w K mg base CX0 1 "_law_give" ["w", "cell", "value"] spGiv) : GO P w K mg base CX0 2 "_law_due" ["w", "thread", "request"] (spDue K) := by
  obtain ⟨f, fd, F, hm, hb⟩ := F
  refine ⟨f, fd, ?_, hm, F.kp, hb⟩
  refine F.ok scDue (fun vs H Q E h => ?_) (fun cdv A outer s H vs Q E hr h => ?_)
  · obtain ⟨W, cnt, T, N, th, q, rq, rfl, _⟩ := h
    rfl
  · obtain ⟨W, cnt, T, N, th, q, rq, rfl, R, ht, hq, ok, fi, to, no, kk⟩ := h
    have nd := scDue.nd
    have hu := hu_of hr
    have hrS : Room 1 _ := hr
    have hrG : Room 1 _ := hr
    have hsl : sizeLine = 16777216 := sizeLine_eq
    refine ⟨_, (pss_cons (ps_set (i := 3) nd rfl (Or.inl rfl) (pe_ix ix_tup (pv 2) pe_int (fun _ _ => rfl)))
  (pss_cons (ps_if (pt_cmpR op_eq (pv 3) pe_str (nomark _))
  (pss_cons (ps_set (i := 4) nd rfl (Or.inl rfl) (pe_callTy call_dictD (by rfl) zd (by decide +kernel) (pa_cons (pe_ix ix_list (pe_dget hu (pv 0) pe_str (fun _ _ => rfl)) (pv 1) (fun _ _ => rfl)) pa_nil)))
  (pss_cons (ps_asg pe_dnewK (pg_sub (pe_dget hu (pv 0) pe_str (fun _ _ => rfl)) (pv 1) set_list))
  (pss_cons (ps_for PassesOwn.never rfl (pi_list (pe_callB (call_sortedDI rfl) (by rfl) zs (by decide +kernel) (pa_cons (pv 4) pa_nil))) (pg_name (i := 5) nd rfl (Or.inl rfl))
  (pss_one (ps_expr (pc_ GSh hrS (pa_cons (pv 0) (pa_cons (pv 5) (pa_cons (pe_dget hu (pv 4) (pv 5) (fun _ _ => rfl)) pa_nil)))))))
  (pss_one (ps_ret pe_non)))))
  pss_nil)
  (pss_cons (ps_set (i := 5) nd rfl (Or.inl rfl) (pe_ix ix_tup (pv 2) pe_int (fun _ _ => rfl)))
  (pss_cons (ps_set (i := 6) nd rfl (Or.inl rfl) (pe_ix ix_list (pe_ix ix_list (pe_dget hu (pv 0) pe_str (fun _ _ => rfl)) (pv 5) (fun _ _ => rfl)) (pe_un un_neg pe_int) (fun _ _ => rfl)))
  (pss_cons (ps_if (pt_cmpR op_eq (pv 3) pe_str (nomark _))
  (pss_cons (ps_dput hu (pe_ix ix_list (pe_dget hu (pv 0) pe_str (fun _ _ => rfl)) (pv 1) (fun _ _ => rfl)) (pv 5) (pe_op op_sub (pe_callB call_len_seq (by rfl) B0.len PySem.boot_len (pa_cons (pe_ix ix_list (pe_dget hu (pv 0) pe_str (fun _ _ => rfl)) (pv 5) (fun _ _ => rfl)) pa_nil)) pe_int) rfl)
  (pss_one (ps_ret pe_non)))
  pss_nil)
  (pss_cons (ps_if (pt_cmpR op_eq (pv 3) pe_str (nomark _))
  (pss_one (ps_ret (pv 6)))
  pss_nil)
  (pss_cons (ps_if (pt_cmpR op_eq (pv 3) pe_str (nomark _))
  (pss_cons (ps_expr (pc_ GGv hrG (pa_cons (pv 0) (pa_cons (pv 5) (pa_cons (pe_ix ix_tup (pv 2) pe_int (fun _ _ => rfl)) pa_nil)))))
  (pss_one (ps_ret pe_non)))
  pss_nil)
  (pss_cons (ps_if (pt_cmpR op_eq (pv 3) pe_str (nomark _))
  (pss_cons (ps_if (pt_cmpR (op_neD hr.units) (pv 6) (pe_ix ix_tup (pv 2) pe_int (fun _ _ => rfl)) (nomark _))
  (pss_one (ps_ret pe_bl))
  pss_nil)
  (pss_cons (ps_expr (pc_ GGv hrG (pa_cons (pv 0) (pa_cons (pv 5) (pa_cons (pe_ix ix_tup (pv 2) pe_int (fun _ _ => rfl)) pa_nil)))))
  (pss_one (ps_ret pe_bl))))
  pss_nil)
  (pss_cons (ps_if (pt_cmpR (op_neD hr.units) (pv 6) pe_int (nomark _))
  (pss_one (ps_ret pe_bl))
  pss_nil)
  (pss_cons (ps_expr (pc_ GGv hrG (pa_cons (pv 0) (pa_cons (pv 5) (pa_cons (pe_tup (pa_cons (pe_ix ix_tup (pv 2) pe_int (fun _ _ => rfl)) (pa_cons (pe_dget hu (pv 0) pe_str (fun _ _ => rfl)) pa_nil))) pa_nil)))))
  (pss_one (ps_ret pe_bl)))))))))))), ?_⟩
    have eqs : ∀ a b : Str, a ≠ b → ∀ c : Bool, c = eqV (.str a) (.str b) → c = false := fun a b n c e => by
      rw [e]
      exact beq_eq_false_iff_ne.mpr n
    have last : ∀ i, i < 13 → ∃ p, (T i).getLast? = some p := fun i hi => ⟨_, List.getLast?_eq_some_getLast (to.ne i hi)⟩
    obtain ⟨n, hn1, hn, own, set⟩ := R.nth ht
    have hat : atI [V.ref W.n0, V.ref W.n1] (th : Int) = some (.ref n) := atI_nat (j := th) hn1
    have hixT : ∀ i : Nat, i < 13 → ixN ((List.range 13).map fun c => V.ref (W.tc c)).length (i : Int) = some i := fun i hi => by
      rw [List.length_map, List.length_range]
      unfold ixN
      rw [if_pos (by omega), if_pos (by omega)]
      rfl
    cases rq with
    | fence =>
      refine ⟨_, rfl, q, _, 0, _, rfl, rfl, SqT.of hq, rfl, ?_⟩
      refine ⟨_, rfl, rfl, _, rfl, iteT ?_⟩
      refine ⟨_, rfl, W.wd, _, rfl, R.gn, _, rfl, W.nl, _, _, _, rfl, rfl, SqL.of R.nl, hat, n, _, rfl, .inl hn, fun p hp => ?_⟩
      have s1 := up1 (o := HO.dK (nkv 2 (N th))) hp
      have e1 : upd H p (HO.dK (nkv 2 (N th))) p = _ := upd_same
      generalize upd H p (HO.dK (nkv 2 (N th))) = H1 at s1 e1 ⊢
      refine fun p2 hp2 => ?_
      have s2 := up1 (o := HO.dK []) hp2
      have e2 : upd H1 p2 (HO.dK []) p2 = _ := upd_same
      generalize upd H1 p2 (HO.dK []) = H2 at s2 e2 ⊢
      have s12 := s1.trans s2
      have R2 := R.same s12
      have hix : ixN [V.ref W.n0, V.ref W.n1].length (th : Int) = some th := by
        unfold ixN
        rw [if_pos (by omega), if_pos (by show (th : Int) < 2; omega)]
        rfl
      refine ⟨_, rfl, W.wd, _, rfl, R2.gn, _, rfl, W.nl, _, _, _, rfl, rfl, R2.nl, hix, ?_⟩
      have np2 : ¬ WOwn W p2 := fun o => by obtain ⟨u, hu⟩ := (R.same s1).al o; rw [hp2] at hu; cases hu
      have np : ¬ WOwn W p := fun o => by obtain ⟨u, hu⟩ := R.al o; rw [hp] at hu; cases hu
      have hpp : p ≠ p2 := fun z => by rw [z, hp2] at e1; cases e1
      have R3 := R2.newN e2 np2 ht
      have z3 : Zst (WOwn W) H (WOwn (W.setn th p2)) (upd H2 W.nl (.lst (([V.ref W.n0, V.ref W.n1]).set th (.ref p2)))) := by
        refine ⟨fun b o e nb => ?_, fun b hb => ?_⟩
        · rw [upd_ne fun z => nb (.inr (.inr (.inl z)))]
          exact s12 _ _ e
        · rcases own_newN hb with h | h
          · exact .inl h
          · exact .inr (s1.free (h ▸ hp2))
      have ep3 : upd H2 W.nl (.lst (([V.ref W.n0, V.ref W.n1]).set th (.ref p2))) p = some (.dK (nkv 2 (N th))) := by
        rw [upd_ne fun z => np (.inr (.inr (.inl z)))]
        exact s2 _ _ e1
      have np3 : ¬ WOwn (W.setn th p2) p := fun o => (own_newN o).elim np hpp
      have ew3 : (W.setn th p2).wd = W.wd := by unfold WA.setn; split <;> rfl
      generalize upd H2 W.nl (.lst (([V.ref W.n0, V.ref W.n1]).set th (.ref p2))) = H3 at R3 z3 ep3 ⊢
      generalize W.setn th p2 = W3 at R3 z3 np3 ew3
      -- the keys
      generalize hks : (N th).map (fun p => ((1 + 2 + p.1 : Nat) : Int)) = ks
      have hkm : (nkv 2 (N th)).map (·.1) = ks.map Sum.inl := by
        rw [← hks]
        unfold nkv
        rw [List.map_map, List.map_map]
        rfl
      have hkl : ks.length < 64 := by
        rw [← hks, List.length_map]
        have hle : ((N th).map (·.1)).length ≤ (List.range 10).length := nodup_len (no th).nd fun x hx => by
          obtain ⟨p, hp, e⟩ := List.mem_map.mp hx
          exact List.mem_range.mpr (e ▸ ((no th).p p hp).2)
        rw [List.length_map, List.length_range] at hle
        omega
      have hknd : ks.Nodup := by
        have h1 : (((N th).map (·.1)).map fun (j : Nat) => ((1 + 2 + j : Nat) : Int)).Nodup := List.Pairwise.map _ (fun a b h => by omega) (no th).nd
        rw [List.map_map] at h1
        rw [← hks]
        exact h1
      refine ⟨_, rfl, p, _, ks, rfl, .inl ep3, hkm, hkl, fun ys y pm so hy => ?_⟩
      have s4 := up1 (o := HO.lst (ys.map V.int)) hy
      have e4 : upd H3 y (HO.lst (ys.map V.int)) y = _ := upd_same
      generalize upd H3 y (HO.lst (ys.map V.int)) = H4 at s4 e4 ⊢
      have ny : ¬ WOwn W3 y := fun o => by obtain ⟨u, hu⟩ := R3.al o; rw [hy] at hu; cases hu
      have hynd : ys.Nodup := pm.nodup_iff.mpr hknd
      have ep4 := s4 _ _ ep3
      generalize hgi : (fun (i : Nat) (j : Nat) => if ((1 + 2 + j : Nat) : Int) ∈ ys.take i then getN (N th) j else none) = gi
      have gi0 : gi 0 = fun _ => none := by
        rw [← hgi]
        funext j
        show (if _ ∈ ys.take 0 then _ else _) = _
        rw [if_neg (by simp)]
      have gin : gi ys.length = getN (N th) := by
        rw [← hgi]
        funext j
        show (if _ ∈ ys.take ys.length then _ else _) = _
        rw [List.take_length]
        cases h : getN (N th) j with
        | none => split <;> rfl
        | some x =>
          have hm : ((1 + 2 + j : Nat) : Int) ∈ ys := pm.mem_iff.mpr (by rw [← hks]; exact List.mem_map.mpr ⟨(j, x), getN_some h, rfl⟩)
          rw [if_pos hm]
      refine ⟨y, rfl, ⟨_, SqL.of e4⟩, for_list (xs := ys.map V.int) (fun i σ H' => ∃ (Wi : WA) (x5 : Option V), σ = [some (.ref W.wd), some (.int (th : Int)), some (.ref q), some (.str "fence"), some (.ref p), x5, none] ∧ Wi.wd = W.wd ∧ WAt H' Wi cnt (fT (gi i) T) (fun t => if t = th then [] else fN (gi i) T (N t)) ∧ Zst (WOwn W3) H4 (WOwn Wi) H')
        ⟨W3, none, rfl, ew3, ?_, Zst.refl⟩ (fun i σ H' _ z => by obtain ⟨Wi, _, _, _, _, z⟩ := z; exact SqL.of (z.out e4 ny).1) ?_ ?_⟩
      · refine ((R3.same s4).eqT fun c _ => by rw [gi0, fT_id]).eqN ?_ ?_
        · show (if 0 = th then [] else fN (gi 0) T (N 0)) = setNn N th [] 0
          rw [gi0, fN_id]
          rfl
        · show (if 1 = th then [] else fN (gi 0) T (N 1)) = setNn N th [] 1
          rw [gi0, fN_id]
          rfl
      · rintro i v σ H5 hi ⟨Wi, x5, rfl, ewi, Ri, zi⟩
        rw [List.getElem?_map] at hi
        obtain ⟨k, hk, rfl⟩ := Option.map_eq_some_iff.mp hi
        have hil := (List.getElem?_eq_some_iff.mp hk).1
        have hke := (List.getElem?_eq_some_iff.mp hk).2
        have hkks : k ∈ ks := pm.mem_iff.mp (List.mem_of_getElem? hk)
        rw [← hks] at hkks
        obtain ⟨pr, hpr, rfl⟩ := List.mem_map.mp hkks
        have hgn : getN (N th) pr.1 = some pr.2 := getN_mem (no th).nd hpr
        have hj := ((no th).p pr hpr).2
        have hnt : ((1 + 2 + pr.1 : Nat) : Int) ∉ ys.take i := fun h => by
          obtain ⟨m, hm, e⟩ := List.mem_take_iff_getElem.mp h
          have := (List.getElem_inj hynd).mp (e.trans hke.symm)
          omega
        have gij : gi i pr.1 = none := by rw [← hgi]; exact if_neg hnt
        have gis : gi (i + 1) = putG (gi i) pr.1 pr.2 := by
          rw [← hgi]
          funext j
          show (if _ ∈ ys.take (i + 1) then _ else _) = putG (fun j => if _ ∈ ys.take i then _ else _) pr.1 pr.2 j
          rw [List.take_succ_eq_append_getElem hil, hke]
          by_cases e : j = pr.1
          · rw [e, putG_same, if_pos (List.mem_append.mpr (.inr (List.mem_singleton.mpr rfl))), hgn]
          · rw [putG_ne e]
            by_cases d : ((1 + 2 + j : Nat) : Int) ∈ ys.take i
            · rw [if_pos d, if_pos (List.mem_append.mpr (.inl d))]
            · rw [if_neg d, if_neg fun z => (List.mem_append.mp z).elim d fun z => e (by have := List.mem_singleton.mp z; omega)]
        have hg : DGet H5 p (.int ((1 + 2 + pr.1 : Nat) : Int)) (some (.int pr.2)) := by
          have := DGet.k (k := (Sum.inl ((1 + 2 + pr.1 : Nat) : Int) : Key)) (zi.out ep4 np3).1
          rw [valV_nkv, hgn] at this
          exact this
        rw [← ewi]
        refine ⟨_, rfl, _, rfl, _, rfl, _, rfl, p, _, rfl, hg, Wi, cnt, fT (gi i) T, _, pr.1, pr.2, rfl, Ri, hj, fT_ne (to.ne _ (by omega)), ?_, ?_, fun W' H6 ew' R6 z6 => ?_⟩
        · show NtOk (if 0 = th then [] else fN (gi i) T (N 0))
          split
          · exact ⟨.nil, fun p hp => by cases hp⟩
          · exact fN_ok (no 0)
        · show NtOk (if 1 = th then [] else fN (gi i) T (N 1))
          split
          · exact ⟨.nil, fun p hp => by cases hp⟩
          · exact fN_ok (no 1)
        · have hdec : ∀ t, (if t = th then [] else fN (gi (i + 1)) T (N t)) = decN pr.1 ((cutN (fT (gi i) T (1 + 2 + pr.1)).length pr.2 : Nat) : Int) (if t = th then [] else fN (gi i) T (N t)) := fun t => by
            by_cases e : t = th
            · rw [if_pos e, if_pos e]
              rfl
            · rw [if_neg e, if_neg e, gis, fN_step gij, fT_none gij]
          exact ⟨W', _, rfl, ew'.trans rfl, (R6.eqT fun c _ => by rw [gis, fT_step gij]).eqN (hdec 0) (hdec 1), zi.trans z6⟩
      · rintro σ H5 ⟨Wi, x5, rfl, ewi, Ri, zi⟩
        rw [List.length_map, gin] at Ri
        exact kk _ Wi H5 _ _ ewi Ri (z3.trans ((Zst.same s4).trans zi)) ⟨rfl, rfl, rfl⟩
    | read i =>
      have hi : i < 13 := ok
      obtain ⟨pv0, hl⟩ := last i hi
      refine ⟨_, rfl, q, _, 0, _, rfl, rfl, SqT.of hq, rfl, ?_⟩
      refine ⟨_, rfl, rfl, _, rfl, iteC (by decide +kernel) ?_⟩
      refine ⟨_, rfl, q, _, 1, _, rfl, rfl, SqT.of hq, rfl, ?_⟩
      refine ⟨_, rfl, W.wd, _, rfl, R.gt, _, rfl, W.tl, _, _, _, rfl, rfl, SqL.of R.tl, tc_at hi, _, rfl, W.tc i, _, -1, _, rfl, rfl, SqL.of (R.tc i hi), atI_getLast hl, ?_⟩
      refine ⟨_, rfl, rfl, _, rfl, iteC (by decide +kernel) ?_⟩
      refine ⟨_, rfl, rfl, _, rfl, iteT ?_⟩
      exact ⟨_, rfl, kk pv0 W H T N rfl R Zst.refl ⟨hl, rfl, rfl⟩⟩
    | write i x =>
      have hi : i < 13 := ok
      obtain ⟨pv0, hl⟩ := last i hi
      refine ⟨_, rfl, q, _, 0, _, rfl, rfl, SqT.of hq, rfl, ?_⟩
      refine ⟨_, rfl, rfl, _, rfl, iteC (by decide +kernel) ?_⟩
      refine ⟨_, rfl, q, _, 1, _, rfl, rfl, SqT.of hq, rfl, ?_⟩
      refine ⟨_, rfl, W.wd, _, rfl, R.gt, _, rfl, W.tl, _, _, _, rfl, rfl, SqL.of R.tl, tc_at hi, _, rfl, W.tc i, _, -1, _, rfl, rfl, SqL.of (R.tc i hi), atI_getLast hl, ?_⟩
      refine ⟨_, rfl, rfl, _, rfl, iteC (by decide +kernel) ?_⟩
      refine ⟨_, rfl, rfl, _, rfl, iteC (by decide +kernel) ?_⟩
      refine ⟨_, rfl, rfl, _, rfl, iteT ?_⟩
      refine ⟨_, rfl, _, rfl, _, rfl, q, _, 2, _, rfl, rfl, SqT.of hq, rfl, W, cnt, T, N, i, x, rfl, R, hi, to.le i hi, fun W' H' ew R' z' => ?_⟩
      exact kk _ W' H' _ _ ew R' z' ⟨rfl, rfl, rfl⟩
    | swap i o n' =>
      have hi : i < 13 := ok
      obtain ⟨pv0, hl⟩ := last i hi
      refine ⟨_, rfl, q, _, 0, _, rfl, rfl, SqT.of hq, rfl, ?_⟩
      refine ⟨_, rfl, rfl, _, rfl, iteC (by decide +kernel) ?_⟩
      refine ⟨_, rfl, q, _, 1, _, rfl, rfl, SqT.of hq, rfl, ?_⟩
      refine ⟨_, rfl, W.wd, _, rfl, R.gt, _, rfl, W.tl, _, _, _, rfl, rfl, SqL.of R.tl, tc_at hi, _, rfl, W.tc i, _, -1, _, rfl, rfl, SqL.of (R.tc i hi), atI_getLast hl, ?_⟩
      refine ⟨_, rfl, rfl, _, rfl, iteC (by decide +kernel) ?_⟩
      refine ⟨_, rfl, rfl, _, rfl, iteC (by decide +kernel) ?_⟩
      refine ⟨_, rfl, rfl, _, rfl, iteC (by decide +kernel) ?_⟩
      refine ⟨_, rfl, rfl, _, rfl, iteT ?_⟩
      obtain ⟨⟨to', do', fo⟩, tn, dn, fn⟩ := fi
      obtain ⟨us, hus⟩ := to.fi i hi
      have hl2 : (T i)[(T i).length - 1]? = some pv0 := by rw [← List.getLast?_eq_getElem?]; exact hl
      obtain ⟨tp, htp, dp⟩ := dvs_get hus.1 hl2
      have fp := hus.2 tp (List.mem_of_getElem? htp)
      refine ⟨_, rfl, _, rfl, q, _, 2, _, rfl, rfl, SqT.of hq, rfl, tp.data, to'.data, DV.dp _ _ dp, DV.dp _ _ do', fp.o, fo.o, _, rfl, ?_⟩
      by_cases e : tp = to'
      · subst e
        rw [fp.eqT]
        refine iteF ?_
        refine ⟨_, rfl, _, rfl, _, rfl, q, _, 3, _, rfl, rfl, SqT.of hq, rfl, W, cnt, T, N, i, n', rfl, R, hi, to.le i hi, fun W' H' ew R' z' => ?_⟩
        have x := R.ext z'
        exact kk _ W' H' _ _ ew R' z' ⟨pv0, tp, tp, hl, DV.extT x _ _ dp, DV.extT x _ _ do', .inl ⟨rfl, rfl, rfl⟩, rfl⟩
      · rw [fp.eqF fo e]
        exact iteT (kk _ W H _ _ rfl R Zst.refl ⟨pv0, tp, to', hl, dp, do', .inr ⟨e, rfl, rfl⟩, rfl⟩)
    | decide i z =>
      have hi : i < 13 := ok
      obtain ⟨pv0, hl⟩ := last i hi
      refine ⟨_, rfl, q, _, 0, _, rfl, rfl, SqT.of hq, rfl, ?_⟩
      refine ⟨_, rfl, rfl, _, rfl, iteC (by decide +kernel) ?_⟩
      refine ⟨_, rfl, q, _, 1, _, rfl, rfl, SqT.of hq, rfl, ?_⟩
      refine ⟨_, rfl, W.wd, _, rfl, R.gt, _, rfl, W.tl, _, _, _, rfl, rfl, SqL.of R.tl, tc_at hi, _, rfl, W.tc i, _, -1, _, rfl, rfl, SqL.of (R.tc i hi), atI_getLast hl, ?_⟩
      refine ⟨_, rfl, rfl, _, rfl, iteC (by decide +kernel) ?_⟩
      refine ⟨_, rfl, rfl, _, rfl, iteC (by decide +kernel) ?_⟩
      refine ⟨_, rfl, rfl, _, rfl, iteC (by decide +kernel) ?_⟩
      refine ⟨_, rfl, rfl, _, rfl, iteC (by decide +kernel) ?_⟩
      obtain ⟨us, hus⟩ := to.fi i hi
      have hl2 : (T i)[(T i).length - 1]? = some pv0 := by rw [← List.getLast?_eq_getElem?]; exact hl
      obtain ⟨tp, htp, dp⟩ := dvs_get hus.1 hl2
      have fp := hus.2 tp (List.mem_of_getElem? htp)
      refine ⟨_, rfl, tp.data, .int 0, DV.dp _ _ dp, .int 0, fp.o, rfl, _, rfl, ?_⟩
      by_cases e : tp = .sc (.int 0)
      · subst e
        rw [show PyData.eqv (Tr.sc (V.int 0)).data (.int 0) = true from (fine_int 0).eqT]
        refine iteF ?_
        refine ⟨_, rfl, _, rfl, _, rfl, q, _, 2, _, rfl, rfl, SqT.of hq, rfl, _, rfl, W.wd, _, rfl, R.gc, (by show 2 ≤ sizeLine; omega), fun u hu' => ?_⟩
        have s1 := up1 (o := HO.tup [V.str z, V.int cnt]) hu'
        have e1 : upd H u (HO.tup [V.str z, V.int cnt]) u = _ := upd_same
        generalize upd H u (HO.tup [V.str z, V.int cnt]) = H1 at s1 e1 ⊢
        have R1 := R.same s1
        refine ⟨W, cnt, T, N, i, .ref u, rfl, R1, hi, to.le i hi, fun W' H' ew R' z' => ?_⟩
        have x := (ExT.of s1).trans (R1.ext z')
        exact kk _ W' H' _ _ ew R' ((Zst.same s1).trans z') ⟨pv0, _, hl, DV.extT x _ _ dp, .inl ⟨rfl, rfl, u, (R1.ext z').1 _ _ e1, rfl⟩, rfl⟩
      · rw [show PyData.eqv tp.data (.int 0) = false from fp.eqF (fine_int 0) e]
        exact iteT (kk _ W H _ _ rfl R Zst.refl ⟨pv0, tp, hl, dp, .inr ⟨e, rfl, rfl⟩, rfl⟩)
    | flush i =>
      have hi : i < 13 := ok.2
      obtain ⟨pv0, hl⟩ := last i hi
      refine ⟨_, rfl, q, _, 0, _, rfl, rfl, SqT.of hq, rfl, ?_⟩
      refine ⟨_, rfl, rfl, _, rfl, iteC (by decide +kernel) ?_⟩
      refine ⟨_, rfl, q, _, 1, _, rfl, rfl, SqT.of hq, rfl, ?_⟩
      refine ⟨_, rfl, W.wd, _, rfl, R.gt, _, rfl, W.tl, _, _, _, rfl, rfl, SqL.of R.tl, tc_at hi, _, rfl, W.tc i, _, -1, _, rfl, rfl, SqL.of (R.tc i hi), atI_getLast hl, ?_⟩
      refine ⟨_, rfl, rfl, _, rfl, iteT ?_⟩
      have ok1 : 1 + 2 ≤ i := ok.1
      have hp2 : DPut H n (.int (i : Int)) (.int (((T i).length : Int) - 1)) (upd H n (.dK (nkv 2 (putN (N th) (i - 3) (((T i).length : Int) - 1))))) := by
        have := DPut.k (k := (Sum.inl ((1 + 2 + (i - 3) : Nat) : Int) : Key)) (v := V.int (((T i).length : Int) - 1)) hn (by
          show (nkv 2 (N th)).length < sizeLine
          unfold nkv
          rw [List.length_map]
          have hle : ((N th).map (·.1)).length ≤ (List.range 10).length := nodup_len (no th).nd fun x hx => by
            obtain ⟨p, hp, e⟩ := List.mem_map.mp hx
            exact List.mem_range.mpr (e ▸ ((no th).p p hp).2)
          rw [List.length_map, List.length_range] at hle
          omega)
        rw [putN_kv] at this
        rw [show (i : Int) = ((1 + 2 + (i - 3) : Nat) : Int) by omega]
        exact this
      refine ⟨_, rfl, W.wd, _, rfl, R.gt, _, rfl, W.tl, _, _, _, rfl, rfl, SqL.of R.tl, tc_at hi, W.tc i, _, rfl, .inl (SqL.of (R.tc i hi)), _, _, rfl, rfl, _, rfl, W.wd, _, rfl, R.gn, _, rfl, W.nl, _, _, _, rfl, rfl, SqL.of R.nl, hat, _, rfl, n, _, rfl, hp2, ?_⟩
      refine kk _ W _ _ _ rfl (set _) ⟨fun b o e nb => ?_, fun b hb => .inl hb⟩ ⟨rfl, rfl, rfl⟩
      rw [upd_ne (fun z => nb (by rw [z]; exact own))]
      exact e
end
end Dk

set_option maxHeartbeats 4000000
/-! a cut on the law's lists -/
namespace Dk
open PySem PySem.Spec PyProof.Rows L2
abbrev sLCut : Stmt := top 27
theorem cutT1 {xs : List V} : cutV xs none (some 1) = xs.take 1 := by
  unfold cutV
  rw [HT.sIx_none, show (1 : Int) = ((1 : Nat) : Int) from rfl, HT.sIx_nat, List.drop_zero]
  cases xs with
  | nil => rfl
  | cons x xs => simp
/-- what is left of a trail behind a cut -/
def cutL (ks : List Nat) (T : Nat → List V) (c : Nat) : List V := ((T c).drop (cutN (T c).length ((ks.getD (c - 3) 0 : Nat) : Int))).take 1
def cutAll (ks : List Nat) (T : Nat → List V) (c : Nat) : List V := if c = 0 then [.int 0] else if c < 3 then [.non] else cutL ks T c
def spLCut : Sp := fun vs H Q _ => ∃ (W : WA) (cnt : Int) (T : Nat → List V) (N : Nat → List (Nat × Int)) (ch : Addr) (ks : List Nat), vs = [.ref W.wd, .ref ch] ∧ WAt H W cnt T N ∧ H ch = some (.lst (ks.map fun (k : Nat) => V.int (k : Int))) ∧ ¬ WOwn W ch ∧ ks.length < 1000 ∧ (∀ c, c < 13 → T c ≠ []) ∧ (∀ t, NtOk (N t)) ∧
  ∀ (W' : WA) (H' : Hp), W'.wd = W.wd → WAt H' W' cnt (cutAll ks T) (fun _ => []) → Zst (WOwn W) H (WOwn W') H' → Q .non H'
section
variable {P : Program} {w : World} {K : PySem.W.Frag} {mg : Str → Option Value} {base : Heap} {C M NV LE : Addr}
theorem scLCut : FnScope ["w", "choices", "cell"] ["w", "choices"] (defScope sLCut) := ⟨rfl, rfl, rfl, by decide +kernel, rfl, by decide +kernel, by decide +kernel⟩
theorem put_step {H H1 : Hp} {W : WA} {cnt : Int} {T : Nat → List V} {N : Nat → List (Nat × Int)} {p : Addr} {xs : List V} {c : Nat} (R : WAt H W cnt T N) (s1 : Same H H1) (np : H p = none) (hp : H1 p = some (.lst xs)) (hc : c < 13) :
    WAt (upd H1 W.tl (.lst (((List.range 13).map fun c => V.ref (W.tc c)).set c (.ref p)))) { W with tc := seta W.tc c p } cnt (sett T c xs) N ∧ Zst (WOwn W) H (WOwn { W with tc := seta W.tc c p }) (upd H1 W.tl (.lst (((List.range 13).map fun c => V.ref (W.tc c)).set c (.ref p)))) := by
  have np' : ¬ WOwn W p := fun o => by obtain ⟨u, hu⟩ := R.al o; rw [np] at hu; cases hu
  refine ⟨(R.same s1).put hp np' hc fun z => np' (.inl z), fun b o e nb => ?_, fun b hb => ?_⟩
  · rw [upd_ne fun z => nb (.inr (.inl z))]
    exact s1 _ _ e
  · rcases own_put hb with h | h
    · exact .inl h
    · exact .inr (h ▸ np)
theorem ix13 {W : WA} {i : Nat} (hi : i < 13) : ixN ((List.range 13).map fun c => V.ref (W.tc c)).length (i : Int) = some i := by
  rw [List.length_map, List.length_range]
  unfold ixN
  rw [if_pos (by omega), if_pos (by omega)]
  rfl
theorem go_lcut (F : GT K mg "_law_cut" sLCut ["w", "choices"]) (B0 : Bn mg) (GSh : GO P w K mg base CX0 1 "_law_shorten" ["w", "cell", "steps"] spShr) : GO P w K mg base CX0 2 "_law_cut" ["w", "choices"] spLCut := by
  obtain ⟨f, fd, F, hm, hb⟩ := F
  refine ⟨f, fd, ?_, hm, F.kp, hb⟩
  refine F.ok scLCut (fun vs H Q E h => ?_) (fun cdv A outer s H vs Q E hr h => ?_)
  · obtain ⟨W, cnt, T, N, ch, ks, rfl, _⟩ := h
    rfl
  · obtain ⟨W, cnt, T, N, ch, ks, rfl, R, hch, nch, hkl, hne, no, kk⟩ := h
    have nd := scLCut.nd
    have hu := hu_of hr
    have hrS : Room 1 _ := hr
    have hsl : sizeLine = 16777216 := sizeLine_eq
    refine ⟨_, (pss_cons (ps_for PassesOwn.never rfl (pi_range2 (by rfl) B0.range (pa_cons pe_int (pa_cons pe_int pa_nil))) (pg_name (i := 2) nd rfl (Or.inl rfl))
  (C8.pss_cut (ps_if (pt_cmpR op_lt (pe_op op_sub (pv 2) pe_int) (pe_callB call_len_seq (by rfl) B0.len PySem.boot_len (pa_cons (pv 1) pa_nil)) (nomark _))
  (pss_one (ps_expr (pc_ GSh hrS (pa_cons (pv 0) (pa_cons (pv 2) (pa_cons (pe_ix ix_list (pv 1) (pe_op op_sub (pv 2) pe_int) (fun _ _ => rfl)) pa_nil))))))
  pss_nil)
  (pss_one (ps_asg (pe_slice sl_list (pe_ix ix_list (pe_dget hu (pv 0) pe_str (fun _ _ => rfl)) (pv 2) (fun _ _ => rfl)) po_none (po_some pe_int)) (pg_sub (pe_dget hu (pv 0) pe_str (fun _ _ => rfl)) (pv 2) set_list)))))
  (pss_cons (ps_asg (pe_lst (pa_cons pe_int pa_nil)) (pg_sub (pe_dget hu (pv 0) pe_str (fun _ _ => rfl)) pe_int set_list))
  (pss_cons (ps_asg (pe_lst (pa_cons pe_non pa_nil)) (pg_sub (pe_dget hu (pv 0) pe_str (fun _ _ => rfl)) pe_int set_list))
  (pss_cons (ps_asg (pe_lst (pa_cons pe_non pa_nil)) (pg_sub (pe_dget hu (pv 0) pe_str (fun _ _ => rfl)) pe_int set_list))
  (pss_one (ps_dput hu (pv 0) pe_str (pe_lst (pa_cons pe_dnewK (pa_cons pe_dnewK pa_nil))) rfl)))))), ?_⟩
    refine ⟨3, 13, rfl, ⟨by decide, by decide⟩, for_range (lo := 3) (n := 10) (fun i σ H' => ∃ (Wi : WA) (x : Option V) (N' : Nat → List (Nat × Int)), σ = [some (.ref W.wd), some (.ref ch), x] ∧ Wi.wd = W.wd ∧ WAt H' Wi cnt (fun c => if 3 ≤ c ∧ c < 3 + i then cutL ks T c else T c) N' ∧ (∀ t, NtOk (N' t)) ∧ Zst (WOwn W) H (WOwn Wi) H')
      ⟨W, _, N, rfl, rfl, R.eqT fun c _ => if_neg (by omega), no, Zst.refl⟩ ?_ ?_⟩
    · rintro i σ H1 hi ⟨Wi, x, N', rfl, ewi, Ri, no', zi⟩
      have hi10 : i < 10 := hi
      obtain ⟨hch1, nch1⟩ := zi.out hch nch
      have ei : (3 : Int) + (i : Int) = ((1 + 2 + i : Nat) : Int) := by omega
      rw [ei]
      refine ⟨fun σ' H' => ∃ (Wj : WA) (T2 : Nat → List V) (N2 : Nat → List (Nat × Int)), σ' = [some (.ref W.wd), some (.ref ch), some (.int ((1 + 2 + i : Nat) : Int))] ∧ Wj.wd = W.wd ∧ WAt H' Wj cnt T2 N2 ∧ (∀ t, NtOk (N2 t)) ∧ Zst (WOwn W) H (WOwn Wj) H' ∧ T2 (1 + 2 + i) = (T (1 + 2 + i)).drop (cutN (T (1 + 2 + i)).length ((ks.getD i 0 : Nat) : Int)) ∧ ∀ c, c ≠ 1 + 2 + i → T2 c = if 3 ≤ c ∧ c < 3 + i then cutL ks T c else T c, ?_, ?_⟩
      · refine ⟨_, rfl, _, _, rfl, rfl, _, rfl, ch, _, rfl, .inl (SqL.of hch1), _, _, rfl, rfl, _, rfl, ite2 (fun d => ?_) (fun d => ?_)⟩
        · have d := of_decide_eq_true d
          rw [List.length_map] at d
          have hil : i < ks.length := by omega
          have hTi : (if 3 ≤ 1 + 2 + i ∧ 1 + 2 + i < 3 + i then cutL ks T (1 + 2 + i) else T (1 + 2 + i)) = T (1 + 2 + i) := if_neg (by omega)
          rw [← ewi]
          refine ⟨_, rfl, _, rfl, _, rfl, _, rfl, _, _, rfl, rfl, ch, _, _, _, rfl, rfl, SqL.of hch1, (by rw [show ((1 + 2 + i : Nat) : Int) - 3 = ((i : Nat) : Int) by omega]; exact atI_nat (j := i) (by rw [List.getElem?_map, List.getElem?_eq_getElem hil]; rfl)), Wi, cnt, _, N', i, ((ks[i] : Nat) : Int), rfl, Ri, hi10, by rw [hTi]; exact hne _ (by omega), no' 0, no' 1, fun W' H2 ew' R2 z2 => ?_⟩
          refine ⟨W', _, _, rfl, ew', R2, fun t => decN_ok (no' t), zi.trans z2, ?_, fun c hc => ?_⟩
          · rw [sett_same, hTi, List.getD_eq_getElem?_getD, List.getElem?_eq_getElem hil]
            rfl
          · rw [sett_ne hc]
        · have d : ¬ ((1 + 2 + i : Nat) : Int) - 3 < ((ks.map fun (k : Nat) => V.int (k : Int)).length : Int) := fun z => d (decide_eq_true z)
          rw [List.length_map] at d
          refine ⟨Wi, _, N', rfl, ewi, Ri, no', zi, ?_, fun c _ => rfl⟩
          rw [if_neg (by omega), List.getD_eq_getElem?_getD, List.getElem?_eq_none (by omega)]
          show T (1 + 2 + i) = (T (1 + 2 + i)).drop (cutN _ 0)
          unfold cutN
          rw [show min (0 : Int).toNat ((T (1 + 2 + i)).length - 1) = 0 by simp]
          rfl
      · rintro σ' H2 ⟨Wj, T2, N2, rfl, ewj, R2, no2, z2, e1, e2⟩
        have hc : 1 + 2 + i < 13 := by omega
        rw [← ewj]
        refine ⟨_, rfl, Wj.wd, _, rfl, R2.gt, _, rfl, Wj.tl, _, _, _, rfl, rfl, SqL.of R2.tl, tc_at hc, _, rfl, Wj.tc (1 + 2 + i), _, rfl, SqL.of (R2.tc _ hc), fun p hp => ?_⟩
        rw [cutT1]
        have s1 := up1 (o := HO.lst ((T2 (1 + 2 + i)).take 1)) hp
        have ep : upd H2 p (HO.lst ((T2 (1 + 2 + i)).take 1)) p = _ := upd_same
        generalize upd H2 p (HO.lst ((T2 (1 + 2 + i)).take 1)) = H3 at s1 ep ⊢
        have R3 := R2.same s1
        obtain ⟨R4, z4⟩ := put_step R2 s1 hp ep hc
        refine ⟨_, rfl, Wj.wd, _, rfl, R3.gt, _, rfl, Wj.tl, _, _, _, rfl, rfl, R3.tl, ix13 hc, ?_⟩
        refine ⟨{ Wj with tc := seta Wj.tc (1 + 2 + i) p }, _, N2, rfl, ewj ▸ rfl, R4.eqT fun c _ => ?_, no2, z2.trans z4⟩
        unfold sett
        by_cases q : c = 1 + 2 + i
        · subst q
          rw [if_pos rfl, if_pos (by omega), e1]
          unfold cutL
          rw [show 1 + 2 + i - 3 = i by omega]
        · rw [if_neg q, e2 c q]
          by_cases r : 3 ≤ c ∧ c < 3 + i
          · rw [if_pos r, if_pos (by omega)]
          · rw [if_neg r, if_neg (by omega)]
    · rintro σ H1 ⟨Wi, x, N', rfl, ewi, Ri, no', zi⟩
      rw [← ewi]
      refine ⟨(by show 1 ≤ sizeLine; omega), fun p0 hp0 => ?_⟩
      have s0 := up1 (o := HO.lst [V.int 0]) hp0
      have e0 : upd H1 p0 (HO.lst [V.int 0]) p0 = _ := upd_same
      generalize upd H1 p0 (HO.lst [V.int 0]) = G0 at s0 e0 ⊢
      obtain ⟨Ra, za⟩ := put_step Ri s0 hp0 e0 (c := 0) (by decide)
      refine ⟨_, rfl, Wi.wd, _, rfl, (Ri.same s0).gt, Wi.tl, _, _, _, rfl, rfl, (Ri.same s0).tl, ix13 (i := 0) (by decide), ?_⟩
      generalize upd G0 Wi.tl (HO.lst (((List.range 13).map fun c => V.ref (Wi.tc c)).set 0 (.ref p0))) = F0 at Ra za ⊢
      generalize hV0 : ({ Wi with tc := seta Wi.tc 0 p0 } : WA) = V0 at Ra za
      have ew0 : Wi.wd = V0.wd := by rw [← hV0]
      rw [ew0]
      refine ⟨(by show 1 ≤ sizeLine; omega), fun p1 hp1 => ?_⟩
      have s1 := up1 (o := HO.lst [V.non]) hp1
      have e1 : upd F0 p1 (HO.lst [V.non]) p1 = _ := upd_same
      generalize upd F0 p1 (HO.lst [V.non]) = G1 at s1 e1 ⊢
      obtain ⟨Rb, zb⟩ := put_step Ra s1 hp1 e1 (c := 1) (by decide)
      refine ⟨_, rfl, V0.wd, _, rfl, (Ra.same s1).gt, V0.tl, _, _, _, rfl, rfl, (Ra.same s1).tl, ix13 (i := 1) (by decide), ?_⟩
      generalize upd G1 V0.tl (HO.lst (((List.range 13).map fun c => V.ref (V0.tc c)).set 1 (.ref p1))) = F1 at Rb zb ⊢
      generalize hV1 : ({ V0 with tc := seta V0.tc 1 p1 } : WA) = V1 at Rb zb
      have ew1 : V0.wd = V1.wd := by rw [← hV1]
      rw [ew1]
      refine ⟨(by show 1 ≤ sizeLine; omega), fun p2 hp2 => ?_⟩
      have s2 := up1 (o := HO.lst [V.non]) hp2
      have e2 : upd F1 p2 (HO.lst [V.non]) p2 = _ := upd_same
      generalize upd F1 p2 (HO.lst [V.non]) = G2 at s2 e2 ⊢
      obtain ⟨Rc, zc⟩ := put_step Rb s2 hp2 e2 (c := 2) (by decide)
      refine ⟨_, rfl, V1.wd, _, rfl, (Rb.same s2).gt, V1.tl, _, _, _, rfl, rfl, (Rb.same s2).tl, ix13 (i := 2) (by decide), ?_⟩
      generalize upd G2 V1.tl (HO.lst (((List.range 13).map fun c => V.ref (V1.tc c)).set 2 (.ref p2))) = F2 at Rc zc ⊢
      generalize hV2 : ({ V1 with tc := seta V1.tc 2 p2 } : WA) = V2 at Rc zc
      have ew2 : V1.wd = V2.wd := by rw [← hV2]
      rw [ew2]
      have zz := zi.trans (za.trans (zb.trans zc))
      refine fun d0 hd0 => ?_
      have t0 := up1 (o := HO.dK []) hd0
      have f0 : upd F2 d0 (HO.dK []) d0 = _ := upd_same
      generalize upd F2 d0 (HO.dK []) = J0 at t0 f0 ⊢
      refine fun d1 hd1 => ?_
      have t1 := up1 (o := HO.dK []) hd1
      have f1 : upd J0 d1 (HO.dK []) d1 = _ := upd_same
      generalize upd J0 d1 (HO.dK []) = J1 at t1 f1 ⊢
      refine ⟨(by show 2 ≤ sizeLine; omega), fun l hl => ?_⟩
      have t2 := up1 (o := HO.lst [V.ref d0, V.ref d1]) hl
      have f2 : upd J1 l (HO.lst [V.ref d0, V.ref d1]) l = _ := upd_same
      generalize upd J1 l (HO.lst [V.ref d0, V.ref d1]) = J2 at t2 f2 ⊢
      have t02 := t0.trans (t1.trans t2)
      have Rd := Rc.same t02
      have nd0 : ¬ WOwn V2 d0 := fun o => by obtain ⟨u, hu⟩ := Rc.al o; rw [hd0] at hu; cases hu
      have nd1 : ¬ WOwn V2 d1 := fun o => by obtain ⟨u, hu⟩ := Rc.al o; have := t0 _ _ hu; rw [hd1] at this; cases this
      have nl : ¬ WOwn V2 l := fun o => by obtain ⟨u, hu⟩ := Rc.al o; have := t1 _ _ (t0 _ _ hu); rw [hl] at this; cases this
      have d01 : d0 ≠ d1 := fun z => by rw [z, hd1] at f0; cases f0
      have g0 : J2 d0 = some (.dK []) := t2 _ _ (t1 _ _ f0)
      have g1 : J2 d1 = some (.dK []) := t2 _ _ f1
      have hput : DPut J2 V2.wd (.str "notes") (.ref l) (upd J2 V2.wd (.dK [(Sum.inr "count", .int cnt), (Sum.inr "trails", .ref V2.tl), (Sum.inr "notes", .ref l)])) := by
        have := DPut.k (k := (Sum.inr "notes" : Key)) (v := V.ref l) Rd.wd (by show 3 < sizeLine; omega)
        exact this
      refine ⟨_, rfl, V2.wd, _, rfl, hput, ?_⟩
      have o : ∀ {b : Addr} {u : HO}, J2 b = some u → b ≠ V2.wd → upd J2 V2.wd (.dK [(Sum.inr "count", .int cnt), (Sum.inr "trails", .ref V2.tl), (Sum.inr "notes", .ref l)]) b = some u := fun {b u} e n => by rw [upd_ne n]; exact e
      have nw0 : d0 ≠ V2.wd := fun z => nd0 (.inl z)
      have nw1 : d1 ≠ V2.wd := fun z => nd1 (.inl z)
      have nwl : l ≠ V2.wd := fun z => nl (.inl z)
      refine kk { V2 with nl := l, n0 := d0, n1 := d1 } _ ?_ ⟨upd_same, o Rd.tl (ne_of Rd.tl Rd.wd (by intro z; cases z)), o f2 nwl, fun c hc => ?_, o g0 nw0, o g1 nw1, fun z => nl (.inr (.inl z.symm)), fun c hc => ⟨(Rd.d2 c hc).1, fun z => nl (.inr (.inr (.inr (.inr (.inr ⟨c, hc, z.symm⟩)))))⟩, d01, nw0.symm, nw1.symm⟩ (zz.trans ⟨fun b u e nb => ?_, fun b hb => ?_⟩)
      · show V2.wd = W.wd
        rw [← ew2, ← ew1, ← ew0, ewi]
      · rw [show cutAll ks T c = sett (sett (sett (fun c => if 3 ≤ c ∧ c < 3 + 10 then cutL ks T c else T c) 0 [V.int 0]) 1 [V.non]) 2 [V.non] c from ?_]
        · exact o (Rd.tc c hc) (ne_of (Rd.tc c hc) Rd.wd (by intro z; cases z))
        · unfold cutAll
          by_cases c0 : c = 0
          · subst c0; rfl
          · by_cases c1 : c = 1
            · subst c1; rfl
            · by_cases c2 : c = 2
              · subst c2; rfl
              · rw [if_neg c0, if_neg (by omega), sett_ne c2, sett_ne c1, sett_ne c0, if_pos (by omega)]
      · rw [upd_ne fun z => nb (.inl z)]
        exact t02 _ _ e
      · rcases hb with e | e | e | e | e | e
        · exact .inl (.inl e)
        · exact .inl (.inr (.inl e))
        · exact .inr ((t0.trans t1).free (e ▸ hl))
        · exact .inr (e ▸ hd0)
        · exact .inr (t0.free (e ▸ hd1))
        · exact .inl (.inr (.inr (.inr (.inr (.inr e)))))
end
end Dk

set_option maxHeartbeats 4000000
/-! the law's values, its requests -/
namespace Dk
open PySem PySem.Spec PyProof.Rows L2
abbrev sVal : Stmt := top 21
abbrev sReq : Stmt := top 28
abbrev sSame : Stmt := top 29
def spVal (K : PySem.W.Frag) : Sp := fun vs H Q _ => ∃ n : Int, vs = [.int n] ∧ ∀ (v : V) (t : Tr) (H' : Hp), Same H H' → DV K H' v t → Fine t → Q v H'
def spSame (K : PySem.W.Frag) : Sp := fun vs H Q _ => ∃ (a b : V) (t : Tr), vs = [a, b] ∧ DV K H a t ∧ DV K H b t ∧ t.ok ∧ Q (.bl true) H
def spReq (K : PySem.W.Frag) : Sp := fun vs H Q _ => ∃ (W : WA) (cnt : Int) (T : Nat → List V) (N : Nat → List (Nat × Int)) (n p o : Int), vs = [.ref W.wd, .int n, .int p, .int o] ∧ WAt H W cnt T N ∧ TOk K H T ∧ ∀ (H' : Hp) (q : Addr) (rq : Rq), Same H H' → H' q = some (.tup rq.vs) → rq.ok 2 2 6 → rq.fine K H' → Q (.ref q) H'
section
variable {P : Program} {w : World} {K : PySem.W.Frag} {mg : Str → Option Value} {base : Heap} {C M NV LE : Addr}
theorem scVal : FnScope ["number"] ["number"] (defScope sVal) := ⟨rfl, rfl, rfl, by decide +kernel, rfl, by decide +kernel, by decide +kernel⟩
theorem scSame : FnScope ["told", "due"] ["told", "due"] (defScope sSame) := ⟨rfl, rfl, rfl, by decide +kernel, rfl, by decide +kernel, by decide +kernel⟩
abbrev NRq : List Str := ["w", "number", "pick", "other", "cell", "kind", "old"]
theorem scReq : FnScope NRq ["w", "number", "pick", "other"] (defScope sReq) := ⟨rfl, rfl, rfl, by decide +kernel, rfl, by decide +kernel, by decide +kernel⟩
theorem dv_ii {H : Hp} {p : Addr} {i j : Int} (h : H p = some (.tup [.int i, .int j])) : DV K H (.ref p) (.tup [.sc (.int i), .sc (.int j)]) := .tup (SqT.of h) (.cons (.sc (t := "int") rfl) (.cons (.sc (t := "int") rfl) .nil))
theorem dv_si {H : Hp} {p : Addr} {s : Str} {j : Int} (h : H p = some (.tup [.str s, .int j])) : DV K H (.ref p) (.tup [.sc (.str s), .sc (.int j)]) := .tup (SqT.of h) (.cons (.sc (t := "str") rfl) (.cons (.sc (t := "int") rfl) .nil))
theorem go_val (F : GT K mg "_law_value" sVal ["number"]) : GO P w K mg base CX0 1 "_law_value" ["number"] (spVal K) := by
  obtain ⟨f, fd, F, hm, hb⟩ := F
  refine ⟨f, fd, ?_, hm, F.kp, hb⟩
  refine F.ok scVal (fun vs H Q E h => ?_) (fun cdv A outer s H vs Q E hr h => ?_)
  · obtain ⟨n, rfl, _⟩ := h
    rfl
  · obtain ⟨n, rfl, k⟩ := h
    have hsl : sizeLine = 16777216 := sizeLine_eq
    refine ⟨_, (pss_one (ps_ret (pe_ix ix_list (pe_lst (pa_cons pe_int (pa_cons pe_int (pa_cons pe_non (pa_cons (pe_tup (pa_cons (pv 0) (pa_cons pe_int pa_nil))) (pa_cons pe_str (pa_cons (pv 0) (pa_cons pe_int (pa_cons (pe_tup (pa_cons pe_str (pa_cons pe_int pa_nil))) pa_nil))))))))) (pe_op op_mod (pv 0) pe_int) (fun _ _ => rfl)))), ?_⟩
    refine ⟨_, rfl, (by show 2 ≤ sizeLine; omega), fun p1 hp1 => ?_⟩
    have s1 := up1 (o := HO.tup [V.int n, V.int 2]) hp1
    have e1 : upd H p1 (HO.tup [V.int n, V.int 2]) p1 = _ := upd_same
    generalize upd H p1 (HO.tup [V.int n, V.int 2]) = H1 at s1 e1 ⊢
    refine ⟨_, rfl, (by show 2 ≤ sizeLine; omega), fun p2 hp2 => ?_⟩
    have s2 := up1 (o := HO.tup [V.str "done", V.int 7]) hp2
    have e2 : upd H1 p2 (HO.tup [V.str "done", V.int 7]) p2 = _ := upd_same
    generalize upd H1 p2 (HO.tup [V.str "done", V.int 7]) = H2 at s2 e2 ⊢
    refine ⟨(by show 8 ≤ sizeLine; omega), fun l hl => ?_⟩
    have s3 := up1 (o := HO.lst [V.int 0, V.int 1, V.non, V.ref p1, V.str "word", V.int n, V.int 0, V.ref p2]) hl
    have e3 : upd H2 l (HO.lst [V.int 0, V.int 1, V.non, V.ref p1, V.str "word", V.int n, V.int 0, V.ref p2]) l = _ := upd_same
    generalize upd H2 l (HO.lst [V.int 0, V.int 1, V.non, V.ref p1, V.str "word", V.int n, V.int 0, V.ref p2]) = H3 at s3 e3 ⊢
    obtain ⟨r, hr1, hr8⟩ : ∃ r : Nat, n % 8 = (r : Int) ∧ r < 8 := ⟨(n % 8).toNat, by omega, by omega⟩
    have s03 := s1.trans (s2.trans s3)
    have d1 : DV K H3 (.ref p1) _ := dv_ii (s3 _ _ (s2 _ _ e1))
    have d2 : DV K H3 (.ref p2) _ := dv_si (s3 _ _ e2)
    have key : ∃ v t, atI [V.int 0, V.int 1, V.non, V.ref p1, V.str "word", V.int n, V.int 0, V.ref p2] (n % 8) = some v ∧ DV K H3 v t ∧ Fine t := by
      rw [hr1]
      match r, hr8 with
      | 0, _ => exact ⟨_, _, atI_nat (j := 0) rfl, .sc (t := "int") rfl, fine_int 0⟩
      | 1, _ => exact ⟨_, _, atI_nat (j := 1) rfl, .sc (t := "int") rfl, fine_int 1⟩
      | 2, _ => exact ⟨_, _, atI_nat (j := 2) rfl, .sc (t := "NoneType") rfl, fine_non⟩
      | 3, _ => exact ⟨_, _, atI_nat (j := 3) rfl, d1, fine_ii _ _⟩
      | 4, _ => exact ⟨_, _, atI_nat (j := 4) rfl, .sc (t := "str") rfl, fine_str (by decide +kernel)⟩
      | 5, _ => exact ⟨_, _, atI_nat (j := 5) rfl, .sc (t := "int") rfl, fine_int n⟩
      | 6, _ => exact ⟨_, _, atI_nat (j := 6) rfl, .sc (t := "int") rfl, fine_int 0⟩
      | 7, _ => exact ⟨_, _, atI_nat (j := 7) rfl, d2, fine_si (by decide +kernel) _⟩
    obtain ⟨v, t, hv, dv, ft⟩ := key
    exact ⟨_, rfl, _, _, rfl, rfl, (by show (0 : Int) < 8; decide), l, _, _, _, rfl, rfl, SqL.of e3, hv, k v t H3 s03 dv ft⟩
theorem go_same (F : GT K mg "_law_same" sSame ["told", "due"]) (B0 : Bn mg) : GO P w K mg base CX0 1 "_law_same" ["told", "due"] (spSame K) := by
  obtain ⟨f, fd, F, hm, hb⟩ := F
  refine ⟨f, fd, ?_, hm, F.kp, hb⟩
  refine F.ok scSame (fun vs H Q E h => ?_) (fun cdv A outer s H vs Q E hr h => ?_)
  · obtain ⟨a, b, t, rfl, _⟩ := h
    rfl
  · obtain ⟨a, b, t, rfl, da, db, ok, k⟩ := h
    refine ⟨_, (pss_one (ps_ret (pe_and (pe_cmpR op_eq (pe_callB call_isi (by rfl) B0.isi (by decide +kernel) (pa_cons (pv 0) (pa_cons (pe_bltn (v := .ty "bool") (by rfl) B0.bool (by decide +kernel) rfl) pa_nil))) (pe_callB call_isi (by rfl) B0.isi (by decide +kernel) (pa_cons (pv 1) (pa_cons (pe_bltn (v := .ty "bool") (by rfl) B0.bool (by decide +kernel) rfl) pa_nil))) (nomark _)) (pe_one (pe_cmpR (op_eqD hr.units) (pv 0) (pv 1) (nomark _)))))), ?_⟩
    obtain ⟨ta, ha, ka⟩ := ty_dv da
    obtain ⟨tb, hb', kb⟩ := ty_dv db
    have eb := isB_eq da db rfl
    refine ⟨_, rfl, _, _, _, _, _, rfl, .ty "bool", ha, kit_ty ka, _, rfl, _, _, _, _, _, rfl, .ty "bool", hb', kit_ty kb, rfl, _, rfl, ?_⟩
    refine iteDD (decide_eq_true (congrArg V.bl eb)) ?_
    exact ⟨_, rfl, _, rfl, t.data, t.data, DV.dp _ _ da, DV.dp _ _ db, ok, ok, by rw [eqv_sh ok]; exact k⟩
theorem go_req (F : GT K mg "_law_request" sReq ["w", "number", "pick", "other"]) (zx : mg "max" = none) (GVl : GO P w K mg base CX0 1 "_law_value" ["number"] (spVal K)) : GO P w K mg base CX0 2 "_law_request" ["w", "number", "pick", "other"] (spReq K) := by
  obtain ⟨f, fd, F, hm, hb⟩ := F
  refine ⟨f, fd, ?_, hm, F.kp, hb⟩
  refine F.ok scReq (fun vs H Q E h => ?_) (fun cdv A outer s H vs Q E hr h => ?_)
  · obtain ⟨W, cnt, T, N, n, p, o, rfl, _⟩ := h
    rfl
  · obtain ⟨W, cnt, T, N, n, p, o, rfl, R, to, k⟩ := h
    have nd := scReq.nd
    have hu := hu_of hr
    have hrV : Room 1 _ := hr
    have hsl : sizeLine = 16777216 := sizeLine_eq
    refine ⟨_, (pss_cons (ps_set (i := 4) nd rfl (Or.inl rfl) (pe_ix ix_list (pe_lst (pa_cons pe_int (pa_cons pe_int (pa_cons pe_int (pa_cons pe_int (pa_cons pe_int (pa_cons pe_int (pa_cons pe_int (pa_cons pe_int (pa_cons (pe_op op_add pe_int (pe_op op_mod (pv 2) pe_int)) pa_nil)))))))))) (pe_op op_mod (pv 2) pe_int) (fun _ _ => rfl)))
  (pss_cons (ps_set (i := 5) nd rfl (Or.inl rfl) (pe_op op_mod (pv 1) pe_int))
  (pss_cons (ps_if (pt_cmpR op_lt (pv 5) pe_int (nomark _))
  (pss_one (ps_ret (pe_tup (pa_cons pe_str (pa_cons (pv 4) (pa_cons (pc_ GVl hrV (pa_cons (pv 3) pa_nil)) pa_nil))))))
  pss_nil)
  (pss_cons (ps_if (pt_cmpR op_eq (pv 5) pe_int (nomark _))
  (pss_cons (ps_set (i := 6) nd rfl (Or.inl rfl) (pe_ix ix_list (pe_ix ix_list (pe_dget hu (pv 0) pe_str (fun _ _ => rfl)) (pv 4) (fun _ _ => rfl)) (pe_un un_neg pe_int) (fun _ _ => rfl)))
  (C8.pss_cut (ps_if (pt_cmpR op_eq (pe_op op_mod (pv 3) pe_int) pe_int (nomark _))
  (pss_one (ps_set (i := 6) nd rfl (Or.inl rfl) (pc_ GVl hrV (pa_cons (pe_op op_fdiv (pv 3) pe_int) pa_nil))))
  pss_nil)
  (pss_one (ps_ret (pe_tup (pa_cons pe_str (pa_cons (pv 4) (pa_cons (pv 6) (pa_cons (pc_ GVl hrV (pa_cons (pe_op op_fdiv (pv 3) pe_int) pa_nil)) pa_nil)))))))))
  pss_nil)
  (pss_cons (ps_if (pt_cmpR op_eq (pv 5) pe_int (nomark _))
  (pss_one (ps_ret (pe_tup (pa_cons pe_str (pa_cons (pv 4) (pa_cons (pe_ix ix_list (pe_lst (pa_cons pe_str (pa_cons pe_str pa_nil))) (pe_op op_mod (pv 3) pe_int) (fun _ _ => rfl)) pa_nil))))))
  pss_nil)
  (pss_cons (ps_if (pt_cmpR op_eq (pv 5) pe_int (nomark _))
  (pss_one (ps_ret (pe_tup (pa_cons pe_str (pa_cons (pv 4) pa_nil)))))
  pss_nil)
  (pss_cons (ps_if (pt_cmpR op_lt (pv 5) pe_int (nomark _))
  (pss_one (ps_ret (pe_tup (pa_cons pe_str (pa_cons (pe_callB (call_max2 rfl) (by rfl) zx (by decide +kernel) (pa_cons pe_int (pa_cons (pv 4) pa_nil))) pa_nil)))))
  pss_nil)
  (pss_one (ps_ret (pe_tup (pa_cons pe_str pa_nil))))))))))), ?_⟩
    refine ⟨_, rfl, _, _, rfl, rfl, (by show (0 : Int) < 5; decide), _, _, rfl, rfl, (by show 9 ≤ sizeLine; omega), fun l hl => ?_⟩
    have s1 := up1 (o := HO.lst [V.int 5, V.int 6, V.int 7, V.int 3, V.int 5, V.int 6, V.int 0, V.int 1, V.int (8 + p % 5)]) hl
    have e1 : upd H l (HO.lst [V.int 5, V.int 6, V.int 7, V.int 3, V.int 5, V.int 6, V.int 0, V.int 1, V.int (8 + p % 5)]) l = _ := upd_same
    show (fun H5 => _) (upd H l (HO.lst [V.int 5, V.int 6, V.int 7, V.int 3, V.int 5, V.int 6, V.int 0, V.int 1, V.int (8 + p % 5)]))
    generalize upd H l (HO.lst [V.int 5, V.int 6, V.int 7, V.int 3, V.int 5, V.int 6, V.int 0, V.int 1, V.int (8 + p % 5)]) = H1 at s1 e1 ⊢
    have key : ∃ c : Nat, atI [V.int 5, V.int 6, V.int 7, V.int 3, V.int 5, V.int 6, V.int 0, V.int 1, V.int (8 + p % 5)] (p % 9) = some (.int (c : Int)) ∧ c < 13 := by
      obtain ⟨r, hr1, hr9⟩ : ∃ r : Nat, p % 9 = (r : Int) ∧ r < 9 := ⟨(p % 9).toNat, by omega, by omega⟩
      obtain ⟨m, hm, hm5⟩ : ∃ m : Nat, p % 5 = (m : Int) ∧ m < 5 := ⟨(p % 5).toNat, by omega, by omega⟩
      rw [hr1, hm]
      match r, hr9 with
      | 0, _ => exact ⟨5, atI_nat (j := 0) rfl, by decide⟩
      | 1, _ => exact ⟨6, atI_nat (j := 1) rfl, by decide⟩
      | 2, _ => exact ⟨7, atI_nat (j := 2) rfl, by decide⟩
      | 3, _ => exact ⟨3, atI_nat (j := 3) rfl, by decide⟩
      | 4, _ => exact ⟨5, atI_nat (j := 4) rfl, by decide⟩
      | 5, _ => exact ⟨6, atI_nat (j := 5) rfl, by decide⟩
      | 6, _ => exact ⟨0, atI_nat (j := 6) rfl, by decide⟩
      | 7, _ => exact ⟨1, atI_nat (j := 7) rfl, by decide⟩
      | 8, _ => exact ⟨8 + m, atI_nat (j := 8) (by show some (V.int (8 + (m : Int))) = _; rw [show ((8 + m : Nat) : Int) = 8 + (m : Int) by omega]), by omega⟩
    obtain ⟨c, hc, hc13⟩ := key
    refine ⟨_, rfl, _, _, rfl, rfl, (by show (0 : Int) < 9; decide), l, _, _, _, rfl, rfl, SqL.of e1, hc, ?_⟩
    refine ⟨_, rfl, _, _, rfl, rfl, (by show (0 : Int) < 10; decide), ?_⟩
    show gName 5 (V.int (n % 10)) _ _ _
    generalize n % 10 = kd
    have R1 := R.same s1
    refine ⟨_, rfl, _, _, rfl, rfl, _, rfl, ite2 (fun d => ?_) (fun d => ?_)⟩
    · exact ⟨_, rfl, _, rfl, o, rfl, fun v t H2 s2 dv ft => ⟨(by show 3 ≤ sizeLine; omega), fun q hq => k _ q (.write c v) (s1.trans (s2.trans (up1 hq))) upd_same hc13 ⟨t, DV.ext (up1 hq) _ _ dv, ft⟩⟩⟩
    refine ⟨_, rfl, rfl, _, rfl, ite2 (fun d3 => ?_) (fun d3 => ?_)⟩
    · obtain ⟨us, hus⟩ := to.fi c hc13
      have hl0 : (T c).getLast? = some ((T c).getLast (to.ne c hc13)) := List.getLast?_eq_some_getLast (to.ne c hc13)
      generalize (T c).getLast (to.ne c hc13) = ov at hl0
      have hl2 : (T c)[(T c).length - 1]? = some ov := by rw [← List.getLast?_eq_getElem?]; exact hl0
      obtain ⟨tp, htp, dp⟩ := dvs_get hus.1 hl2
      have fp := hus.2 tp (List.mem_of_getElem? htp)
      refine ⟨_, rfl, W.wd, _, rfl, R1.gt, _, rfl, W.tl, _, _, _, rfl, rfl, SqL.of R1.tl, tc_at hc13, _, rfl, W.tc c, _, -1, _, rfl, rfl, SqL.of (R1.tc c hc13), atI_getLast hl0, ?_⟩
      refine ⟨fun σ' H' => ∃ (ov : V) (t : Tr), σ' = [some (.ref W.wd), some (.int n), some (.int p), some (.int o), some (.int (c : Int)), some (.int kd), some ov] ∧ Same H H' ∧ DV K H' ov t ∧ Fine t, ?_, ?_⟩
      · refine ⟨_, rfl, _, _, rfl, rfl, (by show (0 : Int) < 3; decide), rfl, _, rfl, ite2 (fun d4 => ?_) (fun d4 => ?_)⟩
        · exact ⟨_, rfl, _, _, rfl, rfl, (by unfold CDiv; omega), _, rfl, fun v t H2 s2 dv ft => ⟨v, t, rfl, s1.trans s2, dv, ft⟩⟩
        · exact ⟨ov, tp, rfl, s1, DV.ext s1 _ _ dp, fp⟩
      · rintro σ' H2 ⟨ov, t, rfl, s2, dv, ft⟩
        exact ⟨_, rfl, _, rfl, _, rfl, _, _, rfl, rfl, (by unfold CDiv; omega), _, rfl, fun v t2 H3 s3 dv2 ft2 => ⟨(by show 4 ≤ sizeLine; omega), fun q hq => k _ q (.swap c ov v) (s2.trans (s3.trans (up1 hq))) upd_same hc13 ⟨⟨t, DV.ext (s3.trans (up1 hq)) _ _ dv, ft⟩, t2, DV.ext (up1 hq) _ _ dv2, ft2⟩⟩⟩
    refine ⟨_, rfl, rfl, _, rfl, ite2 (fun d4 => ?_) (fun d4 => ?_)⟩
    · refine ⟨_, rfl, (by show 2 ≤ sizeLine; omega), fun l2 hl2 => ?_⟩
      have s2 := up1 (o := HO.lst [V.str "done", V.str "failed"]) hl2
      have e2 : upd H1 l2 (HO.lst [V.str "done", V.str "failed"]) l2 = _ := upd_same
      generalize upd H1 l2 (HO.lst [V.str "done", V.str "failed"]) = H2 at s2 e2 ⊢
      have key : ∃ z : Str, atI [V.str "done", V.str "failed"] (o % 2) = some (.str z) ∧ (z = "done" ∨ z = "failed") := by
        obtain ⟨r, hr1, hr2⟩ : ∃ r : Nat, o % 2 = (r : Int) ∧ r < 2 := ⟨(o % 2).toNat, by omega, by omega⟩
        rw [hr1]
        match r, hr2 with
        | 0, _ => exact ⟨"done", atI_nat (j := 0) rfl, .inl rfl⟩
        | 1, _ => exact ⟨"failed", atI_nat (j := 1) rfl, .inr rfl⟩
      obtain ⟨z, hz, hz2⟩ := key
      exact ⟨_, rfl, _, _, rfl, rfl, (by show (0 : Int) < 2; decide), l2, _, _, _, rfl, rfl, SqL.of e2, hz, (by show 3 ≤ sizeLine; omega), fun q hq => k _ q (.decide c z) (s1.trans (s2.trans (up1 hq))) upd_same hc13 hz2⟩
    refine ⟨_, rfl, rfl, _, rfl, ite2 (fun d5 => ?_) (fun d5 => ?_)⟩
    · exact ⟨_, rfl, (by show 2 ≤ sizeLine; omega), fun q hq => k _ q (.read c) (s1.trans (up1 hq)) upd_same hc13 trivial⟩
    refine ⟨_, rfl, _, _, rfl, rfl, _, rfl, ite2 (fun d6 => ?_) (fun d6 => ?_)⟩
    · refine ⟨_, rfl, _, _, rfl, ?_⟩
      obtain ⟨m, hm, hm1, hm2⟩ : ∃ m : Nat, (if (c : Int) > 3 then (c : Int) else 3) = (m : Int) ∧ 3 ≤ m ∧ m < 13 := by
        by_cases q : (c : Int) > 3
        · exact ⟨c, if_pos q, by omega, hc13⟩
        · exact ⟨3, if_neg q, by decide, by decide⟩
      rw [hm]
      exact ⟨(by show 2 ≤ sizeLine; omega), fun q hq => k _ q (.flush m) (s1.trans (up1 hq)) upd_same ⟨by omega, by omega⟩ trivial⟩
    · exact ⟨(by show 1 ≤ sizeLine; omega), fun q hq => k _ q .fence (s1.trans (up1 hq)) upd_same trivial trivial⟩
end
end Dk

set_option maxHeartbeats 4000000
/-! the law's look at the memory -/
namespace Dk
open PySem PySem.Spec PyProof.Rows L2
abbrev sLooks : Stmt := top 30
abbrev sLog : Stmt := inClass (top 17) 7
/-- what the memory holds in a cell -/
def memT (X : MS) (c : Nat) : List V := if c < 3 then [X.ps.getD c .non] else X.tr (c - 3)
theorem memT_last {X : MS} (h : X.ps.length = 3) (c : Nat) : cellV X 2 c = (memT X c).getLast? := by
  unfold cellV memT
  by_cases e : c < 3
  · rw [if_pos (by omega), if_pos e, List.getD_eq_getElem?_getD, List.getElem?_eq_getElem (by omega)]
    rfl
  · rw [if_neg (by omega), if_neg e]
def spLooks (K : PySem.W.Frag) (C M : Addr) : Sp := fun vs H Q _ => ∃ (m : Addr) (W : WA) (A : Adr) (X : MS) (T : Nat → List V) (N : Nat → List (Nat × Int)), vs = [.ref m, .ref W.wd] ∧ MemAt C M H m 2 2 6 A X ∧ WAt H W X.count T N ∧ X.ps.length = 3 ∧ (∀ c, c < 13 → T c ≠ []) ∧ (∀ c, c < 13 → Twin K H (memT X c) (T c)) ∧ ∀ H', Same H H' → Q (.bl true) H'
def spLog (C M : Addr) : Sp := fun vs H Q _ => ∃ (m : Addr) (A : Adr) (X : MS), vs = [.ref m] ∧ MemAt C M H m 2 2 6 A X ∧ ∀ p, H p = none → Q (.ref p) (upd H p (.lst X.log))
section
variable {P : Program} {w : World} {K : PySem.W.Frag} {mg : Str → Option Value} {base : Heap} {C M NV LE : Addr}
theorem scLog : FnScope ["self"] ["self"] (defScope sLog) := ⟨rfl, rfl, rfl, by decide +kernel, rfl, by decide +kernel, by decide +kernel⟩
theorem mo_log (F : MT K M "log" "Memory.log" sLog ["self"]) (B0 : Bn mg) (TM : MTxt K M) : MO P w K mg base CX0 M 1 "log" ["self"] (spLog C M) := by
  obtain ⟨f, fd, F, hm, hb⟩ := F
  refine ⟨f, fd, ?_, hm, hb⟩
  refine F.ok scLog (fun vs H Q E h => ?_) (fun cdv A outer s H vs Q E hr h => ?_)
  · obtain ⟨m, A, X, rfl, _⟩ := h
    rfl
  · obtain ⟨m, A0, X, rfl, D, k⟩ := h
    obtain ⟨dm, hm'⟩ := D.ob
    refine ⟨_, pss_one (ps_ret (pe_callTy call_list_of (by rfl) B0.list (by decide +kernel) (pa_cons (pe_fld (pv 0) rfl) pa_nil))), ?_⟩
    exact ⟨_, rfl, m, M, dm, _, _, rfl, hm', TM.cl, TM.nG, rfl, A0.gl, _, rfl, .inl (SqL.of D.gl), k⟩
theorem scLooks : FnScope ["memory", "w", "cell"] ["memory", "w"] (defScope sLooks) := ⟨rfl, rfl, rfl, by decide +kernel, rfl, by decide +kernel, by decide +kernel⟩
theorem go_looks (F : GT K mg "_law_looks" sLooks ["memory", "w"]) (B0 : Bn mg) (TM : MTxt K M) (GSm : GO P w K mg base CX0 1 "_law_same" ["told", "due"] (spSame K)) (GPk : MO P w K mg base CX0 M 8 "peek" ["self", "cell"] (spPeek C M)) (GTr : MO P w K mg base (L2.CX P w) M 9 "trail" ["self", "cell"] (spTrail C M NV)) (GLa : MO P w K mg base (L2.CX P w) M 9 "lasting" ["self", "cell"] (spLasting C M NV)) : GO P w K mg base CX0 10 "_law_looks" ["memory", "w"] (spLooks K C M) := by
  obtain ⟨f, fd, F, hm, hb⟩ := F
  refine ⟨f, fd, ?_, hm, F.kp, hb⟩
  refine F.ok scLooks (fun vs H Q E h => ?_) (fun cdv A outer s H vs Q E hr h => ?_)
  · obtain ⟨m, W, A, X, T, N, rfl, _⟩ := h
    rfl
  · obtain ⟨m, W, A0, X, T, N, rfl, D, R, psl, hne, tw, k⟩ := h
    have nd := scLooks.nd
    have hu := hu_of hr
    have hrM : Room 1 _ := hr.mono (by decide)
    have hr8 : Room 8 _ := hr.mono (by decide)
    have hr9 : Room 9 _ := hr
    have hsl : sizeLine = 16777216 := sizeLine_eq
    refine ⟨_, (pss_cons (ps_for PassesOwn.never rfl (pi_range1 (by rfl) B0.range (pa_cons pe_int pa_nil)) (pg_name (i := 2) nd rfl (Or.inl rfl))
  (pss_cons (ps_if (pt_not (pt_val (pc_ GSm hrM (pa_cons (pm_ GPk TM.cl hr8 (pv 0) (pa_cons (pv 2) pa_nil)) (pa_cons (pe_ix ix_list (pe_ix ix_list (pe_dget hu (pv 1) pe_str (fun _ _ => rfl)) (pv 2) (fun _ _ => rfl)) (pe_un un_neg pe_int) (fun _ _ => rfl)) pa_nil)))))
  (pss_one (ps_ret pe_bl))
  pss_nil)
  (pss_one (ps_if (PW.pt (pw_and (pt_cmpR op_ge (pv 2) pe_int (nomark _)) (pw_and1 (PW.pt (pw_or (pt_cmpR (op_neD hr.units) (pmX_ GTr TM.cl hr9 (pv 0) (pa_cons (pv 2) pa_nil)) (pe_ix ix_list (pe_dget hu (pv 1) pe_str (fun _ _ => rfl)) (pv 2) (fun _ _ => rfl)) (nomark _)) (pw_or1 (pt_cmpR (op_neD hr.units) (pmX_ GLa TM.cl hr9 (pv 0) (pa_cons (pv 2) pa_nil)) (pe_ix ix_list (pe_ix ix_list (pe_dget hu (pv 1) pe_str (fun _ _ => rfl)) (pv 2) (fun _ _ => rfl)) pe_int (fun _ _ => rfl)) (nomark _))))))))
  (pss_one (ps_ret pe_bl))
  pss_nil))))
  (pss_one (ps_ret (pe_cmpR op_eq (pe_fld (pv 0) rfl) (pe_dget hu (pv 1) pe_str (fun _ _ => rfl)) (nomark _))))), ?_⟩
    refine ⟨13, rfl, by decide, by decide, for_range (lo := 0) (n := 13) (fun i σ H' => ∃ x, σ = [some (.ref m), some (.ref W.wd), x] ∧ Same H H') ⟨_, rfl, Same.refl H⟩ ?_ ?_⟩
    · rintro i σ H1 hi ⟨x, rfl, s1⟩
      have hi13 : i < 13 := hi
      have ez : (0 : Int) + (i : Int) = (i : Int) := by omega
      rw [ez]
      have D1 := D.same s1
      have R1 := R.same s1
      obtain ⟨dm, hm1⟩ := D1.ob
      have tw1 := (tw i hi13).ext (.of s1)
      have hl0 : (T i).getLast? = some ((T i).getLast (hne i hi13)) := List.getLast?_eq_some_getLast (hne i hi13)
      generalize (T i).getLast (hne i hi13) = dv at hl0
      obtain ⟨mv, t, hmv, d2, d1, ft⟩ := tw1.symm.last hl0
      refine ⟨_, rfl, m, dm, _, rfl, hm1, rfl, _, rfl, m, 2, 2, 6, i, A0, X, mv, rfl, D1, by omega, by rw [memT_last psl]; exact hmv, ?_⟩
      refine ⟨_, rfl, W.wd, _, rfl, R1.gt, _, rfl, W.tl, _, _, _, rfl, rfl, SqL.of R1.tl, tc_at hi13, _, rfl, W.tc i, _, -1, _, rfl, rfl, SqL.of (R1.tc i hi13), atI_getLast hl0, ?_⟩
      refine ⟨mv, dv, t, rfl, d1, d2, ft.o, _, rfl, iteF ?_⟩
      refine ⟨_, rfl, _, _, rfl, rfl, _, rfl, ite2 (fun d => ?_) (fun d => ?_)⟩
      · have d : (3 : Int) ≤ (i : Int) := of_decide_eq_true d
        obtain ⟨us, hu1, hu2⟩ := tw1
        have hmem : memT X i = X.tr (i - (1 + 2)) := if_neg (by omega)
        have hu1 : Vls K H1 (X.tr (i - (1 + 2))) us := by rw [← hmem]; exact hu1
        refine ⟨_, rfl, m, dm, _, rfl, hm1, rfl, _, rfl, m, 2, 2, 6, i, A0, X, rfl, D1, fun _ p hp => ?_, fun z => absurd ⟨by omega, by omega⟩ z⟩
        have s2 := up1 (o := HO.lst (X.tr (i - (1 + 2)))) hp
        have e2 : upd H1 p (HO.lst (X.tr (i - (1 + 2)))) p = _ := upd_same
        generalize upd H1 p (HO.lst (X.tr (i - (1 + 2)))) = H2 at s2 e2 ⊢
        have R2 := R1.same s2
        have D2 := D1.same s2
        have hu1' := hu1.ext (.of s2)
        have hu2' := hu2.ext (.of s2)
        have sh := fines_shaped hu1.2
        refine ⟨_, rfl, W.wd, _, rfl, R2.gt, _, rfl, W.tl, _, _, _, rfl, rfl, SqL.of R2.tl, tc_at hi13, _, _, hu1'.lst e2, hu2'.lst (R2.tc i hi13), sh, sh, _, rfl, iteC (by rw [eqv_sh sh]; rfl) ?_⟩
        obtain ⟨dm2, hm2⟩ := D2.ob
        have hpos : 0 < (X.tr (i - (1 + 2))).length := by
          have h1 := hu1.len
          have h2 := hu2.len
          have h3 : 0 < (T i).length := List.length_pos_iff.mpr (hne i hi13)
          omega
        obtain ⟨t0, ht0, d01⟩ := dvs_get hu1'.1 (List.getElem?_eq_getElem hpos)
        have h3 : 0 < (T i).length := List.length_pos_iff.mpr (hne i hi13)
        obtain ⟨t0', ht0', d02⟩ := dvs_get hu2'.1 (List.getElem?_eq_getElem h3)
        rw [ht0] at ht0'
        cases ht0'
        have f0 := hu1.2 t0 (List.mem_of_getElem? ht0)
        refine ⟨_, rfl, m, dm2, _, rfl, hm2, rfl, _, rfl, m, 2, 2, 6, i, A0, X, rfl, D2, fun _ => ⟨_, List.getElem?_eq_getElem hpos, ?_⟩, fun z => absurd ⟨by omega, by omega⟩ z⟩
        refine ⟨_, rfl, W.wd, _, rfl, R2.gt, _, rfl, W.tl, _, _, _, rfl, rfl, SqL.of R2.tl, tc_at hi13, W.tc i, _, _, _, rfl, rfl, SqL.of (R2.tc i hi13), atI_nat (j := 0) (List.getElem?_eq_getElem h3), t0.data, t0.data, DV.dp _ _ d01, DV.dp _ _ d02, f0.o, f0.o, _, rfl, iteC (by rw [f0.eqT]; rfl) ?_⟩
        exact ⟨_, rfl, s1.trans s2⟩
      · exact ⟨_, rfl, s1⟩
    · rintro σ H1 ⟨x, rfl, s1⟩
      have R1 := R.same s1
      obtain ⟨dm, hm1⟩ := (D.same s1).ob
      refine ⟨_, rfl, m, M, dm, _, _, rfl, hm1, TM.cl, TM.nC, rfl, _, rfl, W.wd, _, rfl, R1.gc, rfl, ?_⟩
      rw [show decide (V.int X.count = V.int X.count) = true from decide_eq_true rfl]
      exact k H1 s1
end
end Dk

set_option maxHeartbeats 8000000
/-! the law's try of a request, a drift, a cut -/
namespace Dk
open PySem PySem.Spec PyProof.Rows L2
abbrev sDo : Stmt := top 22
theorem spAccess2_mono {K : PySem.W.Frag} {C M NV : Addr} {vs : List V} {H : Hp} {Q Q' : VK} {E E' : XK} (h : spAccess2 K C M NV vs H Q E) (kq : ∀ v H', Q v H' → Q' v H') (ke : ∀ H', E (.ref NV) none H' → E' (.ref NV) none H') : spAccess2 K C M NV vs H Q' E' := by
  rcases h with ⟨m, t, w, r, th, B, A, S, rq, q, h1, h2, h3, h4, h5, h6, h7, h8, h9, h10, k⟩ | ⟨m, q, th, A, S, ys, h1, h2, h3, h4, k⟩
  · exact .inl ⟨m, t, w, r, th, B, A, S, rq, q, h1, h2, h3, h4, h5, h6, h7, h8, h9, h10, fun v x p A' S' H' a b c d e f => kq _ _ (k v x p A' S' H' a b c d e f)⟩
  · exact .inr ⟨m, q, th, A, S, ys, h1, h2, h3, h4, ke _ k⟩
theorem spDrift2_mono {C M NV : Addr} {vs : List V} {H : Hp} {Q Q' : VK} {E E' : XK} (h : spDrift2 C M NV vs H Q E) (kq : ∀ v H', Q v H' → Q' v H') (ke : ∀ H', E (.ref NV) none H' → E' (.ref NV) none H') : spDrift2 C M NV vs H Q' E' := by
  rcases h with ⟨m, t, w, r, j, k, A, S, h1, h2, h3, h4, h5, kk⟩ | ⟨m, i, v, t, A, S, h1, h2, h3, h4, kk⟩
  · exact .inl ⟨m, t, w, r, j, k, A, S, h1, h2, h3, h4, h5, fun H' a b => kq _ _ (kk H' a b)⟩
  · exact .inr ⟨m, i, v, t, A, S, h1, h2, h3, h4, ke _ kk⟩
theorem spCut2_mono {C M NV : Addr} {vs : List V} {H : Hp} {Q Q' : VK} {E E' : XK} (h : spCut2 C M NV vs H Q E) (kq : ∀ v H', Q v H' → Q' v H') (ke : ∀ H', E (.ref NV) none H' → E' (.ref NV) none H') : spCut2 C M NV vs H Q' E' := by
  rcases h with ⟨m, ch, t, w, r, A, S, ks, h1, h2, h3, h4, h5, h6, h7, kk⟩ | ⟨m, v, h1, h2, kk⟩
  · exact .inl ⟨m, ch, t, w, r, A, S, ks, h1, h2, h3, h4, h5, h6, h7, fun A' S' H' a b c d e f g h => kq _ _ (kk A' S' H' a b c d e f g h)⟩
  · exact .inr ⟨m, v, h1, h2, fun H' s => ke _ (kk H' s)⟩
/-- what a refusal gives -/
def rfs (Q : VK) : XK := fun _ _ H => ∀ l, H l = none → Q (.ref l) (upd H l (.lst [.str "refused", .bl true]))
def spDo (K : PySem.W.Frag) (C M NV : Addr) : Sp := fun vs H Q _ => ∃ (m dm : Addr) (fs : List (Str × V)) (z : Str) (a b : V), vs = [.ref m, .str z, a, b] ∧ H m = some (.ins M dm fs) ∧ (fs.lookup ("access" : Str) = none ∧ fs.lookup ("drift" : Str) = none ∧ fs.lookup ("cut" : Str) = none) ∧
  ((z = "access" ∧ spAccess2 K C M NV [.ref m, a, b] H Q (rfs Q)) ∨ (z = "drift" ∧ spDrift2 C M NV [.ref m, a, b] H Q (rfs Q)) ∨ (z = "cut" ∧ spCut2 C M NV [.ref m, a] H Q (rfs Q)))
section
variable {P : Program} {w : World} {K : PySem.W.Frag} {mg : Str → Option Value} {base : Heap} {C M NV LE : Addr}
abbrev NDo : List Str := ["memory", "act", "first", "second", "e"]
theorem scDo : FnScope NDo ["memory", "act", "first", "second"] (defScope sDo) := ⟨rfl, rfl, rfl, by decide +kernel, rfl, by decide +kernel, by decide +kernel⟩
theorem go_do (F : GT K mg "_law_do" sDo ["memory", "act", "first", "second"]) (B0 : Bn mg) (TM : MTxt K M) (X0 : XTxt K mg NV LE) (GA : MO P w K mg base (L2.CX P w) M 11 "access" ["self", "thread", "request"] (spAccess2 K C M NV)) (GD : MO P w K mg base (L2.CX P w) M 9 "drift" ["self", "cell", "steps"] (spDrift2 C M NV)) (GC : MO P w K mg base (L2.CX P w) M 3 "cut" ["self", "choices"] (spCut2 C M NV)) : GO P w K mg base CX0 12 "_law_do" ["memory", "act", "first", "second"] (spDo K C M NV) := by
  obtain ⟨f, fd, F, hm, hb⟩ := F
  refine ⟨f, fd, ?_, hm, F.kp, hb⟩
  refine F.ok scDo (fun vs H Q E h => ?_) (fun cdv A outer s H vs Q E hr h => ?_)
  · obtain ⟨m, dm, fs, z, a, b, rfl, _⟩ := h
    rfl
  · obtain ⟨m, dm, fs, z, a, b, rfl, ho, hn, h⟩ := h
    have hr11 : Room 11 _ := hr
    have hr9 : Room 9 _ := hr.mono (by decide)
    have hr3 : Room 3 _ := hr.mono (by decide)
    have hsl : sizeLine = 16777216 := sizeLine_eq
    refine ⟨_, pss_one (ps_try_as (i := 4) (tb := fun W => tSeq (tIfS (tTest (tOp rEq (tVar 1) (tC (.str "access")))) (tRet (tMethE M "access" (spAccess2 K C M NV) (WE W) (tVar 0) (tCons (tVar 2) (tCons (tVar 3) tNil)))) tNext) (tSeq (tIfS (tTest (tOp rEq (tVar 1) (tC (.str "drift")))) (tRet (tMethE M "drift" (spDrift2 C M NV) (WE W) (tVar 0) (tCons (tVar 2) (tCons (tVar 3) tNil)))) tNext) (tRet (tMethE M "cut" (spCut2 C M NV) (WE W) (tVar 0) (tCons (tVar 2) tNil)))))
      (ts := fun a cls d => tRet (tLst (tCons (tC (.str "refused")) (tCons (tCB (rIsE' K NV a cls d) (tCons (tVar 4) (tCons (tC (.ref NV)) tNil))) tNil)))) (Wout := fun _ _ _ _ => False) rfl rfl scDo.nd rfl rfl ⟨rfl, by decide, Or.inl X0.gL⟩ takes0
        (fun W pn xe tk _ => pss_cons (ps_if (pt_cmpR op_eq (pv 1) pe_str (nomark _)) (pss_one (ps_ret (pmE_ GA TM.cl hr11 (fun σ => passAt tk σ) (pv 0) (by exact (pa_cons (pv 2) (pa_cons (pv 3) pa_nil)))))) pss_nil)
          (pss_cons (ps_if (pt_cmpR op_eq (pv 1) pe_str (nomark _)) (pss_one (ps_ret (pmE_ GD TM.cl hr9 (fun σ => passAt tk σ) (pv 0) (by exact (pa_cons (pv 2) (pa_cons (pv 3) pa_nil)))))) pss_nil)
          (pss_one (ps_ret (pmE_ GC TM.cl hr3 (fun σ => passAt tk σ) (pv 0) (by exact (pa_cons (pv 2) pa_nil)))))))
        (fun a oe cls d pn hz hf => pss_one (ps_ret (pe_lst (pa_cons pe_str (pa_cons (pe_callB (call_isE' X0.eC hz hf) (by rfl) B0.isi (by decide +kernel) (pa_cons (pv 4) (pa_cons (pe_glob rfl X0.gN rfl) pa_nil))) pa_nil)))))), ?_⟩
    have bad : ∀ (D : Ends), D.rt = Q → ∀ H', rfs Q (.ref NV) none H' → wAs K (.ref LE) 4 (fun a cls d => tRet (tLst (tCons (tC (.str "refused")) (tCons (tCB (rIsE' K NV a cls d) (tCons (tVar 4) (tCons (tC (.ref NV)) tNil))) tNil)))) (fun _ _ _ _ => False) D (.ref NV) none (L2.start NDo [.ref m, .str z, a, b]) H' := fun D hD H' k => by
      refine ⟨true, X0.eN, fun _ a ha => ?_, fun z => Bool.noConfusion z⟩
      refine ⟨_, rfl, rfl, rfl, _, _, true, rfl, fun u hu => hu, X0.kit, (by show 2 ≤ sizeLine; omega), fun l hl => ?_⟩
      show D.rt _ _
      rw [hD]
      exact k l hl
    rcases h with ⟨rfl, h⟩ | ⟨rfl, h⟩ | ⟨rfl, h⟩
    · refine ⟨_, rfl, rfl, _, rfl, iteT ?_⟩
      exact ⟨_, rfl, m, dm, fs, rfl, ho, hn.1, _, rfl, _, rfl, spAccess2_mono h (fun v H' q => q) (fun H' k => bad _ rfl H' k)⟩
    · refine ⟨_, rfl, rfl, _, rfl, iteC (by decide +kernel) ?_⟩
      refine ⟨_, rfl, rfl, _, rfl, iteT ?_⟩
      exact ⟨_, rfl, m, dm, fs, rfl, ho, hn.2.1, _, rfl, _, rfl, spDrift2_mono h (fun v H' q => q) (fun H' k => bad _ rfl H' k)⟩
    · refine ⟨_, rfl, rfl, _, rfl, iteC (by decide +kernel) ?_⟩
      refine ⟨_, rfl, rfl, _, rfl, iteC (by decide +kernel) ?_⟩
      exact ⟨_, rfl, m, dm, fs, rfl, ho, hn.2.2, _, rfl, spCut2_mono h (fun v H' q => q) (fun H' k => bad _ rfl H' k)⟩
end
end Dk

set_option maxHeartbeats 8000000
/-! the law's refused requests, drifts, cuts -/
namespace Dk
open PySem PySem.Spec PyProof.Rows L2
abbrev sWrong : Stmt := top 23
def spWrong (C M : Addr) : Sp := fun vs H Q _ => ∃ (m : Addr) (n : Int) (A : Adr) (X : MS), vs = [.ref m, .int n] ∧ MemAt C M H m 2 2 6 A X ∧ ∀ (H' : Hp) (l : Addr), Same H H' → H' l = some (.lst [.str "refused", .bl true]) → Q (.ref l) H'
section
variable {P : Program} {w : World} {K : PySem.W.Frag} {mg : Str → Option Value} {base : Heap} {C M NV LE : Addr}
theorem two_int {i j : Int} : ∀ x ∈ [V.int i, V.int j], ∃ t, vty x = some t := fun x hx => by
  rcases List.mem_cons.mp hx with e | e
  · rw [e]
    exact ⟨_, rfl⟩
  · rw [List.mem_singleton.mp e]
    exact ⟨_, rfl⟩
theorem scWrong : FnScope ["memory", "number", "menu"] ["memory", "number"] (defScope sWrong) := ⟨rfl, rfl, rfl, by decide +kernel, rfl, by decide +kernel, by decide +kernel⟩
theorem go_wrong (F : GT K mg "_law_wrong" sWrong ["memory", "number"]) (GDo : GO P w K mg base CX0 12 "_law_do" ["memory", "act", "first", "second"] (spDo K C M NV)) : GO P w K mg base CX0 13 "_law_wrong" ["memory", "number"] (spWrong C M) := by
  obtain ⟨f, fd, F, hm, hb⟩ := F
  refine ⟨f, fd, ?_, hm, F.kp, hb⟩
  refine F.ok scWrong (fun vs H Q E h => ?_) (fun cdv A outer s H vs Q E hr h => ?_)
  · obtain ⟨m, n, A, X, rfl, _⟩ := h
    rfl
  · obtain ⟨m, n, A0, X, rfl, D, k⟩ := h
    have nd := scWrong.nd
    have hrD : Room 12 _ := hr
    have hsl : sizeLine = 16777216 := sizeLine_eq
    refine ⟨_, (pss_cons (ps_set (i := 2) nd rfl (Or.inl rfl) (pe_lst (pa_cons (pe_tup (pa_cons pe_int (pa_cons (pe_tup (pa_cons pe_str (pa_cons pe_int pa_nil))) pa_nil))) (pa_cons (pe_tup (pa_cons pe_int (pa_cons (pe_tup (pa_cons pe_str (pa_cons pe_int pa_nil))) pa_nil))) (pa_cons (pe_tup (pa_cons pe_int (pa_cons (pe_tup (pa_cons pe_str (pa_cons pe_int pa_nil))) pa_nil))) (pa_cons (pe_tup (pa_cons (pe_un un_neg pe_int) (pa_cons (pe_tup (pa_cons pe_str pa_nil)) pa_nil))) (pa_cons (pe_tup (pa_cons pe_int (pa_cons (pe_tup (pa_cons pe_str (pa_cons pe_int pa_nil))) pa_nil))) (pa_cons (pe_tup (pa_cons pe_int (pa_cons (pe_tup (pa_cons pe_str (pa_cons pe_int pa_nil))) pa_nil))) pa_nil))))))))
  (pss_cons (ps_set (i := 2) nd rfl (Or.inl rfl) (pe_op op_cat (pv 2) (pe_lst (pa_cons (pe_tup (pa_cons pe_int (pa_cons (pe_tup (pa_cons pe_str (pa_cons pe_int pa_nil))) pa_nil))) (pa_cons (pe_tup (pa_cons pe_int (pa_cons (pe_tup (pa_cons pe_str (pa_cons pe_int pa_nil))) pa_nil))) (pa_cons (pe_tup (pa_cons pe_int (pa_cons (pe_tup (pa_cons pe_str (pa_cons (pe_un un_neg pe_int) (pa_cons pe_int (pa_cons pe_int pa_nil))))) pa_nil))) (pa_cons (pe_tup (pa_cons pe_int (pa_cons (pe_tup pa_nil) pa_nil))) (pa_cons (pe_tup (pa_cons pe_int (pa_cons (pe_tup (pa_cons pe_str (pa_cons pe_int pa_nil))) pa_nil))) pa_nil))))))))
  (pss_cons (ps_if (pt_cmpR op_eq (pe_op op_mod (pv 1) pe_int) pe_int (nomark _))
  (pss_one (ps_ret (pc_ GDo hrD (pa_cons (pv 0) (pa_cons pe_str (pa_cons (pe_ix ix_list (pe_lst (pa_cons pe_int (pa_cons pe_int (pa_cons pe_int (pa_cons (pe_un un_neg pe_int) pa_nil))))) (pe_op op_mod (pe_op op_fdiv (pv 1) pe_int) pe_int) (fun _ _ => rfl)) (pa_cons pe_int pa_nil)))))))
  pss_nil)
  (pss_cons (ps_if (pt_cmpR op_eq (pe_op op_mod (pv 1) pe_int) pe_int (nomark _))
  (pss_one (ps_ret (pc_ GDo hrD (pa_cons (pv 0) (pa_cons pe_str (pa_cons pe_int (pa_cons (pe_ix ix_list (pe_lst (pa_cons (pe_un un_neg pe_int) (pa_cons pe_non (pa_cons pe_bl pa_nil)))) (pe_op op_mod (pe_op op_fdiv (pv 1) pe_int) pe_int) (fun _ _ => rfl)) pa_nil)))))))
  pss_nil)
  (pss_cons (ps_if (pt_cmpR op_eq (pe_op op_mod (pv 1) pe_int) pe_int (nomark _))
  (pss_one (ps_ret (pc_ GDo hrD (pa_cons (pv 0) (pa_cons pe_str (pa_cons (pe_ix ix_list (pe_lst (pa_cons (pe_lst (pa_cons pe_int (pa_cons (pe_un un_neg pe_int) pa_nil))) (pa_cons (pe_tup (pa_cons pe_int (pa_cons pe_int pa_nil))) (pa_cons pe_non (pa_cons (pe_lst (pa_cons pe_bl pa_nil)) pa_nil))))) (pe_op op_mod (pe_op op_fdiv (pv 1) pe_int) pe_int) (fun _ _ => rfl)) (pa_cons pe_non pa_nil)))))))
  pss_nil)
  (pss_one (ps_ret (pc_ GDo hrD (pa_cons (pv 0) (pa_cons pe_str (pa_cons (pe_ix ix_tup (pe_ix ix_list (pv 2) (pe_op op_mod (pe_op op_fdiv (pv 1) pe_int) pe_int) (fun _ _ => rfl)) pe_int (fun _ _ => rfl)) (pa_cons (pe_ix ix_tup (pe_ix ix_list (pv 2) (pe_op op_mod (pe_op op_fdiv (pv 1) pe_int) pe_int) (fun _ _ => rfl)) pe_int (fun _ _ => rfl)) pa_nil)))))))))))), ?_⟩
    refine ⟨(by show 2 ≤ sizeLine; omega), fun i0 hi0 => ?_⟩
    have si0 := up1 (o := HO.tup [V.str "flush", V.int 0]) hi0
    have ei0 : upd H i0 (HO.tup [V.str "flush", V.int 0]) i0 = _ := upd_same
    generalize upd H i0 (HO.tup [V.str "flush", V.int 0]) = HA0 at si0 ei0 ⊢
    refine ⟨(by show 2 ≤ sizeLine; omega), fun o0 ho0 => ?_⟩
    have so0 := up1 (o := HO.tup [V.int 0, V.ref i0]) ho0
    have eo0 : upd HA0 o0 (HO.tup [V.int 0, V.ref i0]) o0 = _ := upd_same
    generalize upd HA0 o0 (HO.tup [V.int 0, V.ref i0]) = HB0 at so0 eo0 ⊢
    refine ⟨(by show 2 ≤ sizeLine; omega), fun i1 hi1 => ?_⟩
    have si1 := up1 (o := HO.tup [V.str "flush", V.int 2]) hi1
    have ei1 : upd HB0 i1 (HO.tup [V.str "flush", V.int 2]) i1 = _ := upd_same
    generalize upd HB0 i1 (HO.tup [V.str "flush", V.int 2]) = HA1 at si1 ei1 ⊢
    refine ⟨(by show 2 ≤ sizeLine; omega), fun o1 ho1 => ?_⟩
    have so1 := up1 (o := HO.tup [V.int 1, V.ref i1]) ho1
    have eo1 : upd HA1 o1 (HO.tup [V.int 1, V.ref i1]) o1 = _ := upd_same
    generalize upd HA1 o1 (HO.tup [V.int 1, V.ref i1]) = HB1 at so1 eo1 ⊢
    refine ⟨(by show 2 ≤ sizeLine; omega), fun i2 hi2 => ?_⟩
    have si2 := up1 (o := HO.tup [V.str "read", V.int 5]) hi2
    have ei2 : upd HB1 i2 (HO.tup [V.str "read", V.int 5]) i2 = _ := upd_same
    generalize upd HB1 i2 (HO.tup [V.str "read", V.int 5]) = HA2 at si2 ei2 ⊢
    refine ⟨(by show 2 ≤ sizeLine; omega), fun o2 ho2 => ?_⟩
    have so2 := up1 (o := HO.tup [V.int 2, V.ref i2]) ho2
    have eo2 : upd HA2 o2 (HO.tup [V.int 2, V.ref i2]) o2 = _ := upd_same
    generalize upd HA2 o2 (HO.tup [V.int 2, V.ref i2]) = HB2 at so2 eo2 ⊢
    refine ⟨_, rfl, (by show 1 ≤ sizeLine; omega), fun i3 hi3 => ?_⟩
    have si3 := up1 (o := HO.tup [V.str "fence"]) hi3
    have ei3 : upd HB2 i3 (HO.tup [V.str "fence"]) i3 = _ := upd_same
    generalize upd HB2 i3 (HO.tup [V.str "fence"]) = HA3 at si3 ei3 ⊢
    refine ⟨(by show 2 ≤ sizeLine; omega), fun o3 ho3 => ?_⟩
    have so3 := up1 (o := HO.tup [V.int (-1), V.ref i3]) ho3
    have eo3 : upd HA3 o3 (HO.tup [V.int (-1), V.ref i3]) o3 = _ := upd_same
    generalize upd HA3 o3 (HO.tup [V.int (-1), V.ref i3]) = HB3 at so3 eo3 ⊢
    refine ⟨(by show 2 ≤ sizeLine; omega), fun i4 hi4 => ?_⟩
    have si4 := up1 (o := HO.tup [V.str "read", V.int 13]) hi4
    have ei4 : upd HB3 i4 (HO.tup [V.str "read", V.int 13]) i4 = _ := upd_same
    generalize upd HB3 i4 (HO.tup [V.str "read", V.int 13]) = HA4 at si4 ei4 ⊢
    refine ⟨(by show 2 ≤ sizeLine; omega), fun o4 ho4 => ?_⟩
    have so4 := up1 (o := HO.tup [V.int 0, V.ref i4]) ho4
    have eo4 : upd HA4 o4 (HO.tup [V.int 0, V.ref i4]) o4 = _ := upd_same
    generalize upd HA4 o4 (HO.tup [V.int 0, V.ref i4]) = HB4 at so4 eo4 ⊢
    refine ⟨(by show 2 ≤ sizeLine; omega), fun i5 hi5 => ?_⟩
    have si5 := up1 (o := HO.tup [V.str "fence", V.int 1]) hi5
    have ei5 : upd HB4 i5 (HO.tup [V.str "fence", V.int 1]) i5 = _ := upd_same
    generalize upd HB4 i5 (HO.tup [V.str "fence", V.int 1]) = HA5 at si5 ei5 ⊢
    refine ⟨(by show 2 ≤ sizeLine; omega), fun o5 ho5 => ?_⟩
    have so5 := up1 (o := HO.tup [V.int 0, V.ref i5]) ho5
    have eo5 : upd HA5 o5 (HO.tup [V.int 0, V.ref i5]) o5 = _ := upd_same
    generalize upd HA5 o5 (HO.tup [V.int 0, V.ref i5]) = HB5 at so5 eo5 ⊢
    refine ⟨(by show 6 ≤ sizeLine; omega), fun l1 hl1 => ?_⟩
    have sl1 := up1 (o := HO.lst [V.ref o0, V.ref o1, V.ref o2, V.ref o3, V.ref o4, V.ref o5]) hl1
    have el1 : upd HB5 l1 (HO.lst [V.ref o0, V.ref o1, V.ref o2, V.ref o3, V.ref o4, V.ref o5]) l1 = _ := upd_same
    generalize upd HB5 l1 (HO.lst [V.ref o0, V.ref o1, V.ref o2, V.ref o3, V.ref o4, V.ref o5]) = L1 at sl1 el1 ⊢
    refine ⟨_, rfl, (by show 2 ≤ sizeLine; omega), fun i6 hi6 => ?_⟩
    have si6 := up1 (o := HO.tup [V.str "end", V.int 1]) hi6
    have ei6 : upd L1 i6 (HO.tup [V.str "end", V.int 1]) i6 = _ := upd_same
    generalize upd L1 i6 (HO.tup [V.str "end", V.int 1]) = HA6 at si6 ei6 ⊢
    refine ⟨(by show 2 ≤ sizeLine; omega), fun o6 ho6 => ?_⟩
    have so6 := up1 (o := HO.tup [V.int 0, V.ref i6]) ho6
    have eo6 : upd HA6 o6 (HO.tup [V.int 0, V.ref i6]) o6 = _ := upd_same
    generalize upd HA6 o6 (HO.tup [V.int 0, V.ref i6]) = HB6 at so6 eo6 ⊢
    refine ⟨(by show 2 ≤ sizeLine; omega), fun i7 hi7 => ?_⟩
    have si7 := up1 (o := HO.tup [V.str "write", V.int 5]) hi7
    have ei7 : upd HB6 i7 (HO.tup [V.str "write", V.int 5]) i7 = _ := upd_same
    generalize upd HB6 i7 (HO.tup [V.str "write", V.int 5]) = HA7 at si7 ei7 ⊢
    refine ⟨(by show 2 ≤ sizeLine; omega), fun o7 ho7 => ?_⟩
    have so7 := up1 (o := HO.tup [V.int 0, V.ref i7]) ho7
    have eo7 : upd HA7 o7 (HO.tup [V.int 0, V.ref i7]) o7 = _ := upd_same
    generalize upd HA7 o7 (HO.tup [V.int 0, V.ref i7]) = HB7 at so7 eo7 ⊢
    refine ⟨_, rfl, (by show 4 ≤ sizeLine; omega), fun i8 hi8 => ?_⟩
    have si8 := up1 (o := HO.tup [V.str "swap", V.int (-1), V.int 0, V.int 0]) hi8
    have ei8 : upd HB7 i8 (HO.tup [V.str "swap", V.int (-1), V.int 0, V.int 0]) i8 = _ := upd_same
    generalize upd HB7 i8 (HO.tup [V.str "swap", V.int (-1), V.int 0, V.int 0]) = HA8 at si8 ei8 ⊢
    refine ⟨(by show 2 ≤ sizeLine; omega), fun o8 ho8 => ?_⟩
    have so8 := up1 (o := HO.tup [V.int 0, V.ref i8]) ho8
    have eo8 : upd HA8 o8 (HO.tup [V.int 0, V.ref i8]) o8 = _ := upd_same
    generalize upd HA8 o8 (HO.tup [V.int 0, V.ref i8]) = HB8 at so8 eo8 ⊢
    refine ⟨(by show 0 ≤ sizeLine; omega), fun i9 hi9 => ?_⟩
    have si9 := up1 (o := HO.tup []) hi9
    have ei9 : upd HB8 i9 (HO.tup []) i9 = _ := upd_same
    generalize upd HB8 i9 (HO.tup []) = HA9 at si9 ei9 ⊢
    refine ⟨(by show 2 ≤ sizeLine; omega), fun o9 ho9 => ?_⟩
    have so9 := up1 (o := HO.tup [V.int 0, V.ref i9]) ho9
    have eo9 : upd HA9 o9 (HO.tup [V.int 0, V.ref i9]) o9 = _ := upd_same
    generalize upd HA9 o9 (HO.tup [V.int 0, V.ref i9]) = HB9 at so9 eo9 ⊢
    refine ⟨(by show 2 ≤ sizeLine; omega), fun i10 hi10 => ?_⟩
    have si10 := up1 (o := HO.tup [V.str "flush", V.int 13]) hi10
    have ei10 : upd HB9 i10 (HO.tup [V.str "flush", V.int 13]) i10 = _ := upd_same
    generalize upd HB9 i10 (HO.tup [V.str "flush", V.int 13]) = HA10 at si10 ei10 ⊢
    refine ⟨(by show 2 ≤ sizeLine; omega), fun o10 ho10 => ?_⟩
    have so10 := up1 (o := HO.tup [V.int 0, V.ref i10]) ho10
    have eo10 : upd HA10 o10 (HO.tup [V.int 0, V.ref i10]) o10 = _ := upd_same
    generalize upd HA10 o10 (HO.tup [V.int 0, V.ref i10]) = HB10 at so10 eo10 ⊢
    refine ⟨(by show 5 ≤ sizeLine; omega), fun l2 hl2 => ?_⟩
    have sl2 := up1 (o := HO.lst [V.ref o6, V.ref o7, V.ref o8, V.ref o9, V.ref o10]) hl2
    have el2 : upd HB10 l2 (HO.lst [V.ref o6, V.ref o7, V.ref o8, V.ref o9, V.ref o10]) l2 = _ := upd_same
    generalize upd HB10 l2 (HO.lst [V.ref o6, V.ref o7, V.ref o8, V.ref o9, V.ref o10]) = L2h at sl2 el2 ⊢
    have tl2 : Same L2h L2h := Same.refl _
    have to10 : Same HB10 L2h := sl2.trans tl2
    have ti10 : Same HA10 L2h := so10.trans to10
    have to9 : Same HB9 L2h := si10.trans ti10
    have ti9 : Same HA9 L2h := so9.trans to9
    have to8 : Same HB8 L2h := si9.trans ti9
    have ti8 : Same HA8 L2h := so8.trans to8
    have to7 : Same HB7 L2h := si8.trans ti8
    have ti7 : Same HA7 L2h := so7.trans to7
    have to6 : Same HB6 L2h := si7.trans ti7
    have ti6 : Same HA6 L2h := so6.trans to6
    have tl1 : Same L1 L2h := si6.trans ti6
    have to5 : Same HB5 L2h := sl1.trans tl1
    have ti5 : Same HA5 L2h := so5.trans to5
    have to4 : Same HB4 L2h := si5.trans ti5
    have ti4 : Same HA4 L2h := so4.trans to4
    have to3 : Same HB3 L2h := si4.trans ti4
    have ti3 : Same HA3 L2h := so3.trans to3
    have to2 : Same HB2 L2h := si3.trans ti3
    have ti2 : Same HA2 L2h := so2.trans to2
    have to1 : Same HB1 L2h := si2.trans ti2
    have ti1 : Same HA1 L2h := so1.trans to1
    have to0 : Same HB0 L2h := si1.trans ti1
    have ti0 : Same HA0 L2h := so0.trans to0
    have tH : Same H L2h := si0.trans ti0
    refine ⟨l1, l2, _, _, rfl, rfl, tl1 _ _ el1, el2, (by show 6 + 5 ≤ sizeLine; omega), fun l3 hl3 => ?_⟩
    have s3 := up1 (o := HO.lst ([V.ref o0, V.ref o1, V.ref o2, V.ref o3, V.ref o4, V.ref o5] ++ [V.ref o6, V.ref o7, V.ref o8, V.ref o9, V.ref o10])) hl3
    have e3 : upd L2h l3 (HO.lst ([V.ref o0, V.ref o1, V.ref o2, V.ref o3, V.ref o4, V.ref o5] ++ [V.ref o6, V.ref o7, V.ref o8, V.ref o9, V.ref o10])) l3 = _ := upd_same
    generalize upd L2h l3 (HO.lst ([V.ref o0, V.ref o1, V.ref o2, V.ref o3, V.ref o4, V.ref o5] ++ [V.ref o6, V.ref o7, V.ref o8, V.ref o9, V.ref o10])) = G at s3 e3 ⊢
    have key : ∀ r : Nat, r < 11 → ∃ (o q : Addr) (th : Int) (ys : List V), ([V.ref o0, V.ref o1, V.ref o2, V.ref o3, V.ref o4, V.ref o5] ++ [V.ref o6, V.ref o7, V.ref o8, V.ref o9, V.ref o10])[r]? = some (.ref o) ∧ G o = some (.tup [.int th, .ref q]) ∧ G q = some (.tup ys) ∧ (inW 0 (2 - 1) (.int th) = false ∨ inW 0 (2 - 1) (.int th) = true ∧ BadRq ys) := fun r hr =>
      match r, hr with
      | 0, _ => ⟨o0, i0, _, _, rfl, s3 _ _ (to0 _ _ eo0), s3 _ _ (ti0 _ _ ei0), .inr ⟨by decide, .flush 0 (by decide)⟩⟩
      | 1, _ => ⟨o1, i1, _, _, rfl, s3 _ _ (to1 _ _ eo1), s3 _ _ (ti1 _ _ ei1), .inr ⟨by decide, .flush 2 (by decide)⟩⟩
      | 2, _ => ⟨o2, i2, _, _, rfl, s3 _ _ (to2 _ _ eo2), s3 _ _ (ti2 _ _ ei2), .inl (by decide)⟩
      | 3, _ => ⟨o3, i3, _, _, rfl, s3 _ _ (to3 _ _ eo3), s3 _ _ (ti3 _ _ ei3), .inl (by decide)⟩
      | 4, _ => ⟨o4, i4, _, _, rfl, s3 _ _ (to4 _ _ eo4), s3 _ _ (ti4 _ _ ei4), .inr ⟨by decide, .read 13 (by decide)⟩⟩
      | 5, _ => ⟨o5, i5, _, _, rfl, s3 _ _ (to5 _ _ eo5), s3 _ _ (ti5 _ _ ei5), .inr ⟨by decide, .fence1⟩⟩
      | 6, _ => ⟨o6, i6, _, _, rfl, s3 _ _ (to6 _ _ eo6), s3 _ _ (ti6 _ _ ei6), .inr ⟨by decide, .end1⟩⟩
      | 7, _ => ⟨o7, i7, _, _, rfl, s3 _ _ (to7 _ _ eo7), s3 _ _ (ti7 _ _ ei7), .inr ⟨by decide, .write5⟩⟩
      | 8, _ => ⟨o8, i8, _, _, rfl, s3 _ _ (to8 _ _ eo8), s3 _ _ (ti8 _ _ ei8), .inr ⟨by decide, .swap (-1) (by decide)⟩⟩
      | 9, _ => ⟨o9, i9, _, _, rfl, s3 _ _ (to9 _ _ eo9), s3 _ _ (ti9 _ _ ei9), .inr ⟨by decide, .nil⟩⟩
      | 10, _ => ⟨o10, i10, _, _, rfl, s3 _ _ (to10 _ _ eo10), s3 _ _ (ti10 _ _ ei10), .inr ⟨by decide, .flush 13 (by decide)⟩⟩
    have sG := tH.trans s3
    clear ei0 si0 ti0 eo0 so0 to0 ei1 si1 ti1 eo1 so1 to1 ei2 si2 ti2 eo2 so2 to2 ei3 si3 ti3 eo3 so3 to3 ei4 si4 ti4 eo4 so4 to4 ei5 si5 ti5 eo5 so5 to5 el1 sl1 tl1 ei6 si6 ti6 eo6 so6 to6 ei7 si7 ti7 eo7 so7 to7 ei8 si8 ti8 eo8 so8 to8 ei9 si9 ti9 eo9 so9 to9 ei10 si10 ti10 eo10 so10 to10 el2 sl2 tl2
    have DG := D.same sG
    obtain ⟨dm, hmm⟩ := DG.ob
    have lk : (mf A0 X.count).lookup ("access" : Str) = none ∧ (mf A0 X.count).lookup ("drift" : Str) = none ∧ (mf A0 X.count).lookup ("cut" : Str) = none := ⟨rfl, rfl, rfl⟩
    have rf : ∀ H', Same G H' → rfs Q (.ref NV) none H' := fun H' s l hl => k _ l ((sG.trans s).trans (up1 hl)) upd_same
    refine ⟨_, rfl, _, _, rfl, rfl, (by show (0 : Int) < 4; decide), rfl, _, rfl, ite2 (fun d => ?_) (fun d => ?_)⟩
    · refine ⟨_, rfl, _, rfl, (by show 4 ≤ sizeLine; omega), fun l hl => ?_⟩
      have u1 := up1 (o := HO.lst [V.int 0, V.int 2, V.int 13, V.int (-1)]) hl
      have f1 : upd G l (HO.lst [V.int 0, V.int 2, V.int 13, V.int (-1)]) l = _ := upd_same
      generalize upd G l (HO.lst [V.int 0, V.int 2, V.int 13, V.int (-1)]) = G1 at u1 f1 ⊢
      have kk : ∃ i : Int, atI [V.int 0, V.int 2, V.int 13, V.int (-1)] (n / 4 % 4) = some (.int i) ∧ lastB 2 2 6 (.int i) = false := by
        obtain ⟨r, hr1, hr4⟩ : ∃ r : Nat, n / 4 % 4 = (r : Int) ∧ r < 4 := ⟨(n / 4 % 4).toNat, by omega, by omega⟩
        rw [hr1]
        match r, hr4 with
        | 0, _ => exact ⟨0, atI_nat (j := 0) rfl, by decide⟩
        | 1, _ => exact ⟨2, atI_nat (j := 1) rfl, by decide⟩
        | 2, _ => exact ⟨13, atI_nat (j := 2) rfl, by decide⟩
        | 3, _ => exact ⟨-1, atI_nat (j := 3) rfl, by decide⟩
      obtain ⟨i, hi, hb⟩ := kk
      exact ⟨_, rfl, _, _, rfl, rfl, (by unfold CDiv; omega), _, _, rfl, rfl, (by show (0 : Int) < 4; decide), l, _, _, _, rfl, rfl, SqL.of f1, hi, m, dm, _, "drift", .int i, .int 1, rfl, u1 _ _ hmm, lk, .inr (.inl ⟨rfl, .inr ⟨m, i, .int 1, "int", A0, X, rfl, rfl, DG.same u1, .inl hb, rf G1 u1⟩⟩)⟩
    refine ⟨_, rfl, _, _, rfl, rfl, (by show (0 : Int) < 4; decide), rfl, _, rfl, ite2 (fun d => ?_) (fun d => ?_)⟩
    · refine ⟨_, rfl, _, rfl, (by show 3 ≤ sizeLine; omega), fun l hl => ?_⟩
      have u1 := up1 (o := HO.lst [V.int (-1), V.non, V.bl true]) hl
      have f1 : upd G l (HO.lst [V.int (-1), V.non, V.bl true]) l = _ := upd_same
      generalize upd G l (HO.lst [V.int (-1), V.non, V.bl true]) = G1 at u1 f1 ⊢
      have kk : ∃ (v : V) (t : String), atI [V.int (-1), V.non, V.bl true] (n / 4 % 3) = some v ∧ vty v = some t ∧ manyB v = false := by
        obtain ⟨r, hr1, hr4⟩ : ∃ r : Nat, n / 4 % 3 = (r : Int) ∧ r < 3 := ⟨(n / 4 % 3).toNat, by omega, by omega⟩
        rw [hr1]
        match r, hr4 with
        | 0, _ => exact ⟨_, _, atI_nat (j := 0) rfl, rfl, rfl⟩
        | 1, _ => exact ⟨_, _, atI_nat (j := 1) rfl, rfl, rfl⟩
        | 2, _ => exact ⟨_, _, atI_nat (j := 2) rfl, rfl, rfl⟩
      obtain ⟨v, t, hi, ht, hb⟩ := kk
      exact ⟨_, rfl, _, _, rfl, rfl, (by unfold CDiv; omega), _, _, rfl, rfl, (by show (0 : Int) < 3; decide), l, _, _, _, rfl, rfl, SqL.of f1, hi, m, dm, _, "drift", .int 5, v, rfl, u1 _ _ hmm, lk, .inr (.inl ⟨rfl, .inr ⟨m, 5, v, t, A0, X, rfl, ht, DG.same u1, .inr ⟨by decide, hb⟩, rf G1 u1⟩⟩)⟩
    refine ⟨_, rfl, _, _, rfl, rfl, (by show (0 : Int) < 4; decide), rfl, _, rfl, ite2 (fun d => ?_) (fun d => ?_)⟩
    · refine ⟨_, rfl, _, rfl, (by show 2 ≤ sizeLine; omega), fun p1 hp1 => ?_⟩
      have u1 := up1 (o := HO.lst [V.int 0, V.int (-1)]) hp1
      have f1 : upd G p1 (HO.lst [V.int 0, V.int (-1)]) p1 = _ := upd_same
      generalize upd G p1 (HO.lst [V.int 0, V.int (-1)]) = G1 at u1 f1 ⊢
      refine ⟨(by show 2 ≤ sizeLine; omega), fun p2 hp2 => ?_⟩
      have u2 := up1 (o := HO.tup [V.int 0, V.int 1]) hp2
      have f2 : upd G1 p2 (HO.tup [V.int 0, V.int 1]) p2 = _ := upd_same
      generalize upd G1 p2 (HO.tup [V.int 0, V.int 1]) = G2 at u2 f2 ⊢
      refine ⟨(by show 1 ≤ sizeLine; omega), fun p3 hp3 => ?_⟩
      have u3 := up1 (o := HO.lst [V.bl true]) hp3
      have f3 : upd G2 p3 (HO.lst [V.bl true]) p3 = _ := upd_same
      generalize upd G2 p3 (HO.lst [V.bl true]) = G3 at u3 f3 ⊢
      refine ⟨(by show 4 ≤ sizeLine; omega), fun l hl => ?_⟩
      have u4 := up1 (o := HO.lst [V.ref p1, V.ref p2, V.non, V.ref p3]) hl
      have f4 : upd G3 l (HO.lst [V.ref p1, V.ref p2, V.non, V.ref p3]) l = _ := upd_same
      generalize upd G3 l (HO.lst [V.ref p1, V.ref p2, V.non, V.ref p3]) = G4 at u4 f4 ⊢
      have u14 := u1.trans (u2.trans (u3.trans u4))
      have kk : ∃ v : V, atI [V.ref p1, V.ref p2, V.non, V.ref p3] (n / 4 % 4) = some v ∧ BadCh G4 v := by
        obtain ⟨r, hr1, hr4⟩ : ∃ r : Nat, n / 4 % 4 = (r : Int) ∧ r < 4 := ⟨(n / 4 % 4).toNat, by omega, by omega⟩
        rw [hr1]
        match r, hr4 with
        | 0, _ => exact ⟨_, atI_nat (j := 0) rfl, .lst (u4 _ _ (u3 _ _ (u2 _ _ f1))) (by show 2 < 1000; decide) two_int rfl⟩
        | 1, _ => exact ⟨_, atI_nat (j := 1) rfl, .tup (u4 _ _ (u3 _ _ f2))⟩
        | 2, _ => exact ⟨_, atI_nat (j := 2) rfl, .non⟩
        | 3, _ => exact ⟨_, atI_nat (j := 3) rfl, .lst (u4 _ _ f3) (by show 1 < 1000; decide) (fun x hx => ⟨"bool", by rw [List.mem_singleton.mp hx]; rfl⟩) rfl⟩
      obtain ⟨v, hi, hb⟩ := kk
      exact ⟨_, rfl, _, _, rfl, rfl, (by unfold CDiv; omega), _, _, rfl, rfl, (by show (0 : Int) < 4; decide), l, _, _, _, rfl, rfl, SqL.of f4, hi, m, dm, _, "cut", v, .non, rfl, u14 _ _ hmm, lk, .inr (.inr ⟨rfl, .inr ⟨m, v, rfl, hb, fun H' s => rf H' (u14.trans s)⟩⟩)⟩
    · obtain ⟨r, hr1, hr11⟩ : ∃ r : Nat, n / 4 % 11 = (r : Int) ∧ r < 11 := ⟨(n / 4 % 11).toNat, by omega, by omega⟩
      obtain ⟨o, q, th, ys, ho, hG, hq, bad⟩ := key r hr11
      have hat : atI ([V.ref o0, V.ref o1, V.ref o2, V.ref o3, V.ref o4, V.ref o5] ++ [V.ref o6, V.ref o7, V.ref o8, V.ref o9, V.ref o10]) (n / 4 % 11) = some (.ref o) := by rw [hr1]; exact atI_nat (j := r) ho
      exact ⟨_, rfl, _, rfl, _, rfl, _, _, rfl, rfl, (by unfold CDiv; omega), _, _, rfl, rfl, (by show (0 : Int) < 11; decide), l3, _, _, _, rfl, rfl, SqL.of e3, hat, o, _, 0, _, rfl, rfl, SqT.of hG, rfl, _, rfl, _, rfl, _, _, rfl, rfl, (by unfold CDiv; omega), _, _, rfl, rfl, (by show (0 : Int) < 11; decide), l3, _, _, _, rfl, rfl, SqL.of e3, hat, o, _, 1, _, rfl, rfl, SqT.of hG, rfl, m, dm, _, "access", .int th, .ref q, rfl, hmm, lk, .inl ⟨rfl, .inr ⟨m, q, th, A0, X, ys, rfl, DG, hq, bad, rf G (Same.refl G)⟩⟩⟩
end
end Dk

set_option maxHeartbeats 4000000
/-! a tuple has one reading -/
namespace Dk
open PySem PySem.Spec PyProof.Rows L2
def Uq (K : PySem.W.Frag) (H : Hp) : Prop := ∀ a xs ys, SqT K H a xs → SqT K H a ys → xs = ys
theorem rd_one {H : Hp} {a : Addr} {xs ys : List V} (h : Rd H a (.tup xs)) (h' : Rd H a (.tup ys)) : xs = ys := by
  rcases h with h | ⟨o, h⟩
  · rcases h' with h' | ⟨o', h'⟩
    · rw [h] at h'
      cases h'
      rfl
    · rw [h] at h'
      cases h'
  · rcases h' with h' | ⟨o', h'⟩
    · rw [h] at h'
      cases h'
    · rw [h] at h'
      cases h'
      rfl
/-- where a def is asked, what the law's own module holds stands apart from what is tracked: so each tuple has one reading -/
theorem uq_of {P : Program} {w : World} {K : PySem.W.Frag} {mg : Str → Option Value} {base : Heap} {A : Around} {outer : List Env} {s : Shared} {H : Hp} (e0 : Env0 P w K mg base A outer s H) : Uq K H := by
  have apart : ∀ a o, K.lookup a = some o → H a = none := fun a o h => (e0.bs a o (e0.mod.kin a o h)).2
  have no : ∀ {a : Addr} {xs : List V} {o : Obj}, Rd H a (.tup xs) → K.lookup a = some o → False := fun {a xs o} r h => by
    have := apart _ _ h
    rcases r with r | ⟨o', r⟩ <;> (rw [this] at r; cases r)
  intro a xs ys h h'
  rcases h with h | ⟨o, its, n, hk, hc, hd, hz, r⟩
  · rcases h' with h' | ⟨o', its', n', hk', _⟩
    · exact rd_one h h'
    · exact (no h hk').elim
  · rcases h' with h' | ⟨o', its', n', hk', hc', hd', hz', r'⟩
    · exact (no h' hk).elim
    · rw [hk] at hk'
      cases hk'
      rw [hd] at hd'
      injection hd' with d1 _
      subst d1
      exact r.inj r'
theorem FnR.uq {P : Program} {w : World} {K : PySem.W.Frag} {mg : Str → Option Value} {base : Heap} {CX : CXT} {k : Nat} {f : Addr} {sp : Sp} (F : FnR P w K mg base CX k f sp) : FnR P w K mg base CX k f (fun vs H Q E => Uq K H → sp vs H Q E) :=
  fun A outer s H us vs Q E hr e0 r hs => F A outer s H us vs Q E hr e0 r (hs (uq_of e0))
mutual
theorem DV.one {K : PySem.W.Frag} {H : Hp} (u : Uq K H) : ∀ (t : Tr) (v : V) (t' : Tr), DV K H v t → DV K H v t' → t = t'
  | .sc _, _, t', h, h' => by
    cases h with
    | sc e =>
      cases h' with
      | sc e' => rfl
      | tup q d => cases e
  | .tup l, _, t', h, h' => by
    cases h with
    | tup q d =>
      cases h' with
      | sc e' => cases e'
      | @tup _ xs' l' q' d' =>
        have := u _ _ _ q q'
        subst this
        rw [DVs.one u l _ l' d d']
theorem DVs.one {K : PySem.W.Frag} {H : Hp} (u : Uq K H) : ∀ (l : List Tr) (xs : List V) (l' : List Tr), DVs K H xs l → DVs K H xs l' → l = l'
  | [], _, l', h, h' => by
    cases h
    cases h'
    rfl
  | t :: l, _, l', h, h' => by
    cases h with
    | cons d e =>
      cases h' with
      | cons d' e' => rw [DV.one u t _ _ d d', DVs.one u l _ _ e e']
end
end Dk

set_option maxHeartbeats 4000000
/-! the memory and the law's lists are alike -/
namespace Dk
open PySem PySem.Spec PyProof.Rows L2
theorem fnOk_uq {P : Program} {w : World} {K : PySem.W.Frag} {mg : Str → Option Value} {base : Heap} {CX : CXT} {k : Nat} {f : Addr} {fd : FuncData} {ps : List Str} {sp : Sp} (F : FnOk P w K mg base CX k f fd ps sp) : FnOk P w K mg base CX k f fd ps (fun vs H Q E => vs.length = ps.length ∧ (Uq K H → sp vs H Q E)) :=
  ⟨fun vs H Q E h => h.1, fun A outer s H args us vs Q E hr e0 hb hv hs => F.run A outer s H args us vs Q E hr e0 hb hv (hs.2 (uq_of e0))⟩
theorem go_uq {P : Program} {w : World} {K : PySem.W.Frag} {mg : Str → Option Value} {base : Heap} {CX : CXT} {k : Nat} {x : Str} {ps : List Str} {sp : Sp} (G : GO P w K mg base CX k x ps sp) : GO P w K mg base CX k x ps (fun vs H Q E => vs.length = ps.length ∧ (Uq K H → sp vs H Q E)) := by
  obtain ⟨f, fd, F, a, b, c⟩ := G
  exact ⟨f, fd, fnOk_uq F, a, b, c⟩
theorem nkv_inj {t : Nat} : ∀ {l m : List (Nat × Int)}, nkv t l = nkv t m → l = m
  | [], [], _ => rfl
  | [], _ :: _, h => by cases h
  | _ :: _, [], h => by cases h
  | p :: l, q :: m, h => by
    have h : ((Sum.inl ((1 + t + p.1 : Nat) : Int) : Key), V.int p.2) :: nkv t l = ((Sum.inl ((1 + t + q.1 : Nat) : Int) : Key), V.int q.2) :: nkv t m := h
    obtain ⟨h1, h2⟩ := List.cons.inj h
    have e1 := Sum.inl.inj (Prod.mk.inj h1).1
    have e2 := V.int.inj (Prod.mk.inj h1).2
    rw [nkv_inj h2, show p = q from Prod.ext (by omega) e2]
/-- the law's note of a place -/
def nf (lost : Nat → Int) (p : Nat × Int) : Nat × Int := (p.1, max 0 (p.2 - lost p.1))
structure Rel (K : PySem.W.Frag) (H : Hp) (X : MS) (T : Nat → List V) (N : Nat → List (Nat × Int)) : Prop where
  psl : X.ps.length = 3
  tw : ∀ c, c < 13 → Twin K H (memT X c) (T c)
  nt : ∀ th, th < 2 → ∃ l, X.notes[th]? = some (nkv 2 l) ∧ (l.map (·.1)).Nodup ∧ (∀ p ∈ l, p.1 < 10) ∧ N th = l.map (nf X.lost)
abbrev Lg (X : MS) (x : V) : MS := (X.withCount (X.count + 1)).withLog (X.log ++ [x])
section
variable {K : PySem.W.Frag} {H H' : Hp} {X : MS} {T : Nat → List V} {N : Nat → List (Nat × Int)}
theorem Rel.ext (R : Rel K H X T N) (x : ExT H H') : Rel K H' X T N := ⟨R.psl, fun c hc => (R.tw c hc).ext x, R.nt⟩
theorem Rel.eqT {T' : Nat → List V} (R : Rel K H X T N) (e : ∀ c, c < 13 → T' c = T c) : Rel K H X T' N := ⟨R.psl, fun c hc => by rw [e c hc]; exact R.tw c hc, R.nt⟩
theorem Rel.eqN {N' : Nat → List (Nat × Int)} (R : Rel K H X T N) (e : ∀ t, t < 2 → N' t = N t) : Rel K H X T N' := ⟨R.psl, R.tw, fun t ht => by rw [e t ht]; exact R.nt t ht⟩
theorem Rel.lg (R : Rel K H X T N) (x : V) : Rel K H (Lg X x) T N := ⟨R.psl, R.tw, R.nt⟩
theorem Rel.ok (R : Rel K H X T N) : NtOk (N 0) ∧ NtOk (N 1) := by
  have key : ∀ th, th < 2 → NtOk (N th) := fun th ht => by
    obtain ⟨l, _, nd, h10, e⟩ := R.nt th ht
    rw [e]
    refine ⟨?_, fun p hp => ?_⟩
    · rw [List.map_map]
      exact nd
    · obtain ⟨q, hq, rfl⟩ := List.mem_map.mp hp
      exact ⟨by show 0 ≤ max 0 _; omega, h10 q hq⟩
  exact ⟨key 0 (by decide), key 1 (by decide)⟩
theorem cutN_max {n : Nat} {x : Int} : cutN n (max 0 x) = cutN n x := by
  unfold cutN
  omega
theorem memT_lo {c : Nat} (h : c < 3) : memT X c = [X.ps.getD c .non] := if_pos h
theorem memT_hi {j : Nat} : memT X (1 + 2 + j) = X.tr j := by
  unfold memT
  rw [if_neg (by omega), show 1 + 2 + j - 3 = j by omega]
/-- a drift -/
theorem Rel.short (R : Rel K H X T N) {j : Nat} (hj : j < 10) (k : Int) : Rel K H (X.short j k) (sett T (1 + 2 + j) ((T (1 + 2 + j)).drop (cutN (T (1 + 2 + j)).length k))) (fun t => decN j ((cutN (T (1 + 2 + j)).length k : Nat) : Int) (N t)) := by
  have hlen : (X.tr j).length = (T (1 + 2 + j)).length := by
    have := (R.tw (1 + 2 + j) (by omega)).len
    rwa [memT_hi] at this
  refine ⟨R.psl, fun c hc => ?_, fun th ht => ?_⟩
  · by_cases e : c = 1 + 2 + j
    · subst e
      rw [sett_same, memT_hi]
      show Twin K H (sett X.tr j ((X.tr j).drop (cutN (X.tr j).length k)) j) _
      rw [sett_same, hlen]
      have := (R.tw (1 + 2 + j) hc).drop (cutN (T (1 + 2 + j)).length k)
      rwa [memT_hi] at this
    · rw [sett_ne e]
      have : memT (X.short j k) c = memT X c := by
        unfold memT
        by_cases c3 : c < 3
        · rw [if_pos c3, if_pos c3]; rfl
        · rw [if_neg c3, if_neg c3]
          show sett X.tr j _ (c - 3) = _
          rw [sett_ne (by omega)]
      rw [this]
      exact R.tw c hc
  · obtain ⟨l, h1, h2, h3, h4⟩ := R.nt th ht
    refine ⟨l, h1, h2, h3, ?_⟩
    show decN j _ (N th) = l.map (nf (setl X.lost j (X.lost j + (cutN (X.tr j).length k : Nat))))
    rw [h4, hlen]
    unfold decN
    rw [List.map_map]
    refine List.map_congr_left fun p _ => ?_
    show (if p.1 = j then (p.1, max 0 (max 0 (p.2 - X.lost p.1) - _)) else (p.1, max 0 (p.2 - X.lost p.1))) = (p.1, max 0 (p.2 - setl X.lost j _ p.1))
    unfold setl
    by_cases e : p.1 = j
    · rw [if_pos e, if_pos e, e]
      exact Prod.ext rfl (by show max 0 (max 0 _ - _) = max 0 _; omega)
    · rw [if_neg e, if_neg e]
/-- a value is given to a cell -/
theorem Rel.give (R : Rel K H X T N) {c : Nat} (hc : c < 13) {v v' : V} {t : Tr} (d : DV K H v t) (d' : DV K H v' t) (f : Fine t) : Rel K H (X.give 2 c v) (giveT T c v') N := by
  have hl : (X.give 2 c v).lost = X.lost ∧ (X.give 2 c v).notes = X.notes := by
    unfold MS.give
    split <;> exact ⟨rfl, rfl⟩
  refine ⟨?_, fun e he => ?_, fun th ht => ?_⟩
  · unfold MS.give
    split
    · show (X.ps.set c v).length = 3
      rw [List.length_set]; exact R.psl
    · exact R.psl
  · unfold giveT
    by_cases q : e = c
    · subst q
      rw [sett_same]
      by_cases e3 : e < 3
      · rw [if_pos e3, memT_lo e3]
        have : (X.give 2 e v).ps.getD e .non = v := by
          unfold MS.give
          rw [if_pos (by omega)]
          show (X.ps.set e v).getD e .non = v
          rw [List.getD_eq_getElem?_getD, List.getElem?_set, if_pos rfl, if_pos (by rw [R.psl]; exact e3)]
          rfl
        rw [this]
        exact .one d d' f
      · rw [if_neg e3]
        have : memT (X.give 2 e v) e = memT X e ++ [v] := by
          unfold memT MS.give
          rw [if_neg e3, if_neg e3, if_neg (by omega)]
          show sett X.tr (e - (1 + 2)) (X.tr (e - (1 + 2)) ++ [v]) (e - 3) = _
          rw [show e - (1 + 2) = e - 3 by omega, sett_same]
        rw [this]
        exact (R.tw e he).app d d' f
    · rw [sett_ne q]
      have : memT (X.give 2 c v) e = memT X e := by
        unfold memT MS.give
        by_cases e3 : e < 3
        · rw [if_pos e3, if_pos e3]
          by_cases c3 : c < 1 + 2
          · rw [if_pos c3]
            show [(X.ps.set c v).getD e .non] = _
            rw [List.getD_eq_getElem?_getD, List.getElem?_set, if_neg (fun z => q z.symm), ← List.getD_eq_getElem?_getD]
          · rw [if_neg c3]; rfl
        · rw [if_neg e3, if_neg e3]
          by_cases c3 : c < 1 + 2
          · rw [if_pos c3]; rfl
          · rw [if_neg c3]
            show sett X.tr (c - (1 + 2)) _ (e - 3) = _
            rw [sett_ne (by omega)]
      rw [this]
      exact R.tw e he
  · rw [hl.1, hl.2]
    exact R.nt th ht
theorem putN_map {l : List (Nat × Int)} {lost : Nat → Int} {j : Nat} {n : Int} (hn : 0 ≤ n) : (putN l j (lost j + n)).map (nf lost) = putN (l.map (nf lost)) j n := by
  have ha : ((l.map (nf lost)).any fun p => decide (p.1 = j)) = (l.any fun p => decide (p.1 = j)) := by
    rw [List.any_map]
    rfl
  unfold putN
  rw [ha]
  by_cases c : (l.any fun p => decide (p.1 = j)) = true
  · rw [if_pos c, if_pos c, List.map_map, List.map_map]
    refine List.map_congr_left fun p _ => ?_
    show nf lost (if p.1 = j then (p.1, lost j + n) else p) = if p.1 = j then (p.1, n) else nf lost p
    by_cases e : p.1 = j
    · rw [if_pos e, if_pos e]
      unfold nf
      exact Prod.ext rfl (by show max 0 (lost j + n - lost p.1) = n; rw [e]; omega)
    · rw [if_neg e, if_neg e]
  · rw [if_neg c, if_neg c, List.map_append]
    show _ ++ [nf lost (j, lost j + n)] = _
    rw [show nf lost (j, lost j + n) = (j, n) from Prod.ext rfl (by show max 0 (lost j + n - lost j) = n; omega)]
theorem putN_keys {l : List (Nat × Int)} {j : Nat} {x : Int} (nd : (l.map (·.1)).Nodup) : ((putN l j x).map (·.1)).Nodup := by
  unfold putN
  by_cases c : (l.any fun p => decide (p.1 = j)) = true
  · rw [if_pos c, List.map_map]
    have : l.map ((fun p : Nat × Int => p.1) ∘ fun p => if p.1 = j then (p.1, x) else p) = l.map (·.1) := List.map_congr_left fun p _ => by
      show (if p.1 = j then (p.1, x) else p).1 = p.1
      split <;> rfl
    rw [this]
    exact nd
  · rw [if_neg c, List.map_append]
    have hj : j ∉ l.map (·.1) := fun h => by
      obtain ⟨p, hp, e⟩ := List.mem_map.mp h
      exact c (List.any_eq_true.mpr ⟨p, hp, decide_eq_true e⟩)
    refine List.nodup_append.mpr ⟨nd, by simp, fun a ha b hb => ?_⟩
    rw [List.mem_singleton.mp hb]
    exact fun (e : a = j) => hj (e ▸ ha)
/-- a flush -/
theorem Rel.flush (R : Rel K H X T N) {th i : Nat} (ht : th < 2) (hi : 1 + 2 ≤ i ∧ i < 13) {l : List (Nat × Int)} (hl : X.notes[th]? = some (nkv 2 l)) (hne : T i ≠ []) : Rel K H (X.withNotes (X.notes.set th (nkv 2 (putN l (i - (1 + 2)) (X.lost (i - (1 + 2)) + ((X.tr (i - (1 + 2))).length : Int) - 1))))) T (setNn N th (putN (N th) (i - 3) (((T i).length : Int) - 1))) := by
  have hlen : (X.tr (i - (1 + 2))).length = (T i).length := by
    have := (R.tw i hi.2).len
    rw [show i = 1 + 2 + (i - (1 + 2)) by omega, memT_hi] at this
    rw [this, show 1 + 2 + (i - (1 + 2)) = i by omega]
  have hpos : 0 < (T i).length := List.length_pos_iff.mpr hne
  refine ⟨R.psl, R.tw, fun t h2 => ?_⟩
  obtain ⟨l', h1, nd, h10, e⟩ := R.nt t h2
  by_cases q : t = th
  · subst q
    rw [hl] at h1
    have := nkv_inj (Option.some.inj h1)
    subst this
    refine ⟨_, List.getElem?_set_self (List.getElem?_eq_some_iff.mp hl).1, putN_keys nd, putN_mem h10 (by omega), ?_⟩
    show setNn N t _ t = _
    unfold setNn
    rw [if_pos rfl, e, show i - 3 = i - (1 + 2) from rfl, hlen]
    show _ = (putN l (i - (1 + 2)) (X.lost (i - (1 + 2)) + ((T i).length : Int) - 1)).map (nf X.lost)
    rw [show X.lost (i - (1 + 2)) + ((T i).length : Int) - 1 = X.lost (i - (1 + 2)) + (((T i).length : Int) - 1) by omega, putN_map (by omega)]
  · refine ⟨l', ?_, nd, h10, ?_⟩
    · show (X.notes.set th _)[t]? = _
      rw [List.getElem?_set_ne (fun z => q z.symm)]
      exact h1
    · unfold setNn
      rw [if_neg q]
      exact e
theorem fence_notes : ∀ {l : List (Nat × Int)} {S : MS}, (fenceS S l).notes = S.notes ∧ (fenceS S l).ps = S.ps
  | [], _ => ⟨rfl, rfl⟩
  | p :: l, S => fence_notes (l := l) (S := S.short p.1 (p.2 - S.lost p.1))
theorem fence_off {j : Nat} : ∀ {l : List (Nat × Int)} {S : MS}, j ∉ l.map (·.1) → (fenceS S l).tr j = S.tr j ∧ (fenceS S l).lost j = S.lost j
  | [], _, _ => ⟨rfl, rfl⟩
  | p :: l, S, h => by
    have h1 : j ≠ p.1 := fun z => h (by rw [z]; exact List.mem_cons_self)
    have ih := fence_off (l := l) (S := S.short p.1 (p.2 - S.lost p.1)) fun z => h (List.mem_cons_of_mem _ z)
    refine ⟨ih.1.trans ?_, ih.2.trans ?_⟩
    · show sett S.tr p.1 _ j = _
      exact sett_ne h1
    · show setl S.lost p.1 _ j = _
      unfold setl
      rw [if_neg h1]
theorem fence_on {j : Nat} {pl : Int} : ∀ {l : List (Nat × Int)} {S : MS}, (l.map (·.1)).Nodup → (j, pl) ∈ l → (fenceS S l).tr j = (S.tr j).drop (cutN (S.tr j).length (pl - S.lost j)) ∧ (fenceS S l).lost j = S.lost j + (cutN (S.tr j).length (pl - S.lost j) : Nat)
  | [], _, _, h => by cases h
  | p :: l, S, nd, h => by
    have nd' : p.1 ∉ l.map (·.1) ∧ (l.map (·.1)).Nodup := List.nodup_cons.mp nd
    rcases List.mem_cons.mp h with e | h
    · subst e
      have ih := fence_off (l := l) (S := S.short j (pl - S.lost j)) nd'.1
      refine ⟨ih.1.trans ?_, ih.2.trans ?_⟩
      · show sett S.tr j _ j = _
        exact sett_same
      · show setl S.lost j _ j = _
        unfold setl
        rw [if_pos rfl]
    · have hne : j ≠ p.1 := fun z => nd'.1 (by rw [← z]; exact List.mem_map.mpr ⟨_, h, rfl⟩)
      have ih := fence_on (l := l) (S := S.short p.1 (p.2 - S.lost p.1)) nd'.2 h
      have e1 : (S.short p.1 (p.2 - S.lost p.1)).tr j = S.tr j := sett_ne hne
      have e2 : (S.short p.1 (p.2 - S.lost p.1)).lost j = S.lost j := by
        show setl S.lost p.1 _ j = _
        unfold setl
        rw [if_neg hne]
      rw [e1, e2] at ih
      exact ih
theorem getN_nf {l : List (Nat × Int)} {lost : Nat → Int} {j : Nat} : getN (l.map (nf lost)) j = (getN l j).map fun x => max 0 (x - lost j) := by
  induction l with
  | nil => rfl
  | cons p l ih =>
    unfold getN at ih ⊢
    rw [List.map_cons, List.find?_cons, List.find?_cons]
    by_cases e : p.1 = j
    · rw [show decide ((nf lost p).1 = j) = true from decide_eq_true e, show decide (p.1 = j) = true from decide_eq_true e]
      show some (max 0 (p.2 - lost p.1)) = some (max 0 (p.2 - lost j))
      rw [e]
    · rw [show decide ((nf lost p).1 = j) = false from decide_eq_false e, show decide (p.1 = j) = false from decide_eq_false e]
      exact ih
/-- a fence -/
theorem Rel.fence (R : Rel K H X T N) {th : Nat} (ht : th < 2) {l : List (Nat × Int)} (hl : X.notes[th]? = some (nkv 2 l)) : Rel K H (fenceS (X.withNotes (X.notes.set th [])) l) (fT (getN (N th)) T) (fun t => if t = th then [] else fN (getN (N th)) T (N t)) := by
  obtain ⟨l', h1, nd, h10, e⟩ := R.nt th ht
  rw [hl] at h1
  have := nkv_inj (Option.some.inj h1)
  subst this
  generalize hS : X.withNotes (X.notes.set th []) = S
  have st : S.tr = X.tr ∧ S.lost = X.lost ∧ S.ps = X.ps ∧ S.notes = X.notes.set th [] := by rw [← hS]; exact ⟨rfl, rfl, rfl, rfl⟩
  have hg : ∀ j, getN (N th) j = (getN l j).map fun x => max 0 (x - X.lost j) := fun j => by rw [e, getN_nf]
  have hlen : ∀ j, j < 10 → (X.tr j).length = (T (1 + 2 + j)).length := fun j hj => by
    have := (R.tw (1 + 2 + j) (by omega)).len
    rwa [memT_hi] at this
  have tr : ∀ j, j < 10 → (fenceS S l).tr j = cutO (X.tr j) (getN (N th) j) ∧ (fenceS S l).lost j = X.lost j + (match getN (N th) j with | none => 0 | some x => ((cutN (T (1 + 2 + j)).length x : Nat) : Int)) := fun j hj => by
    rw [hg j]
    cases h : getN l j with
    | none =>
      have := fence_off (l := l) (S := S) (j := j) fun z => by
        obtain ⟨p, hp, e⟩ := List.mem_map.mp z
        exact getN_none h p hp e
      rw [st.1, st.2.1] at this
      exact ⟨this.1, by rw [this.2]; show _ = _ + 0; omega⟩
    | some x =>
      have := fence_on (l := l) (S := S) nd (getN_some h)
      rw [st.1, st.2.1] at this
      refine ⟨?_, ?_⟩
      · rw [this.1]
        show _ = (X.tr j).drop (cutN (X.tr j).length (max 0 (x - X.lost j)))
        rw [cutN_max]
      · rw [this.2, hlen j hj]
        show _ = _ + ((cutN (T (1 + 2 + j)).length (max 0 (x - X.lost j)) : Nat) : Int)
        rw [cutN_max]
  refine ⟨?_, fun c hc => ?_, fun t h2 => ?_⟩
  · rw [(fence_notes (l := l) (S := S)).2, st.2.2.1]
    exact R.psl
  · unfold fT
    by_cases c3 : c < 3
    · rw [if_pos c3]
      have : memT (fenceS S l) c = memT X c := by
        rw [memT_lo c3, memT_lo c3, (fence_notes (l := l) (S := S)).2, st.2.2.1]
      rw [this]
      exact R.tw c hc
    · rw [if_neg c3]
      have hc2 : c = 1 + 2 + (c - 3) := by omega
      have tw := R.tw c hc
      rw [hc2, memT_hi] at tw ⊢
      rw [show 1 + 2 + (c - 3) - 3 = c - 3 by omega, (tr (c - 3) (by omega)).1]
      cases getN (N th) (c - 3) with
      | none => exact tw
      | some x =>
        show Twin K H ((X.tr (c - 3)).drop (cutN (X.tr (c - 3)).length x)) ((T (1 + 2 + (c - 3))).drop (cutN (T (1 + 2 + (c - 3))).length x))
        rw [hlen (c - 3) (by omega)]
        exact tw.drop _
  · rw [(fence_notes (l := l) (S := S)).1, st.2.2.2]
    by_cases q : t = th
    · subst q
      refine ⟨[], by rw [List.getElem?_set_self (List.getElem?_eq_some_iff.mp hl).1]; rfl, .nil, (fun p hp => by cases hp), ?_⟩
      rw [if_pos rfl]
      rfl
    · obtain ⟨m, m1, m2, m3, m4⟩ := R.nt t h2
      refine ⟨m, by rw [List.getElem?_set_ne (fun z => q z.symm)]; exact m1, m2, m3, ?_⟩
      rw [if_neg q, m4]
      unfold fN
      rw [List.map_map]
      refine List.map_congr_left fun p hp => ?_
      show decO _ (nf X.lost p) (getN (N th) p.1) = nf (fenceS S l).lost p
      unfold nf
      rw [(tr p.1 (m3 p hp)).2]
      cases getN (N th) p.1 with
      | none =>
        show (p.1, max 0 (p.2 - X.lost p.1)) = (p.1, max 0 (p.2 - (X.lost p.1 + 0)))
        rw [Int.add_zero]
      | some x =>
        show (p.1, max 0 (max 0 (p.2 - X.lost p.1) - ((cutN (T (1 + 2 + p.1)).length x : Nat) : Int))) = (p.1, max 0 (p.2 - (X.lost p.1 + ((cutN (T (1 + 2 + p.1)).length x : Nat) : Int))))
        exact Prod.ext rfl (by show max 0 (max 0 _ - _) = max 0 _; omega)
/-- a cut -/
theorem Rel.cut (R : Rel K H X T N) {ks : List Nat} {X' : MS} (hps : X'.ps = .int 0 :: List.replicate 2 .non) (hn : X'.notes = List.replicate 2 []) (ht : ∀ j, j < 10 → X'.tr j = (cutT X ks j).take 1) : Rel K H X' (cutAll ks T) (fun _ => []) := by
  refine ⟨by rw [hps]; rfl, fun c hc => ?_, fun t h2 => ⟨[], ?_, .nil, (fun p hp => by cases hp), rfl⟩⟩
  · unfold cutAll
    by_cases c0 : c = 0
    · subst c0
      rw [memT_lo (by decide), hps]
      exact .one (.sc (t := "int") rfl) (.sc (t := "int") rfl) (fine_int 0)
    · rw [if_neg c0]
      by_cases c3 : c < 3
      · rw [if_pos c3, memT_lo c3, hps]
        have : (V.int 0 :: List.replicate 2 V.non).getD c .non = .non := by
          have : c = 1 ∨ c = 2 := by omega
          rcases this with e | e <;> (subst e; rfl)
        rw [this]
        exact .one (.sc (t := "NoneType") rfl) (.sc (t := "NoneType") rfl) fine_non
      · rw [if_neg c3]
        have hc2 : c = 1 + 2 + (c - 3) := by omega
        have tw := R.tw c hc
        have hm : memT X' c = X'.tr (c - 3) := by unfold memT; rw [if_neg c3]
        have hm2 : memT X c = X.tr (c - 3) := by unfold memT; rw [if_neg c3]
        rw [hm, ht (c - 3) (by omega)]
        rw [hm2] at tw
        unfold cutT cutL
        rw [tw.len]
        exact (tw.drop _).take 1
  · rw [hn]
    have : t = 0 ∨ t = 1 := by omega
    rcases this with e | e <;> (subst e; rfl)
end
end Dk

set_option maxHeartbeats 4000000
/-! an access on both sides; the state of the law -/
namespace Dk
open PySem PySem.Spec PyProof.Rows L2
theorem and_use {t1 t2 : TT} {σ : L2.St} {H : Hp} {Kt : Bool → Hp → Prop} (b1 b2 : Bool) (h1 : ∀ K' : Bool → Hp → Prop, K' b1 H → t1 σ H K') (h2 : ∀ K' : Bool → Hp → Prop, K' b2 H → t2 σ H K') (h : Kt (b1 && b2) H) : tAnd t1 t2 σ H Kt := by
  refine h1 _ ?_
  cases b1 with
  | true => exact iteT (h2 _ h)
  | false => exact iteF h
theorem str_lay {z : Str} (h : z = "done" ∨ z = "failed") : (PyData.str z).canLay0 = true := by
  rcases h with rfl | rfl <;> decide +kernel
theorem rel_access {K : PySem.W.Frag} {H : Hp} {X X' : MS} {T T' : Nat → List V} {N N' : Nat → List (Nat × Int)} {th : Nat} {rq : Rq} {v v' x : V} (uq : Uq K H) (R : Rel K H X T N) (rs : Res K (Lg X x) 2 th H H rq v X') (du : Due K H H (X.count + 1) T N th v' T' N' rq) (ok : rq.ok 2 2 6) (fi : rq.fine K H) (ht : th < 2) (hne : ∀ c, c < 13 → T c ≠ []) :
    (∃ t, DV K H v t ∧ DV K H v' t ∧ t.ok) ∧ Rel K H X' T' N' := by
  have RL := R.lg x
  have lastT : ∀ i, i < 13 → ∀ p, cellV (Lg X x) 2 i = some p → ∀ p', (T i).getLast? = some p' → ∃ t, DV K H p t ∧ DV K H p' t ∧ Fine t := fun i hi p hp p' hp' => by
    have hp : cellV X 2 i = some p := hp
    rw [memT_last R.psl] at hp
    obtain ⟨y, t, h1, h2, h3, h4⟩ := (R.tw i hi).last hp
    rw [hp'] at h1
    cases h1
    exact ⟨t, h2, h3, h4⟩
  have non : ∃ t, DV K H .non t ∧ DV K H .non t ∧ t.ok := ⟨.sc .non, .sc (t := "NoneType") rfl, .sc (t := "NoneType") rfl, rfl⟩
  have bl : ∀ b : Bool, ∃ t, DV K H (.bl b) t ∧ DV K H (.bl b) t ∧ t.ok := fun b => ⟨.sc (.bl b), .sc (t := "bool") rfl, .sc (t := "bool") rfl, rfl⟩
  cases rq with
  | read i =>
    obtain ⟨h1, rfl⟩ := rs
    obtain ⟨d1, rfl, rfl⟩ := du
    obtain ⟨t, a, b, c⟩ := lastT i ok v h1 v' d1
    exact ⟨⟨t, a, b, c.o⟩, RL⟩
  | write i y =>
    obtain ⟨rfl, rfl⟩ := rs
    obtain ⟨rfl, rfl, rfl⟩ := du
    obtain ⟨t, a, b⟩ := fi
    exact ⟨non, RL.give ok a a b⟩
  | swap i o n =>
    obtain ⟨p, tp, to, h1, h2, h3, h4⟩ := rs
    obtain ⟨p', tp', to', d1, d2, d3, d4, rfl⟩ := du
    obtain ⟨⟨t1, f1, f2⟩, t2, f3, f4⟩ := fi
    obtain ⟨t, a, b, c⟩ := lastT i ok p h1 p' d1
    have e1 := DV.one uq _ _ _ h2.d a
    have e2 := DV.one uq _ _ _ d2 b
    have e3 := DV.one uq _ _ _ h3.d d3
    subst e1
    subst e2
    subst e3
    rcases h4 with ⟨q, rfl, rfl⟩ | ⟨q, rfl, rfl⟩
    · rcases d4 with ⟨_, rfl, rfl⟩ | ⟨q', _⟩
      · exact ⟨bl true, RL.give ok f3 f3 f4⟩
      · exact absurd q q'
    · rcases d4 with ⟨q', _⟩ | ⟨_, rfl, rfl⟩
      · exact absurd q' q
      · exact ⟨bl false, RL⟩
  | decide i z =>
    obtain ⟨p, tp, h1, h2, h4⟩ := rs
    obtain ⟨p', tp', d1, d2, d4, rfl⟩ := du
    obtain ⟨t, a, b, c⟩ := lastT i ok p h1 p' d1
    have e1 := DV.one uq _ _ _ h2.d a
    have e2 := DV.one uq _ _ _ d2 b
    subst e1
    subst e2
    rcases h4 with ⟨q, rfl, w, hw, rfl⟩ | ⟨q, rfl, rfl⟩
    · rcases d4 with ⟨_, rfl, u, hu, rfl⟩ | ⟨q', _⟩
      · exact ⟨bl true, RL.give ok (dv_si hw) (dv_si hu) (fine_si (str_lay fi) _)⟩
      · exact absurd q q'
    · rcases d4 with ⟨q', _⟩ | ⟨_, rfl, rfl⟩
      · exact absurd q' q
      · exact ⟨bl false, RL⟩
  | flush i =>
    obtain ⟨rfl, l, h1, rfl⟩ := rs
    obtain ⟨rfl, rfl, rfl⟩ := du
    have ok : 1 + 2 ≤ i ∧ i < 13 := ok
    exact ⟨non, RL.flush ht ok h1 (hne i ok.2)⟩
  | fence =>
    obtain ⟨rfl, l, h1, rfl⟩ := rs
    obtain ⟨rfl, rfl, rfl⟩ := du
    exact ⟨non, RL.fence ht h1⟩
theorem foot_some {C M : Addr} {H : Hp} {m : Addr} {t w r : Nat} {A : Adr} {S : MS} (D : MemAt C M H m t w r A S) {b : Addr} (hb : Foot m A (t + w + r) b) : ∃ u, H b = some u := by
  obtain ⟨dx, h1⟩ := D.ob
  rcases hb with q | q | q | q | q | q | ⟨j, hj, q⟩ | q
  · exact ⟨_, q ▸ h1⟩
  · exact ⟨_, q ▸ D.ps⟩
  · exact ⟨_, q ▸ D.tr.d⟩
  · exact ⟨_, q ▸ D.ld⟩
  · exact ⟨_, q ▸ D.nl⟩
  · exact ⟨_, q ▸ D.gl⟩
  · exact ⟨_, q ▸ D.tr.l j hj⟩
  · obtain ⟨z, hz⟩ := List.getElem?_of_mem q
    obtain ⟨ns, _, e2⟩ := D.no z b hz
    exact ⟨_, e2⟩
theorem MemAt.on {C M : Addr} {H H' : Hp} {m : Addr} {t w r : Nat} {A : Adr} {S : MS} (D : MemAt C M H m t w r A S) (f : ∀ c o, H c = some o → Foot m A (t + w + r) c → H' c = some o) (g : ∀ o, H A.a = some o → H' A.a = some o) : MemAt C M H' m t w r A S := by
  obtain ⟨dx, ho⟩ := D.ob
  obtain ⟨da, hlay⟩ := D.lay
  exact ⟨⟨dx, f _ _ ho (.inl rfl)⟩, ⟨da, g _ hlay⟩, f _ _ D.ps (.inr (.inl rfl)), ⟨f _ _ D.tr.d (.inr (.inr (.inl rfl))), fun j hj => f _ _ (D.tr.l j hj) (.inr (.inr (.inr (.inr (.inr (.inr (.inl ⟨j, hj, rfl⟩))))))), D.tr.inj⟩, f _ _ D.ld (.inr (.inr (.inr (.inl rfl)))),
    f _ _ D.nl (.inr (.inr (.inr (.inr (.inl rfl))))), D.nn, D.nd, fun i c hc => let ⟨ns, e1, e2⟩ := D.no i c hc; ⟨ns, e1, f _ _ e2 (.inr (.inr (.inr (.inr (.inr (.inr (.inr (List.mem_of_getElem? hc))))))))⟩, f _ _ D.gl (.inr (.inr (.inr (.inr (.inr (.inl rfl)))))), D.d1, D.d2, D.d3, D.d4, D.d5⟩
def Mv (Z : Addr → Prop) (H : Hp) (Z' : Addr → Prop) (H' : Hp) : Prop := ∀ b o, H b = some o → ¬ Z b → H' b = some o ∧ ¬ Z' b
theorem Mv.trans {Z Z1 Z2 : Addr → Prop} {H H1 H2 : Hp} (a : Mv Z H Z1 H1) (b : Mv Z1 H1 Z2 H2) : Mv Z H Z2 H2 := fun c o h n => let ⟨h1, n1⟩ := a c o h n; b c o h1 n1
theorem Mv.same {Z : Addr → Prop} {H H' : Hp} (s : Same H H') : Mv Z H Z H' := fun c o h n => ⟨s c o h, n⟩
def ZZ (m : Addr) (A : Adr) (W : WA) (b : Addr) : Prop := Foot m A 10 b ∨ WOwn W b
theorem ins_own {H : Hp} {W : WA} {cnt : Int} {T : Nat → List V} {N : Nat → List (Nat × Int)} (R : WAt H W cnt T N) {b C dx : Addr} {fs : List (Str × V)} (h : H b = some (.ins C dx fs)) : ¬ WOwn W b := fun o => by
  rcases o with q | q | q | q | q | ⟨c, hc, q⟩
  · rw [q, R.wd] at h; cases h
  · rw [q, R.tl] at h; cases h
  · rw [q, R.nl] at h; cases h
  · rw [q, R.n0] at h; cases h
  · rw [q, R.n1] at h; cases h
  · rw [q, R.tc c hc] at h; cases h
/-- memory and lists, side by side -/
structure Sd (C M : Addr) (H : Hp) (m : Addr) (W : WA) (A : Adr) (X : MS) (cnt : Int) (T : Nat → List V) (N : Nat → List (Nat × Int)) : Prop where
  D : MemAt C M H m 2 2 6 A X
  R : WAt H W cnt T N
  dj : ∀ b, WOwn W b → ¬ Foot m A 10 b
section
variable {K : PySem.W.Frag} {C M : Addr} {H H' : Hp} {m : Addr} {W W' : WA} {A A' : Adr} {X X' : MS} {cnt cnt' : Int} {T T' : Nat → List V} {N N' : Nat → List (Nat × Int)}
theorem Sd.same (s : Sd C M H m W A X cnt T N) (h : Same H H') : Sd C M H' m W A X cnt T N := ⟨s.D.same h, s.R.same h, s.dj⟩
/-- the lists change -/
theorem Sd.lst (s : Sd C M H m W A X cnt T N) (R' : WAt H' W' cnt' T' N') (z : Zst (WOwn W) H (WOwn W') H') : Sd C M H' m W' A X cnt' T' N' ∧ Mv (ZZ m A W) H (ZZ m A W') H' := by
  obtain ⟨da, hla⟩ := s.D.lay
  refine ⟨⟨s.D.on (fun c o e hf => z.1 c o e fun h => s.dj c h hf) (fun o e => z.1 _ _ e (ins_own s.R hla)), R', fun b hb hf => ?_⟩, fun b o e n => ⟨z.1 b o e fun h => n (.inr h), fun h => ?_⟩⟩
  · rcases z.2 b hb with h | h
    · exact s.dj b h hf
    · obtain ⟨u, hu⟩ := foot_some s.D hf
      rw [h] at hu; cases hu
  · rcases h with h | h
    · exact n (.inl h)
    · rcases z.2 b h with h | h
      · exact n (.inr h)
      · rw [h] at e; cases e
/-- the memory changes -/
theorem Sd.mem (s : Sd C M H m W A X cnt T N) (D' : MemAt C M H' m 2 2 6 A' X') (st : Step m 10 A H A' H') : Sd C M H' m W A' X' cnt T N ∧ Mv (ZZ m A W) H (ZZ m A' W) H' := by
  refine ⟨⟨D', s.R.on fun b o e h => st.chg b o e (s.dj b h), fun b hb hf => ?_⟩, fun b o e n => ⟨st.chg b o e fun h => n (.inl h), fun h => ?_⟩⟩
  · rcases st.foot b hf with h | h
    · exact s.dj b hb h
    · obtain ⟨u, hu⟩ := s.R.al hb
      rw [h] at hu; cases hu
  · rcases h with h | h
    · rcases st.foot b h with h | h
      · exact n (.inl h)
      · rw [h] at e; cases e
    · exact n (.inr h)
/-- the count goes on -/
theorem WAt.put1 (R : WAt H W cnt T N) (c : Int) : WAt (upd H W.wd (.dK [(Sum.inr "count", .int c), (Sum.inr "trails", .ref W.tl), (Sum.inr "notes", .ref W.nl)])) W c T N ∧ Zst (WOwn W) H (WOwn W) (upd H W.wd (.dK [(Sum.inr "count", .int c), (Sum.inr "trails", .ref W.tl), (Sum.inr "notes", .ref W.nl)])) := by
  have o : ∀ {b : Addr} {u : HO}, H b = some u → b ≠ W.wd → upd H W.wd (.dK [(Sum.inr "count", .int c), (Sum.inr "trails", .ref W.tl), (Sum.inr "notes", .ref W.nl)]) b = some u := fun {b u} e n => by rw [upd_ne n]; exact e
  refine ⟨⟨upd_same, o R.tl (ne_of R.tl R.wd (by intro z; cases z)), o R.nl (ne_of R.nl R.wd (by intro z; cases z)), fun e he => o (R.tc e he) (ne_of (R.tc e he) R.wd (by intro z; cases z)), o R.n0 R.d3.2.1.symm, o R.n1 R.d3.2.2.symm, R.d1, R.d2, R.d3⟩, fun b u e nb => o e fun z => nb (.inl z), fun b h => .inl h⟩
end
theorem fine_vals {K : PySem.W.Frag} {H : Hp} {rq : Rq} (h : rq.fine K H) : rq.vals K H := by
  cases rq with
  | write i v => exact let ⟨t, a, b⟩ := h; ⟨t, b.dvl a⟩
  | swap i o n => exact let ⟨⟨t, a, b⟩, u, c, d⟩ := h; ⟨⟨t, b.dvl a⟩, u, d.dvl c⟩
  | _ => trivial
theorem fine_ext {K : PySem.W.Frag} {H H' : Hp} {rq : Rq} (h : rq.fine K H) (x : ExT H H') : rq.fine K H' := by
  cases rq with
  | write i v => exact let ⟨t, a, b⟩ := h; ⟨t, DV.extT x _ _ a, b⟩
  | swap i o n => exact let ⟨⟨t, a, b⟩, u, c, d⟩ := h; ⟨⟨t, DV.extT x _ _ a, b⟩, u, DV.extT x _ _ c, d⟩
  | decide i z => exact h
  | _ => trivial
theorem due_ext {K : PySem.W.Frag} {H H' : Hp} {cnt : Int} {T T' : Nat → List V} {N N' : Nat → List (Nat × Int)} {th : Nat} {v : V} {rq : Rq} (h : Due K H H cnt T N th v T' N' rq) (x : ExT H H') : Due K H' H' cnt T N th v T' N' rq := by
  cases rq with
  | swap i o n =>
    obtain ⟨p, tp, to, a, b, c, d⟩ := h
    exact ⟨p, tp, to, a, DV.extT x _ _ b, DV.extT x _ _ c, d⟩
  | decide i z =>
    obtain ⟨p, tp, a, b, c, d⟩ := h
    refine ⟨p, tp, a, DV.extT x _ _ b, ?_, d⟩
    rcases c with ⟨q, r, u, hu, e⟩ | c
    · exact .inl ⟨q, r, u, x.1 _ _ hu, e⟩
    · exact .inr c
  | _ => exact h
theorem rel_flat {K : PySem.W.Frag} {H : Hp} {X : MS} {T : Nat → List V} {N : Nat → List (Nat × Int)} {rq : Rq} (R : Rel K H X T N) (ok : rq.ok 2 2 6) (hne : ∀ c, c < 13 → T c ≠ []) : rq.flatAt K H X 2 := by
  have key : ∀ i, i < 13 → ∃ p tp, cellV X 2 i = some p ∧ Dvl K H p tp := fun i hi => by
    obtain ⟨y, t, h1, h2, h3, h4⟩ := (R.tw i hi).symm.last (List.getLast?_eq_some_getLast (hne i hi))
    exact ⟨y, t, by rw [memT_last R.psl]; exact h1, h4.dvl h3⟩
  cases rq with
  | swap i o n => exact key i ok
  | decide i z => exact key i ok
  | _ => trivial
theorem ints_dv {K : PySem.W.Frag} {H : Hp} : ∀ ks : List Nat, DVs K H (ks.map fun (k : Nat) => V.int (k : Int)) (ks.map fun (k : Nat) => Tr.sc (.int (k : Int)))
  | [] => .nil
  | k :: ks => .cons (.sc (t := "int") rfl) (ints_dv ks)
/-- a list of whole numbers -/
abbrev intsD (ks : List Nat) : PyData := .list (datas (ks.map fun (k : Nat) => Tr.sc (.int (k : Int))))
theorem ints_vls {K : PySem.W.Frag} {H : Hp} (ks : List Nat) : Vls K H (ks.map fun (k : Nat) => V.int (k : Int)) (ks.map fun (k : Nat) => Tr.sc (.int (k : Int))) := ⟨ints_dv ks, fun t ht => by
  obtain ⟨k, _, rfl⟩ := List.mem_map.mp ht
  exact fine_int _⟩
theorem ints_sh {ks : List Nat} : SeqAt.shaped (intsD ks) = true := fines_shaped fun t ht => by
  obtain ⟨k, _, rfl⟩ := List.mem_map.mp ht
  exact fine_int _
end Dk

set_option maxHeartbeats 4000000
/-! a step of the law -/
namespace Dk
open PySem PySem.Spec PyProof.Rows L2
abbrev sStep : Stmt := top 31
structure Stt (K : PySem.W.Frag) (C M : Addr) (H : Hp) (m : Addr) (W : WA) (A : Adr) (X : MS) (T : Nat → List V) (N : Nat → List (Nat × Int)) (B : Nat) : Prop where
  s : Sd C M H m W A X X.count T N
  so : SOk X 2 10 B
  rel : Rel K H X T N
  lg : (X.log.length : Int) = X.count
theorem Stt.ne {K : PySem.W.Frag} {C M : Addr} {H : Hp} {m : Addr} {W : WA} {A : Adr} {X : MS} {T : Nat → List V} {N : Nat → List (Nat × Int)} {B : Nat} (h : Stt K C M H m W A X T N B) : ∀ c, c < 13 → T c ≠ [] := fun c hc z => by
  have := (h.rel.tw c hc).len
  rw [z] at this
  unfold memT at this
  by_cases c3 : c < 3
  · rw [if_pos c3] at this; cases this
  · rw [if_neg c3] at this
    exact h.so.tne (c - 3) (by omega) (List.eq_nil_of_length_eq_zero this)
theorem Stt.tok {K : PySem.W.Frag} {C M : Addr} {H : Hp} {m : Addr} {W : WA} {A : Adr} {X : MS} {T : Nat → List V} {N : Nat → List (Nat × Int)} {B : Nat} (h : Stt K C M H m W A X T N B) (hB : B < 9000) : TOk K H T := by
  refine ⟨h.ne, fun c hc => ?_, fun c hc => let ⟨us, _, b⟩ := h.rel.tw c hc; ⟨us, b⟩⟩
  rw [← (h.rel.tw c hc).len]
  unfold memT
  by_cases c3 : c < 3
  · rw [if_pos c3]; show 1 < 10000; decide
  · rw [if_neg c3]
    have := h.so.tlen (c - 3) (by omega)
    omega
theorem Stt.same {K : PySem.W.Frag} {C M : Addr} {H H' : Hp} {m : Addr} {W : WA} {A : Adr} {X : MS} {T : Nat → List V} {N : Nat → List (Nat × Int)} {B : Nat} (h : Stt K C M H m W A X T N B) (s : Same H H') : Stt K C M H' m W A X T N B := ⟨h.s.same s, h.so, h.rel.ext (.of s), h.lg⟩
def spStep (K : PySem.W.Frag) (C M : Addr) : Sp := fun vs H Q _ => ∃ (m : Addr) (W : WA) (A : Adr) (X : MS) (T : Nat → List V) (N : Nat → List (Nat × Int)) (B : Nat) (n p o : Int), vs = [.ref m, .ref W.wd, .int n, .int p, .int o] ∧ Stt K C M H m W A X T N B ∧ B < 1000 ∧
  ∀ (H' : Hp) (W' : WA) (A' : Adr) (X' : MS) (T' : Nat → List V) (N' : Nat → List (Nat × Int)), W'.wd = W.wd → Stt K C M H' m W' A' X' T' N' (B + 2) → Mv (ZZ m A W) H (ZZ m A' W') H' → Q (.bl true) H'
section
variable {P : Program} {w : World} {K : PySem.W.Frag} {mg : Str → Option Value} {base : Heap} {C M NV LE : Addr}
abbrev NSt : List Str := ["memory", "w", "number", "pick", "other", "cell", "k", "choices", "passed", "told", "request", "due"]
theorem scStep : FnScope NSt ["memory", "w", "number", "pick", "other"] (defScope sStep) := ⟨rfl, rfl, rfl, by decide +kernel, rfl, by decide +kernel, by decide +kernel⟩
theorem go_step (F : GT K mg "_law_step" sStep ["memory", "w", "number", "pick", "other"]) (B0 : Bn mg) (GWr : GO P w K mg base CX0 13 "_law_wrong" ["memory", "number"] (spWrong C M)) (GDo : GO P w K mg base CX0 12 "_law_do" ["memory", "act", "first", "second"] (spDo K C M NV)) (GSh : GO P w K mg base CX0 1 "_law_shorten" ["w", "cell", "steps"] spShr) (GCt : GO P w K mg base CX0 2 "_law_cut" ["w", "choices"] spLCut) (GRq : GO P w K mg base CX0 2 "_law_request" ["w", "number", "pick", "other"] (spReq K)) (GDu : GO P w K mg base CX0 2 "_law_due" ["w", "thread", "request"] (spDue K)) (GSm0 : GO P w K mg base CX0 1 "_law_same" ["told", "due"] (spSame K)) : GO P w K mg base CX0 14 "_law_step" ["memory", "w", "number", "pick", "other"] (spStep K C M) := by
  have GSm := go_uq GSm0
  obtain ⟨f, fd, F, hm, hb⟩ := F
  refine ⟨f, fd, ?_, hm, F.kp, hb⟩
  refine F.ok scStep (fun vs H Q E h => ?_) (fun cdv A outer s H vs Q E hr h => ?_)
  · obtain ⟨m, W, A, X, T, N, B, n, p, o, rfl, _⟩ := h
    rfl
  · obtain ⟨m, W, A0, X, T, N0, B, n, p, o, rfl, S0, hB, k⟩ := h
    obtain ⟨N, S, no⟩ : ∃ N, Stt K C M H m W A0 X T N B ∧ ∀ t, NtOk (N t) := by
      refine ⟨fun t => if t < 2 then N0 t else [], ⟨⟨S0.s.D, S0.s.R.eqN rfl rfl, S0.s.dj⟩, S0.so, S0.rel.eqN fun t ht => if_pos ht, S0.lg⟩, fun t => ?_⟩
      show NtOk (if t < 2 then N0 t else [])
      by_cases h2 : t < 2
      · rw [if_pos h2]
        have : t = 0 ∨ t = 1 := by omega
        rcases this with e | e
        · subst e; exact S0.rel.ok.1
        · subst e; exact S0.rel.ok.2
      · rw [if_neg h2]
        exact ⟨.nil, fun p hp => by cases hp⟩
    have nd := scStep.nd
    have hu := hu_of hr
    have hrW : Room 13 _ := hr
    have hrD : Room 12 _ := hr.mono (by decide)
    have hrS : Room 1 _ := hr.mono (by decide)
    have hrC : Room 2 _ := hr.mono (by decide)
    have hrR : Room 2 _ := hr.mono (by decide)
    have hrU : Room 2 _ := hr.mono (by decide)
    have hrM : Room 1 _ := hr.mono (by decide)
    have hsl : sizeLine = 16777216 := sizeLine_eq
    refine ⟨_, (pss_cons (ps_if (pt_cmpR op_eq (pe_op op_mod (pv 2) pe_int) pe_int (nomark _))
  (pss_one (ps_ret (pe_cmpR (op_eqD hr.units) (pc_ GWr hrW (pa_cons (pv 0) (pa_cons (pv 3) pa_nil))) (pe_lst (pa_cons pe_str (pa_cons pe_bl pa_nil))) (nomark _))))
  pss_nil)
  (pss_cons (ps_if (pt_cmpR op_eq (pe_op op_mod (pv 2) pe_int) pe_int (nomark _))
  (pss_cons (ps_set (i := 5) nd rfl (Or.inl rfl) (pe_ix ix_list (pe_lst (pa_cons pe_int (pa_cons pe_int (pa_cons pe_int (pa_cons pe_int pa_nil))))) (pe_op op_mod (pv 3) pe_int) (fun _ _ => rfl)))
  (pss_cons (ps_if (pt_cmpR op_notN (pc_ GDo hrD (pa_cons (pv 0) (pa_cons pe_str (pa_cons (pv 5) (pa_cons (pe_op op_mod (pv 4) pe_int) pa_nil))))) pe_non (nomark _))
  (pss_one (ps_ret pe_bl))
  pss_nil)
  (pss_cons (ps_expr (pc_ GSh hrS (pa_cons (pv 1) (pa_cons (pv 5) (pa_cons (pe_op op_mod (pv 4) pe_int) pa_nil)))))
  (pss_one (ps_ret pe_bl)))))
  pss_nil)
  (pss_cons (ps_if (PW.pt (pw_and (pt_cmpR op_eq (pe_op op_mod (pv 2) pe_int) pe_int (nomark _)) (pw_and1 (pt_cmpR op_eq (pe_op op_mod (pv 3) pe_int) pe_int (nomark _)))))
  (pss_cons (ps_setLc (i := 7) (own := [("k", 6)]) (g := (gName 6)) (tt := tYes) rfl nd rfl rfl (sw_true rfl rfl rfl (by decide +kernel)) (pi_range1 (by rfl) B0.range (pa_cons (pe_op op_mod (pv 3) pe_int) pa_nil)) (blkOk_by (N := ["memory", "w", "number", "pick", "other", "cell", "k", "choices", "passed", "told", "request", "due"]) (sc := defScope sStep) (by decide +kernel)) (fun _ _ _ _ _ => (pg_name (i := 6) nd rfl (Or.inl rfl))) (fun _ _ _ _ _ => pts_nil) (fun _ _ _ _ _ => (pe_op op_mul (pe_op op_mod (pe_op op_add (pv 4) (pe_op op_mul pe_int (pv 6))) pe_int) (pe_op op_mod (pe_op op_add (pe_op op_fdiv (pv 3) pe_int) (pv 6)) pe_int))))
  (pss_cons (ps_set (i := 8) nd rfl (Or.inl rfl) (pe_callTy call_list_of (by rfl) B0.list (by decide +kernel) (pa_cons (pv 7) pa_nil)))
  (pss_cons (ps_set (i := 9) nd rfl (Or.inl rfl) (pc_ GDo hrD (pa_cons (pv 0) (pa_cons pe_str (pa_cons (pv 8) (pa_cons pe_non pa_nil))))))
  (pss_cons (ps_expr (pc_ GCt hrC (pa_cons (pv 1) (pa_cons (pv 7) pa_nil))))
  (pss_one (ps_ret (pe_and (pe_cmpR op_isN (pv 9) pe_non (nomark _)) (pe_one (pe_cmpR (op_eqD hr.units) (pv 8) (pv 7) (nomark _))))))))))
  pss_nil)
  (pss_cons (ps_set (i := 10) nd rfl (Or.inl rfl) (pc_ GRq hrR (pa_cons (pv 1) (pa_cons (pe_op op_fdiv (pv 2) pe_int) (pa_cons (pv 3) (pa_cons (pv 4) pa_nil))))))
  (pss_cons (ps_dput hu (pv 1) pe_str (pe_op op_add (pe_dget hu (pv 1) pe_str (fun _ _ => rfl)) pe_int) rfl)
  (pss_cons (ps_set (i := 11) nd rfl (Or.inl rfl) (pc_ GDu hrU (pa_cons (pv 1) (pa_cons (pe_op op_mod (pe_op op_fdiv (pv 2) pe_int) pe_int) (pa_cons (pv 10) pa_nil)))))
  (pss_cons (ps_set (i := 9) nd rfl (Or.inl rfl) (pc_ GDo hrD (pa_cons (pv 0) (pa_cons pe_str (pa_cons (pe_op op_mod (pe_op op_fdiv (pv 2) pe_int) pe_int) (pa_cons (pv 10) pa_nil))))))
  (pss_one (ps_ret (pe_and (pe_callB call_isi (by rfl) B0.isi (by decide +kernel) (pa_cons (pv 9) (pa_cons (pe_bltn (v := .ty "tuple") (by rfl) B0.tuple (by decide +kernel) rfl) pa_nil))) (pe_and (pe_cmpR op_eq (pe_callB call_len_seq (by rfl) B0.len PySem.boot_len (pa_cons (pv 9) pa_nil)) pe_int (nomark _)) (pe_and (pe_cmpR op_eq (pe_ix ix_tup (pv 9) pe_int (fun _ _ => rfl)) (pe_dget hu (pv 1) pe_str (fun _ _ => rfl)) (nomark _)) (pe_one (pc_ GSm hrM (pa_cons (pe_ix ix_tup (pv 9) pe_int (fun _ _ => rfl)) (pa_cons (pv 11) pa_nil)))))))))))))))), ?_⟩
    have nok : NOk 2 2 6 := ⟨by decide, by decide, by decide, by decide, by decide, by decide⟩
    have lk : (mf A0 X.count).lookup ("access" : Str) = none ∧ (mf A0 X.count).lookup ("drift" : Str) = none ∧ (mf A0 X.count).lookup ("cut" : Str) = none := ⟨rfl, rfl, rfl⟩
    refine ⟨_, rfl, _, _, rfl, rfl, (by show (0 : Int) < 11; decide), rfl, _, rfl, ite2 (fun d => ?_) (fun d => ?_)⟩
    · -- what is refused
      refine ⟨_, rfl, _, rfl, m, p, A0, X, rfl, S.s.D, fun H1 l s1 hl => ?_⟩
      refine ⟨(by show 2 ≤ sizeLine; omega), fun l2 hl2 => ?_⟩
      have s2 := up1 (o := HO.lst [V.str "refused", V.bl true]) hl2
      have e2 : upd H1 l2 (HO.lst [V.str "refused", V.bl true]) l2 = _ := upd_same
      generalize upd H1 l2 (HO.lst [V.str "refused", V.bl true]) = H2 at s2 e2 ⊢
      have dl : ∀ {a : Addr}, H2 a = some (.lst [.str "refused", .bl true]) → Dp K H2 (.ref a) (.list [.str "refused", .bool true]) := fun {a} h => .lst (SqL.of h) (.cons (.str _) (.cons (.bl _) .nil))
      have sh : SeqAt.shaped (.list [.str "refused", .bool true]) = true := by decide +kernel
      refine ⟨_, _, dl (s2 _ _ hl), dl e2, sh, sh, ?_⟩
      rw [eqv_sh sh]
      have s12 := s1.trans s2
      exact k H2 W A0 X T N rfl ⟨S.s.same s12, S.so.mono (by omega), S.rel.ext (.of s12), S.lg⟩ (Mv.same s12)
    refine ⟨_, rfl, _, _, rfl, rfl, (by show (0 : Int) < 11; decide), rfl, _, rfl, ite2 (fun d => ?_) (fun d => ?_)⟩
    · -- a drift
      refine ⟨(by show 4 ≤ sizeLine; omega), fun l hl => ?_⟩
      have s1 := up1 (o := HO.lst [V.int 5, V.int 6, V.int 7, V.int 3]) hl
      have e1 : upd H l (HO.lst [V.int 5, V.int 6, V.int 7, V.int 3]) l = _ := upd_same
      generalize upd H l (HO.lst [V.int 5, V.int 6, V.int 7, V.int 3]) = H1 at s1 e1 ⊢
      have key : ∃ j : Nat, atI [V.int 5, V.int 6, V.int 7, V.int 3] (p % 4) = some (.int ((1 + 2 + j : Nat) : Int)) ∧ j < 10 := by
        obtain ⟨r, hr1, hr4⟩ : ∃ r : Nat, p % 4 = (r : Int) ∧ r < 4 := ⟨(p % 4).toNat, by omega, by omega⟩
        rw [hr1]
        match r, hr4 with
        | 0, _ => exact ⟨2, atI_nat (j := 0) rfl, by decide⟩
        | 1, _ => exact ⟨3, atI_nat (j := 1) rfl, by decide⟩
        | 2, _ => exact ⟨4, atI_nat (j := 2) rfl, by decide⟩
        | 3, _ => exact ⟨0, atI_nat (j := 3) rfl, by decide⟩
      obtain ⟨j, hj, hj10⟩ := key
      obtain ⟨kd, hkd⟩ : ∃ kd : Nat, o % 5 = (kd : Int) := ⟨(o % 5).toNat, by omega⟩
      have S1 := S.same s1
      obtain ⟨dm, hm1⟩ := S1.s.D.ob
      refine ⟨_, rfl, _, _, rfl, rfl, (by show (0 : Int) < 4; decide), l, _, _, _, rfl, rfl, SqL.of e1, hj, ?_⟩
      refine ⟨_, rfl, _, rfl, _, rfl, _, _, rfl, rfl, (by show (0 : Int) < 5; decide), m, dm, _, "drift", _, _, rfl, hm1, lk, .inr (.inl ⟨rfl, .inl ⟨m, 2, 2, 6, j, kd, A0, X, ?_, nok, S1.s.D, hj10, S.so.tne j hj10, fun H2 D2 st2 => ?_⟩⟩)⟩
      · show [V.ref m, V.int ((1 + 2 + j : Nat) : Int), V.int (o % 5)] = _
        rw [hkd]
      refine ⟨rfl, _, rfl, iteC (by rw [decide_eq_true rfl]; rfl) ?_⟩
      obtain ⟨S2, mv2⟩ := S1.s.mem D2 st2
      refine ⟨_, rfl, _, rfl, _, rfl, _, _, rfl, rfl, (by show (0 : Int) < 5; decide), W, X.count, T, N, j, kd, ?_, S2.R, hj10, S.ne _ (by omega), no 0, no 1, fun W' H3 ew R3 z3 => ?_⟩
      · show [V.ref W.wd, V.int ((1 + 2 + j : Nat) : Int), V.int (o % 5)] = _
        rw [hkd]
      obtain ⟨S3, mv3⟩ := S2.lst R3 z3
      have x03 := (ExT.of s1).trans ((st2.ext S1.s.D).trans (S2.R.ext z3))
      exact k H3 W' A0 (X.short j kd) _ _ ew ⟨S3, S.so.short.mono (by omega), (S.rel.ext x03).short hj10 kd, S.lg⟩ ((Mv.same s1).trans (mv2.trans mv3))
    -- a cut, or an access
    dsimp only [tNext, tSeq, tIfS]
    refine and_use (decide (V.int (n % 11) = V.int 8)) (decide (V.int (p % 3) = V.int 0)) (fun K' kk => ⟨_, rfl, _, _, rfl, rfl, (by show (0 : Int) < 11; decide), rfl, _, rfl, kk⟩) (fun K' kk => ⟨_, rfl, _, _, rfl, rfl, (by show (0 : Int) < 3; decide), rfl, _, rfl, kk⟩) ?_
    cases (decide (V.int (n % 11) = V.int 8) && decide (V.int (p % 3) = V.int 0)) with
    | true =>
      refine iteT ?_
      generalize hks : (List.range (p % 13).toNat).map (fun i => ((o + 3 * ((0 : Int) + ((i : Nat) : Int))) % 4 * ((p / 3 + ((0 : Int) + ((i : Nat) : Int))) % 2)).toNat) = ks
      have hkl : ks.length < 1000 := by rw [← hks, List.length_map, List.length_range]; omega
      have hmod : -(2 ^ 62) ≤ p % 13 ∧ p % 13 < 2 ^ 62 := by omega
      refine ⟨_, rfl, _, _, rfl, rfl, (by show (0 : Int) < 13; decide), _, rfl, hmod.1, hmod.2, fun D hD => lc_it (walk_range (lo := 0) (n := (p % 13).toNat)) (fun i H' => H' D = some (.lst ((ks.take i).map fun (k : Nat) => V.int (k : Int))) ∧ Same H H') ⟨upd_same, up1 hD⟩ (fun _ _ _ _ => trivial) ?_ ?_⟩
      · rintro i v H1 H2 hi ⟨hL1, s1⟩ ⟨rfl, rfl⟩
        have hkl2 : ks.length = (p % 13).toNat := by rw [← hks, List.length_map, List.length_range]
        have hki : ks[i]? = some (((o + 3 * ((0 : Int) + ((i : Nat) : Int))) % 4 * ((p / 3 + ((0 : Int) + ((i : Nat) : Int))) % 2)).toNat) := by
          rw [← hks, List.getElem?_map, List.getElem?_range hi]
          rfl
        have hnn : 0 ≤ (o + 3 * ((0 : Int) + ((i : Nat) : Int))) % 4 * ((p / 3 + ((0 : Int) + ((i : Nat) : Int))) % 2) := Int.mul_nonneg (Int.emod_nonneg _ (by decide)) (Int.emod_nonneg _ (by decide))
        have hm2 : 0 ≤ (p / 3 + ((0 : Int) + ((i : Nat) : Int))) % 2 ∧ (p / 3 + ((0 : Int) + ((i : Nat) : Int))) % 2 < 2 := by omega
        refine ⟨rfl, _, rfl, _, rfl, _, _, rfl, rfl, .inl ⟨by decide, by decide⟩, _, _, rfl, rfl, _, _, rfl, rfl, (by show (0 : Int) < 4; decide), _, rfl, _, _, rfl, rfl, (by unfold CDiv; omega), _, rfl, _, _, rfl, rfl, _, _, rfl, rfl, (by show (0 : Int) < 2; decide), _, _, rfl, rfl, .inr ⟨by omega, by omega⟩, ?_⟩
        refine ⟨_, hL1, (by rw [List.length_map, List.length_take]; omega), ?_, fun b u e => by rw [upd_ne (ne_of_none e hD)]; exact s1 b u e⟩
        rw [upd_same, List.take_succ, hki, List.map_append]
        show some (HO.lst (_ ++ [V.int _])) = some (HO.lst (_ ++ [V.int _]))
        rw [Int.toNat_of_nonneg hnn]
      rintro H1 ⟨hD1, s1⟩
      rw [List.take_of_length_le (by rw [← hks, List.length_map, List.length_range]; exact Nat.le_refl _)] at hD1
      -- the copy
      refine ⟨_, rfl, D, _, rfl, .inl (SqL.of hD1), fun D2 hD2 => ?_⟩
      have s2 := up1 (o := HO.lst (ks.map fun (k : Nat) => V.int (k : Int))) hD2
      have e2 : upd H1 D2 (HO.lst (ks.map fun (k : Nat) => V.int (k : Int))) D2 = _ := upd_same
      generalize upd H1 D2 (HO.lst (ks.map fun (k : Nat) => V.int (k : Int))) = H2 at s2 e2 ⊢
      have s12 := s1.trans s2
      have S2 := S.same s12
      have hD12 := s2 _ _ hD1
      have nz : ∀ b, H b = none → ¬ ZZ m A0 W b := fun b hb z => by
        rcases z with z | z
        · obtain ⟨u, hu⟩ := foot_some S.s.D z
          rw [hb] at hu; cases hu
        · obtain ⟨u, hu⟩ := S.s.R.al z
          rw [hb] at hu; cases hu
      have nD := nz D hD
      have nD2 := nz D2 (s1.free hD2)
      obtain ⟨dm, hm2⟩ := S2.s.D.ob
      refine ⟨_, rfl, _, rfl, m, dm, _, "cut", .ref D2, .non, rfl, hm2, lk, .inr (.inr ⟨rfl, .inl ⟨m, D2, 2, 2, 6, A0, X, ks, rfl, nok, S2.s.D, e2, fun z => nD2 (.inl z), hkl, S.so.tne, fun A' X' H3 ea hc hlog hps hns htr D3 st3 => ?_⟩⟩)⟩
      obtain ⟨S3, mv3⟩ := S2.s.mem D3 st3
      obtain ⟨a1, a2⟩ := mv3 _ _ hD12 nD
      obtain ⟨b1, b2⟩ := mv3 _ _ e2 nD2
      refine ⟨_, rfl, _, rfl, W, X.count, T, N, D, ks, rfl, S3.R, a1, fun z => a2 (.inr z), hkl, S.ne, no, fun W' H4 ew R4 z4 => ?_⟩
      obtain ⟨S4, mv4⟩ := S3.lst R4 z4
      obtain ⟨a3, a4⟩ := mv4 _ _ a1 a2
      obtain ⟨b3, b4⟩ := mv4 _ _ b1 b2
      refine ⟨_, rfl, rfl, _, rfl, iteDD (decide_eq_true rfl) ?_⟩
      have sh : SeqAt.shaped (intsD ks) = true := ints_sh
      refine ⟨_, rfl, _, rfl, intsD ks, intsD ks, (ints_vls ks).lst b3, (ints_vls ks).lst a3, sh, sh, ?_⟩
      rw [eqv_sh sh]
      have x04 := (ExT.of s12).trans ((st3.ext S2.s.D).trans (S3.R.ext z4))
      refine k H4 W' A' X' _ _ ew ⟨?_, ⟨by rw [hps]; rfl, fun j hj z => ?_, fun j hj => ?_, fun th hth => ⟨[], ?_, (fun p hp => by cases hp), Nat.zero_le _⟩, by rw [hlog]; have := S.so.log; omega⟩, (S.rel.ext x04).cut hps hns htr, by rw [hlog, hc]; exact S.lg⟩ ((Mv.same s12).trans (mv3.trans mv4))
      · rw [hc]; exact S4
      · rw [htr j hj] at z
        have := cutT_ne (ks := ks) (S.so.tne j hj)
        rcases hh : cutT X ks j with _ | ⟨y, ys⟩
        · exact this hh
        · rw [hh] at z; cases z
      · rw [htr j hj, List.length_take]
        omega
      · rw [hns]
        have : th = 0 ∨ th = 1 := by omega
        rcases this with e | e <;> (subst e; rfl)
    | false =>
      refine iteF ?_
      refine ⟨_, rfl, _, rfl, _, _, rfl, rfl, (by unfold CDiv; omega), _, rfl, _, rfl, W, X.count, T, N, n / 11, p, o, rfl, S.s.R, S.tok (by omega), fun H1 q rq s1 hq ok fi => ?_⟩
      have S1 := S.same s1
      obtain ⟨R2, z2⟩ := S1.s.R.put1 (X.count + 1)
      have hput : DPut H1 W.wd (.str "count") (.int (X.count + 1)) (upd H1 W.wd (.dK [(Sum.inr "count", .int (X.count + 1)), (Sum.inr "trails", .ref W.tl), (Sum.inr "notes", .ref W.nl)])) := DPut.k (k := (Sum.inr "count" : Key)) (v := V.int (X.count + 1)) S1.s.R.wd (by show 3 < sizeLine; omega)
      refine ⟨_, rfl, W.wd, _, rfl, S1.s.R.gc, _, _, rfl, rfl, _, rfl, W.wd, _, rfl, hput, ?_⟩
      obtain ⟨S2, mv2⟩ := S1.s.lst R2 z2
      have x12 := S1.s.R.ext z2
      generalize upd H1 W.wd (.dK [(Sum.inr "count", .int (X.count + 1)), (Sum.inr "trails", .ref W.tl), (Sum.inr "notes", .ref W.nl)]) = H2 at R2 z2 S2 mv2 x12 ⊢
      obtain ⟨th, hth, ht2⟩ : ∃ th : Nat, n / 110 % 2 = (th : Int) ∧ th < 2 := ⟨(n / 110 % 2).toNat, by omega, by omega⟩
      have hq2 := x12.1 _ _ hq
      have fi2 := fine_ext fi x12
      have tok2 : TOk K H2 T := ⟨S.ne, (S.tok (by omega)).le, fun c hc => let ⟨us, h⟩ := (S1.tok (by omega)).fi c hc; ⟨us, h.ext x12⟩⟩
      refine ⟨_, rfl, _, rfl, _, _, rfl, rfl, (by unfold CDiv; omega), _, _, rfl, rfl, (by show (0 : Int) < 2; decide), _, rfl, W, X.count + 1, T, N, th, q, rq, ?_, R2, ht2, hq2, ok, fi2, tok2, no, fun v' W' H3 T' N' ew R3 z3 du => ?_⟩
      · show [V.ref W.wd, V.int (n / 110 % 2), V.ref q] = _
        rw [hth]
      obtain ⟨S3, mv3⟩ := S2.lst R3 z3
      have x23 := R2.ext z3
      have hq3 := x23.1 _ _ hq2
      have fi3 := fine_ext fi2 x23
      have x03 := (ExT.of s1).trans (x12.trans x23)
      have rel3 := S.rel.ext x03
      obtain ⟨dm, hm3⟩ := S3.D.ob
      refine ⟨_, rfl, _, rfl, _, _, rfl, rfl, (by unfold CDiv; omega), _, _, rfl, rfl, (by show (0 : Int) < 2; decide), _, rfl, m, dm, _, "access", .int th, .ref q, ?_, hm3, lk, .inl ⟨rfl, .inl ⟨m, 2, 2, 6, th, B, A0, X, rq, q, rfl, nok, S3.D, ht2, hq3, ok, S.so, by omega, fine_vals fi3, rel_flat rel3 ok S.ne, fun v x tp A' X' H4 ea rs htp so' D4 st4 => ?_⟩⟩⟩
      · show [V.ref m, V.str "access", V.int (n / 110 % 2), V.ref q] = _
        rw [hth]
      obtain ⟨S4, mv4⟩ := S3.mem D4 st4
      have x34 := st4.ext S3.D
      rw [← ew]
      refine ⟨_, rfl, _, _, _, _, true, rfl, .ty "tuple", .base (.tup htp), kit_ty (by decide +kernel), _, rfl, iteT ?_⟩
      refine ⟨_, rfl, tp, _, rfl, .inr (SqT.of htp), rfl, _, rfl, iteDD (decide_eq_true rfl) ?_⟩
      refine ⟨_, rfl, tp, _, 1, _, rfl, rfl, SqT.of htp, rfl, _, rfl, W'.wd, _, rfl, S4.R.gc, rfl, _, rfl, iteDD (decide_eq_true rfl) ?_⟩
      refine ⟨_, rfl, tp, _, 0, _, rfl, rfl, SqT.of htp, rfl, _, rfl, rfl, fun uq => ?_⟩
      have cnt' : X'.count = X.count + 1 := (Res.count rs).1
      have log' : X'.log = X.log ++ [x] := (Res.count rs).2
      obtain ⟨⟨t, d1, d2, ot⟩, rel'⟩ := rel_access uq (rel3.ext x34) rs (due_ext du x34) ok (fine_ext fi3 x34) ht2 S.ne
      refine ⟨v, v', t, rfl, d1, d2, ot, ?_⟩
      refine k H4 W' A' X' T' N' ew ⟨?_, so', rel', ?_⟩ ((Mv.same s1).trans (mv2.trans (mv3.trans mv4)))
      · rw [cnt']; exact S4
      · rw [log', cnt', List.length_append, List.length_singleton]
        have := S.lg
        omega
end
end Dk

set_option maxHeartbeats 4000000
/-! the law k02 -/
namespace Dk
open PySem PySem.Spec PyProof.Rows L2
abbrev sLaw : Stmt := top 32
def loopBody : Stmt → List Stmt
  | .For _ _ b _ _ => b
  | _ => []
abbrev NLw : List Str := ["script", "tape", "memory", "w", "cell", "k"]
theorem scLaw : FnScope NLw ["script"] (defScope sLaw) := ⟨rfl, rfl, rfl, by decide +kernel, rfl, by decide +kernel, by decide +kernel⟩
theorem made_same {H : Hp} {x dx C : Addr} (nx : H x = none) (nd : H dx = none) : Same H (upd (upd H dx (.own x)) x (.ins C dx [])) := fun b o e => by rw [upd_ne (ne_of_none e nx), upd_ne (ne_of_none e nd)]; exact e
def spLaw (K : PySem.W.Frag) : Sp := fun vs H Q _ => ∃ (a : Addr) (ns : List Int), vs = [.ref a] ∧ SqL K H a (ns.map V.int) ∧ ns.length ≤ 63 ∧ ∀ H', Q (.bl true) H'
theorem so0 {t n : Nat} {tr : Nat → List V} (hI : ∀ j, j < n → ∃ v, tr j = [v]) : SOk (S0 t tr) t n 0 := by
  refine ⟨?_, fun j hj => ?_, fun j hj => ?_, fun th hth => ⟨[], ?_, ?_, ?_⟩, ?_⟩
  · show (V.int 0 :: List.replicate t V.non).length = 1 + t
    rw [List.length_cons, List.length_replicate]
    omega
  · obtain ⟨v, hv⟩ := hI j hj
    show tr j ≠ []
    rw [hv]; simp
  · obtain ⟨v, hv⟩ := hI j hj
    show (tr j).length ≤ 1
    rw [hv]; simp
  · show (List.replicate t ([] : List (Key × V)))[th]? = _
    rw [List.getElem?_replicate, if_pos hth]
    rfl
  · simp
  · simp
  · show ([] : List V).length ≤ 0
    simp
def ZAt (K : PySem.W.Frag) (Z : Addr) : Prop := ∀ H, ∃ Z1, SqT K H Z [.str "items", .ref Z1] ∧ SqT K H Z1 []
/-- the cells of a new memory -/
theorem cells0 {K : PySem.W.Frag} {H : Hp} {Z : Addr} {tr : Nat → List V} (hZ : ZAt K Z) (hI : ∀ j, j < 10 → ∃ v, tr j = [v] ∧ Init Z 2 2 6 2 j v) : ∀ c, c < 13 → ∃ v t, cellV (S0 2 tr) 2 c = some v ∧ memT (S0 2 tr) c = [v] ∧ DV K H v t ∧ Fine t := fun c hc => by
  obtain ⟨Z1, z1, z2⟩ := hZ H
  by_cases c3 : c < 3
  · have : c = 0 ∨ c = 1 ∨ c = 2 := by omega
    rcases this with e | e | e
    · subst e; exact ⟨.int 0, _, rfl, rfl, .sc (t := "int") rfl, fine_int 0⟩
    · subst e; exact ⟨.non, _, rfl, rfl, .sc (t := "NoneType") rfl, fine_non⟩
    · subst e; exact ⟨.non, _, rfl, rfl, .sc (t := "NoneType") rfl, fine_non⟩
  · obtain ⟨v, hv, hi⟩ := hI (c - 3) (by omega)
    have hm : memT (S0 2 tr) c = [v] := by unfold memT; rw [if_neg c3]; exact hv
    have hcl : cellV (S0 2 tr) 2 c = some v := by rw [memT_last rfl, hm]; rfl
    unfold Init at hi
    split at hi
    · subst hi
      exact ⟨_, _, hcl, hm, .sc (t := "int") rfl, fine_int _⟩
    · split at hi
      · subst hi
        exact ⟨_, _, hcl, hm, .tup z1 (.cons (.sc (t := "str") rfl) (.cons (.tup z2 .nil) .nil)), fine_items⟩
      · subst hi
        exact ⟨_, _, hcl, hm, .sc (t := "NoneType") rfl, fine_non⟩
section
variable {P : Program} {w : World} {K : PySem.W.Frag} {mg : Str → Option Value} {base : Heap} {C M NV LE Z fL fM : Addr} {fdL fdM : FuncData}
theorem ok_law {f : Addr} {fd : FuncData} (F : Fun K "law" "law" sLaw f fd) (B0 : Bn mg) (TM : MTxt K M) (hZ : ZAt K Z) (zd : mg "dict" = none) (zx : mg "max" = none) (zn : mg "min" = none)
    (gC : mg "Layout" = some (.ref C)) (ML : Mk K C fL) (FL : FnOk P w K mg base (L2.CX P w) 3 fL fdL ["self", "threads", "words", "records"] (spLInit C NV)) (bL : Binds K fdL ["self", "threads", "words", "records"] [])
    (gM : mg "Memory" = some (.ref M)) (MM : Mk K M fM) (FM : FnOk P w K mg base CX0 7 fM fdM ["self", "layout"] (spMInit C M Z)) (bM : Binds K fdM ["self", "layout"] [])
    (GTp : GO P w K mg base CX0 1 "_law_tape" ["script"] (spTape K)) (GAt : GO P w K mg base CX0 1 "_law_at" ["tape", "k"] (spAt K)) (GPk : MO P w K mg base CX0 M 8 "peek" ["self", "cell"] (spPeek C M)) (GLg : MO P w K mg base CX0 M 1 "log" ["self"] (spLog C M)) (GSt : GO P w K mg base CX0 14 "_law_step" ["memory", "w", "number", "pick", "other"] (spStep K C M)) (GLk : GO P w K mg base CX0 10 "_law_looks" ["memory", "w"] (spLooks K C M)) : FnOk P w K mg base CX0 15 f fd ["script"] (spLaw K) := by
  refine F.ok scLaw (fun vs H Q E h => ?_) (fun cdv A0 outer s H vs Q E hr h => ?_)
  · obtain ⟨a, ns, rfl, _⟩ := h
    rfl
  · obtain ⟨a, ns, rfl, hS, hlen, kQ⟩ := h
    have nd := scLaw.nd
    have hu := hu_of hr
    have hr1 : Room 1 _ := hr.mono (by decide)
    have hr8 : Room 8 _ := hr.mono (by decide)
    have hrT : Room 14 _ := hr
    have hrK : Room 10 _ := hr.mono (by decide)
    have hrL : Room (3 + 1) _ := hr.mono (by decide)
    have hrMm : Room (7 + 1) _ := hr.mono (by decide)
    have hsl : sizeLine = 16777216 := sizeLine_eq
    refine ⟨_, (pss_cons (ps_set (i := 1) nd rfl (Or.inl rfl) (pc_ GTp hr1 (pa_cons (pv 0) pa_nil)))
  (pss_cons (ps_set (i := 2) nd rfl (Or.inr rfl) (pe_make MM FM hrMm rfl gM bM .nil pass0 (pa_cons (pe_make ML FL hrL rfl gC bL .nil passL (pa_cons pe_int (pa_cons pe_int (pa_cons pe_int pa_nil)))) pa_nil)))
  (pss_cons (ps_set (i := 3) nd rfl (Or.inl rfl) (pe_callTy (call_dictP rfl) (by rfl) zd (by decide +kernel) (pa_cons (pe_lst (pa_cons (pe_tup (pa_cons pe_str (pa_cons pe_int pa_nil))) pa_nil)) pa_nil)))
  (pss_cons (ps_dput hu (pv 3) pe_str (pe_lc (own := [("cell", 4)]) (g := (gName 4)) (tt := tYes) rfl nd (pi_range1 (by rfl) B0.range (pa_cons pe_int pa_nil)) (blkOk_by (N := ["script", "tape", "memory", "w", "cell", "k"]) (sc := defScope sLaw) (by decide +kernel)) (fun _ _ _ _ _ => (pg_name (i := 4) nd rfl (Or.inl rfl))) (fun _ _ _ _ _ => pts_nil) (fun _ _ _ _ _ => (pe_lst (pa_cons (pm_ GPk TM.cl hr8 (pv 2) (pa_cons (pv 4) pa_nil)) pa_nil)))) rfl)
  (pss_cons (ps_dput hu (pv 3) pe_str (pe_lst (pa_cons pe_dnewK (pa_cons pe_dnewK pa_nil))) rfl)
  (pss_cons (ps_for PassesOwn.never rfl (pi_range1 (by rfl) B0.range (pa_cons (pe_callB (call_min2 rfl) (by rfl) zn (by decide +kernel) (pa_cons (pe_ix ix_list (pe_lst (pa_cons pe_int (pa_cons pe_int pa_nil))) (pe_op op_mod (pc_ GAt hr1 (pa_cons (pv 1) (pa_cons pe_int pa_nil))) pe_int) (fun _ _ => rfl)) (pa_cons (pe_callB (call_max2 rfl) (by rfl) zx (by decide +kernel) (pa_cons pe_int (pa_cons (pe_op op_fdiv (pe_op op_sub (pe_callB call_len_seq (by rfl) B0.len PySem.boot_len (pa_cons (pv 1) pa_nil)) pe_int) pe_int) pa_nil))) pa_nil))) pa_nil)) (pg_name (i := 5) nd rfl (Or.inl rfl))
  (pss_cons (ps_if (pt_not (pt_val (pc_ GSt hrT (pa_cons (pv 2) (pa_cons (pv 3) (pa_cons (pc_ GAt hr1 (pa_cons (pv 1) (pa_cons (pe_op op_add (pe_op op_mul pe_int (pv 5)) pe_int) pa_nil))) (pa_cons (pc_ GAt hr1 (pa_cons (pv 1) (pa_cons (pe_op op_add (pe_op op_mul pe_int (pv 5)) pe_int) pa_nil))) (pa_cons (pc_ GAt hr1 (pa_cons (pv 1) (pa_cons (pe_op op_add (pe_op op_mul pe_int (pv 5)) pe_int) pa_nil))) pa_nil))))))))
  (pss_one (ps_ret pe_bl))
  pss_nil)
  (pss_one (ps_if (pt_not (pt_val (pc_ GLk hrK (pa_cons (pv 2) (pa_cons (pv 3) pa_nil)))))
  (pss_one (ps_ret pe_bl))
  pss_nil))))
  (pss_one (ps_ret (pe_cmpR op_eq (pe_callB call_len_seq (by rfl) B0.len PySem.boot_len (pa_cons (pm0_ GLg TM.cl hr1 (pv 2)) pa_nil)) (pe_dget hu (pv 3) pe_str (fun _ _ => rfl)) (nomark _)))))))))), ?_⟩
    refine ⟨_, rfl, a, ns, rfl, hS, hlen, fun tp ms H1 _ htp sm hml s1 => ?_⟩
    have nok : NOk 2 2 6 := ⟨by decide, by decide, by decide, by decide, by decide, by decide⟩
    have lk : lok 2 2 6 = true := lok_iff.mpr nok.lok
    intro x dx nx ndx ne
    refine ⟨x, dx, 2, 2, 6, rfl, upd_same, (fun _ H2 lay kp2 => ⟨rfl, ?_⟩), fun h => by rw [lk] at h; cases h⟩
    have s2 : Same H1 H2 := fun b o e => by
      have b1 : b ≠ x := ne_of_none e nx
      refine kp2 b o ?_ b1
      rw [upd_ne b1, upd_ne (ne_of_none e ndx)]
      exact e
    obtain ⟨da, ha⟩ := lay
    refine fun m dx2 nx2 ndx2 ne2 => ?_
    have s3 := made_same (C := M) nx2 ndx2
    refine ⟨m, dx2, x, 2, 2, 6, rfl, upd_same, ⟨da, s3 _ _ ha⟩, nok, fun A tr H4 hA DM hI kp fr4 => ⟨rfl, ?_⟩⟩
    have s4 : Same H2 H4 := fun b o e => kp b o (s3 b o e) (ne_of_none e nx2)
    have htp4 : H4 tp = some (.lst (ms.map V.int)) := s4 _ _ (s2 _ _ htp)
    have tpF : ¬ Foot m A 10 tp := fun hf => by
      rcases fr4 tp hf with e | e
      · exact ne_of_none (s2 _ _ htp) nx2 e
      · rw [s3 _ _ (s2 _ _ htp)] at e
        cases e
    have so4 : SOk (S0 2 tr) 2 10 0 := so0 fun j hj => let ⟨v, e, _⟩ := hI j hj; ⟨v, e⟩
    have hcl := cells0 (K := K) (H := H4) hZ hI
    -- w
    refine ⟨(by show 2 ≤ sizeLine; omega), fun q1 hq1 => ?_⟩
    have u1 := up1 (o := HO.tup [V.str "count", V.int 0]) hq1
    have f1 : upd H4 q1 (HO.tup [V.str "count", V.int 0]) q1 = _ := upd_same
    generalize upd H4 q1 (HO.tup [V.str "count", V.int 0]) = G1 at u1 f1 ⊢
    refine ⟨(by show 1 ≤ sizeLine; omega), fun q2 hq2 => ?_⟩
    have u2 := up1 (o := HO.lst [V.ref q1]) hq2
    have f2 : upd G1 q2 (HO.lst [V.ref q1]) q2 = _ := upd_same
    generalize upd G1 q2 (HO.lst [V.ref q1]) = G2 at u2 f2 ⊢
    refine ⟨q2, [q1], [((Sum.inr "count" : Key), V.int 0)], rfl, SqL.of f2, .cons (SqT.of (u2 _ _ f1)) .nil, fun wd hwd => ?_⟩
    have u3 := up1 (o := HO.dK (mergeK [] [((Sum.inr "count" : Key), V.int 0)])) hwd
    have f3 : upd G2 wd (HO.dK (mergeK [] [((Sum.inr "count" : Key), V.int 0)])) wd = some (.dK [(Sum.inr "count", .int 0)]) := upd_same
    generalize upd G2 wd (HO.dK (mergeK [] [((Sum.inr "count" : Key), V.int 0)])) = G3 at u3 f3 ⊢
    have u13 := u1.trans (u2.trans u3)
    have nwd : H4 wd = none := (u1.trans u2).free hwd
    have D3 := DM.same u13
    -- the trails
    refine ⟨13, rfl, by decide, by decide, fun D hD => lc_it (walk_range (lo := 0) (n := 13)) (fun i H' => ∃ tc : Nat → Addr, H' D = some (.lst ((List.range i).map fun c => V.ref (tc c))) ∧ (∀ c, c < i → H' (tc c) = some (.lst [(cellV (S0 2 tr) 2 c).getD .non]) ∧ G3 (tc c) = none ∧ tc c ≠ D) ∧ Same G3 H') ⟨fun _ => 0, upd_same, fun c hc => by omega, up1 hD⟩ (fun _ _ _ _ => trivial) ?_ ?_⟩
    · rintro i v J1 J2 hi ⟨tc, hL, htc, sj⟩ ⟨rfl, rfl⟩
      have hi13 : i < 13 := hi
      obtain ⟨v, t, hv, _⟩ := hcl i hi13
      have Dj := D3.same sj
      obtain ⟨dm, hm⟩ := Dj.ob
      refine ⟨rfl, _, rfl, m, dm, _, rfl, hm, rfl, _, rfl, m, 2, 2, 6, i, A, S0 2 tr, v, (by rw [show (((i : Nat)) : Int) = 0 + (i : Int) by omega]; rfl), Dj, by omega, hv, (by show 1 ≤ sizeLine; omega), fun p hp => ?_⟩
      have u4 := up1 (o := HO.lst [v]) hp
      have f4 : upd J2 p (HO.lst [v]) p = _ := upd_same
      generalize upd J2 p (HO.lst [v]) = J3 at u4 f4 ⊢
      have hpD : p ≠ D := fun z => by rw [z, hL] at hp; cases hp
      refine ⟨_, u4 _ _ hL, (by rw [List.length_map, List.length_range]; omega), fun c => if c = i then p else tc c, ?_, fun c hc => ?_, fun b o e => by rw [upd_ne (ne_of_none e hD)]; exact u4 _ _ (sj b o e)⟩
      · rw [upd_same, List.range_succ, List.map_append]
        refine congrArg some (congrArg HO.lst ?_)
        refine congr (congrArg _ (List.map_congr_left fun c hc => ?_)) ?_
        · have : c ≠ i := by have := List.mem_range.mp hc; omega
          show V.ref (tc c) = V.ref (if c = i then p else tc c)
          rw [if_neg this]
        · show [V.ref p] = [V.ref (if i = i then p else tc i)]
          rw [if_pos rfl]
      · by_cases e : c = i
        · subst e
          have e1 : (fun j => if j = c then p else tc j) c = p := if_pos rfl
          rw [e1, upd_ne hpD, f4, hv]
          exact ⟨rfl, sj.free hp, hpD⟩
        · have e1 : (fun j => if j = i then p else tc j) c = tc c := if_neg e
          rw [e1]
          obtain ⟨a1, a2, a3⟩ := htc c (by omega)
          exact ⟨by rw [upd_ne a3]; exact u4 _ _ a1, a2, a3⟩
    rintro J ⟨tc, hL, htc, sj⟩
    have fj := sj _ _ f3
    have hput1 : DPut J wd (.str "trails") (.ref D) (upd J wd (.dK [(Sum.inr "count", .int 0), (Sum.inr "trails", .ref D)])) := DPut.k (k := (Sum.inr "trails" : Key)) (v := V.ref D) fj (by show 1 < sizeLine; omega)
    refine ⟨_, rfl, wd, _, rfl, hput1, ?_⟩
    have oJ : ∀ {b : Addr} {o : HO}, J b = some o → b ≠ wd → upd J wd (.dK [(Sum.inr "count", .int 0), (Sum.inr "trails", .ref D)]) b = some o := fun {b o} e n => by rw [upd_ne n]; exact e
    have g1 : upd J wd (.dK [(Sum.inr "count", .int 0), (Sum.inr "trails", .ref D)]) wd = some (.dK [(Sum.inr "count", .int 0), (Sum.inr "trails", .ref D)]) := upd_same
    generalize upd J wd (.dK [(Sum.inr "count", .int 0), (Sum.inr "trails", .ref D)]) = J4 at oJ g1 ⊢
    -- the notes
    refine fun d0 hd0 => ?_
    have t0 := up1 (o := HO.dK []) hd0
    have k0 : upd J4 d0 (HO.dK []) d0 = _ := upd_same
    generalize upd J4 d0 (HO.dK []) = J5 at t0 k0 ⊢
    refine fun d1 hd1 => ?_
    have t1 := up1 (o := HO.dK []) hd1
    have k1 : upd J5 d1 (HO.dK []) d1 = _ := upd_same
    generalize upd J5 d1 (HO.dK []) = J6 at t1 k1 ⊢
    refine ⟨(by show 2 ≤ sizeLine; omega), fun l hl => ?_⟩
    have t2 := up1 (o := HO.lst [V.ref d0, V.ref d1]) hl
    have k2 : upd J6 l (HO.lst [V.ref d0, V.ref d1]) l = _ := upd_same
    generalize upd J6 l (HO.lst [V.ref d0, V.ref d1]) = J7 at t2 k2 ⊢
    have t02 := t0.trans (t1.trans t2)
    have hput2 : DPut J7 wd (.str "notes") (.ref l) (upd J7 wd (.dK [(Sum.inr "count", .int 0), (Sum.inr "trails", .ref D), (Sum.inr "notes", .ref l)])) := DPut.k (k := (Sum.inr "notes" : Key)) (v := V.ref l) (t02 _ _ g1) (by show 2 < sizeLine; omega)
    refine ⟨_, rfl, wd, _, rfl, hput2, ?_⟩
    have o7 : ∀ {b : Addr} {o : HO}, J7 b = some o → b ≠ wd → upd J7 wd (.dK [(Sum.inr "count", .int 0), (Sum.inr "trails", .ref D), (Sum.inr "notes", .ref l)]) b = some o := fun {b o} e n => by rw [upd_ne n]; exact e
    have g2 : upd J7 wd (.dK [(Sum.inr "count", .int 0), (Sum.inr "trails", .ref D), (Sum.inr "notes", .ref l)]) wd = some (.dK [(Sum.inr "count", .int 0), (Sum.inr "trails", .ref D), (Sum.inr "notes", .ref l)]) := upd_same
    generalize upd J7 wd (.dK [(Sum.inr "count", .int 0), (Sum.inr "trails", .ref D), (Sum.inr "notes", .ref l)]) = J8 at o7 g2 ⊢
    -- all together
    have jw : ∀ {b : Addr} {o : HO}, J b = some o → b ≠ wd → J8 b = some o := fun e n => o7 (t02 _ _ (oJ e n)) n
    have hw4 : ∀ {b : Addr} {o : HO}, H4 b = some o → J8 b = some o := fun {b o} e => jw (sj _ _ (u13 _ _ e)) (ne_of_none e nwd)
    have s48 : Same H4 J8 := fun b o e => hw4 e
    have nJ : ∀ b, J4 b = none → J b = none := fun b h => by
      cases e : J b with
      | none => rfl
      | some o =>
        by_cases q : b = wd
        · rw [q, g1] at h; cases h
        · rw [oJ e q] at h; cases h
    have n40 : H4 d0 = none := (u13.trans sj).free (nJ _ hd0)
    have n41 : H4 d1 = none := (u13.trans sj).free (nJ _ (t0.free hd1))
    have n4l : H4 l = none := (u13.trans sj).free (nJ _ ((t0.trans t1).free hl))
    have n4D : H4 D = none := u13.free hD
    have wdJ4 : wd ≠ d0 := fun z => by rw [← z, g1] at hd0; cases hd0
    have wdd1 : wd ≠ d1 := fun z => by have := t0 _ _ g1; rw [z, hd1] at this; cases this
    have wdl : wd ≠ l := fun z => by have := t1 _ _ (t0 _ _ g1); rw [z, hl] at this; cases this
    have wdD : wd ≠ D := fun z => by rw [← z, f3] at hD; cases hD
    have DlJ : ∀ b o, J b = some o → b ≠ wd → b ≠ l := fun b o e n z => by
      have := t1 _ _ (t0 _ _ (oJ e n))
      rw [z, hl] at this; cases this
    have R : WAt J8 ⟨wd, D, l, d0, d1, tc⟩ 0 (fun c => [(cellV (S0 2 tr) 2 c).getD .non]) (fun _ => []) := by
      refine ⟨g2, jw hL wdD.symm, o7 k2 wdl.symm, fun c hc => ?_, o7 (t2 _ _ (t1 _ _ k0)) wdJ4.symm, o7 (t2 _ _ k1) wdd1.symm, DlJ D _ hL wdD.symm, fun c hc => ?_, fun z => ?_, wdJ4, wdd1⟩
      · obtain ⟨a1, a2, a3⟩ := htc c hc
        exact jw a1 fun (z : tc c = wd) => by rw [z, f3] at a2; cases a2
      · obtain ⟨a1, a2, a3⟩ := htc c hc
        exact ⟨a3, DlJ _ _ a1 fun (z : tc c = wd) => by rw [z, f3] at a2; cases a2⟩
      · have z : d0 = d1 := z
        rw [← z, k0] at hd1; cases hd1
    have own4 : ∀ b, WOwn ⟨wd, D, l, d0, d1, tc⟩ b → H4 b = none := fun b hb => by
      rcases hb with e | e | e | e | e | ⟨c, hc, e⟩
      · exact e ▸ nwd
      · exact e ▸ n4D
      · exact e ▸ n4l
      · exact e ▸ n40
      · exact e ▸ n41
      · exact e ▸ u13.free (htc c hc).2.1
    have dj : ∀ b, WOwn ⟨wd, D, l, d0, d1, tc⟩ b → ¬ Foot m A 10 b := fun b hb hf => by
      obtain ⟨u, hu⟩ := foot_some DM hf
      rw [own4 b hb] at hu; cases hu
    have rel : Rel K J8 (S0 2 tr) (fun c => [(cellV (S0 2 tr) 2 c).getD .non]) (fun _ => []) := by
      refine ⟨rfl, fun c hc => ?_, fun th hth => ⟨[], ?_, .nil, (fun p hp => by cases hp), rfl⟩⟩
      · obtain ⟨v, t, h1, h2, h3, h4⟩ := hcl c hc
        show Twin K J8 (memT (S0 2 tr) c) [(cellV (S0 2 tr) 2 c).getD .non]
        rw [h2, h1]
        exact .one (DV.ext s48 _ _ h3) (DV.ext s48 _ _ h3) h4
      · have : th = 0 ∨ th = 1 := by omega
        rcases this with e | e <;> (subst e; rfl)
    have st : Stt K C M J8 m ⟨wd, D, l, d0, d1, tc⟩ A (S0 2 tr) (fun c => [(cellV (S0 2 tr) 2 c).getD .non]) (fun _ => []) 0 := ⟨⟨DM.same s48, R, dj⟩, so4, rel, rfl⟩
    have otp : J8 tp = some (.lst (ms.map V.int)) ∧ ¬ ZZ m A ⟨wd, D, l, d0, d1, tc⟩ tp := ⟨hw4 htp4, fun z => z.elim tpF fun z => by rw [own4 _ z] at htp4; cases htp4⟩
    generalize hW0 : (⟨wd, D, l, d0, d1, tc⟩ : WA) = W0 at st otp
    have ewd : wd = W0.wd := by rw [← hW0]
    rw [ewd]
    clear R own4 dj rel
    -- the range
    refine ⟨(by show 2 ≤ sizeLine; omega), fun l2 hl2 => ?_⟩
    have v1 := up1 (o := HO.lst [V.int 30, V.int 90]) hl2
    have g3 : upd J8 l2 (HO.lst [V.int 30, V.int 90]) l2 = _ := upd_same
    generalize upd J8 l2 (HO.lst [V.int 30, V.int 90]) = J9 at v1 g3 ⊢
    have st9 := st.same v1
    have otp9 := v1 _ _ otp.1
    have key : ∃ i : Int, atI [V.int 30, V.int 90] (atD ms 0 % 2) = some (.int i) ∧ i ≤ 90 ∧ 0 ≤ i := by
      obtain ⟨r, hr1, hr2⟩ : ∃ r : Nat, atD ms 0 % 2 = (r : Int) ∧ r < 2 := ⟨(atD ms 0 % 2).toNat, by omega, by omega⟩
      rw [hr1]
      match r, hr2 with
      | 0, _ => exact ⟨30, atI_nat (j := 0) rfl, by decide, by decide⟩
      | 1, _ => exact ⟨90, atI_nat (j := 1) rfl, by decide, by decide⟩
    obtain ⟨i0, hi0, hi90, hi00⟩ := key
    have hb : ∀ y : Int, 0 ≤ y → -(2 ^ 62) ≤ (if y < i0 then y else i0) ∧ (if y < i0 then y else i0) < 2 ^ 62 ∧ (if y < i0 then y else i0).toNat ≤ 90 := fun y hy => by split <;> omega
    have hmx : ∀ y : Int, 0 ≤ (if y > 0 then y else 0) := fun y => by split <;> omega
    obtain ⟨b1, b2, b3⟩ := hb _ (hmx ((((ms.map V.int).length : Int) - 1) / 3))
    refine ⟨_, rfl, tp, ms, 0, rfl, SqL.of otp9, _, _, rfl, rfl, (by show (0 : Int) < 2; decide), l2, _, _, _, rfl, rfl, SqL.of g3, hi0, _, rfl, tp, _, rfl, .inl (SqL.of otp9), _, _, rfl, rfl, _, _, rfl, rfl, (by unfold CDiv; omega), _, _, rfl, _, _, rfl, _, rfl, b1, b2, ?_⟩
    generalize (if (if (((ms.map V.int).length : Int) - 1) / 3 > 0 then (((ms.map V.int).length : Int) - 1) / 3 else 0) < i0 then (if (((ms.map V.int).length : Int) - 1) / 3 > 0 then (((ms.map V.int).length : Int) - 1) / 3 else 0) else i0).toNat = NN at b3
    refine for_range (lo := 0) (n := NN) (fun i σ H' => ∃ (W : WA) (A' : Adr) (X' : MS) (T : Nat → List V) (N : Nat → List (Nat × Int)) (x : Option V), σ = [some (.ref a), some (.ref tp), some (.ref m), some (.ref W0.wd), none, x] ∧ W.wd = W0.wd ∧ Stt K C M H' m W A' X' T N (2 * i) ∧ H' tp = some (.lst (ms.map V.int)) ∧ ¬ ZZ m A' W tp) ⟨W0, A, S0 2 tr, _, _, _, rfl, rfl, st9, otp9, otp.2⟩ ?_ ?_
    · rintro i σ H' hi ⟨W, A', X', T, N, x, rfl, ew, S, htp', ntp⟩
      have ez : (0 : Int) + (i : Int) = (i : Int) := by omega
      rw [ez, ← ew]
      refine ⟨_, rfl, _, rfl, _, rfl, _, rfl, _, _, rfl, rfl, .inl ⟨by decide, by decide⟩, _, _, rfl, rfl, tp, ms, 3 * i + 1, (by rw [show ((3 * i + 1 : Nat) : Int) = 3 * (i : Int) + 1 by omega]; rfl), SqL.of htp', ?_⟩
      refine ⟨_, rfl, _, rfl, _, _, rfl, rfl, .inl ⟨by decide, by decide⟩, _, _, rfl, rfl, tp, ms, 3 * i + 2, (by rw [show ((3 * i + 2 : Nat) : Int) = 3 * (i : Int) + 2 by omega]; rfl), SqL.of htp', ?_⟩
      refine ⟨_, rfl, _, rfl, _, _, rfl, rfl, .inl ⟨by decide, by decide⟩, _, _, rfl, rfl, tp, ms, 3 * i + 3, (by rw [show ((3 * i + 3 : Nat) : Int) = 3 * (i : Int) + 3 by omega]; rfl), SqL.of htp', ?_⟩
      refine ⟨m, W, A', X', T, N, 2 * i, _, _, _, rfl, S, by omega, fun H2 W2 A2 X2 T2 N2 ew2 S2 mv => ?_⟩
      obtain ⟨htp2, ntp2⟩ := mv _ _ htp' ntp
      refine ⟨_, rfl, iteF ?_⟩
      rw [← ew2]
      refine ⟨_, rfl, _, rfl, m, W2, A2, X2, T2, N2, rfl, S2.s.D, S2.s.R, S2.rel.psl, S2.ne, S2.rel.tw, fun H3 s3 => ?_⟩
      refine ⟨_, rfl, iteF ?_⟩
      exact ⟨W2, A2, X2, T2, N2, _, rfl, rfl, by rw [show 2 * (i + 1) = 2 * i + 2 by omega]; exact S2.same s3, s3 _ _ htp2, ntp2⟩
    · rintro σ H' ⟨W, A', X', T, N, x, rfl, ew, S, htp', ntp⟩
      rw [← ew]
      obtain ⟨dm, hm⟩ := S.s.D.ob
      refine ⟨_, rfl, m, dm, _, rfl, hm, rfl, m, A', X', rfl, S.s.D, fun p hp => ?_⟩
      have v2 := up1 (o := HO.lst X'.log) hp
      have g4 : upd H' p (HO.lst X'.log) p = _ := upd_same
      generalize upd H' p (HO.lst X'.log) = H2 at v2 g4 ⊢
      refine ⟨p, _, rfl, .inl (SqL.of g4), _, rfl, W.wd, _, rfl, (S.s.R.same v2).gc, rfl, ?_⟩
      rw [show decide (V.int (X'.log.length : Int) = V.int X'.count) = true from decide_eq_true (congrArg V.int S.lg)]
      exact kQ H2
end
end Dk

set_option maxHeartbeats 8000000
namespace Dk
open PySem PySem.Spec PyProof.Rows L2
theorem kit_self {K : PySem.W.Frag} {N : Addr} : PySem.W.kitOne K (.ref N) (.ref N) = some true := by
  unfold PySem.W.kitOne
  rw [if_pos (beq_self_eq_true _)]
theorem all_mk {l : PySem.W.OpenLaw} {w : World} {K : PySem.W.Frag} {h : Heap} {mg : Str → Option Value} {fa C M NV LE E0 E1 f1 f2 f3 f4 f5 f6 f7 f8 f9 f10 f11 f12 f13 f14 f15 f16 f17 f18 f19 f20 f21 f22 f23 f24 f25 f26 f27 f28 f29 f30 f31 f32 f33 f34 f35 f36 f37 f38 f39 f40 f41 f42 f43 f44 f45 f46 f47 : Addr} (X : K.In h) (G : h.Ns mainGlobals mg) (hfa : mg "law" = some (.ref fa))
    {tI : Tok} {dE0 dE1 : Option Addr} {nE0 nE1 : Nat} {sE0 sE1 : Array (Option Value)}
    {od1 an1 : Option Addr} {sl1 : Array (Option Value)} {oc1 kV1 dc1 pm1 cd1 ct1 : Value}
    {od2 an2 : Option Addr} {sl2 : Array (Option Value)} {oc2 kV2 dc2 pm2 cd2 ct2 : Value}
    {od3 an3 : Option Addr} {sl3 : Array (Option Value)} {oc3 kV3 dc3 pm3 cd3 ct3 : Value}
    {od4 an4 : Option Addr} {sl4 : Array (Option Value)} {oc4 kV4 dc4 pm4 cd4 ct4 : Value}
    {od5 an5 : Option Addr} {sl5 : Array (Option Value)} {oc5 kV5 dc5 pm5 cd5 ct5 : Value}
    {od6 an6 : Option Addr} {sl6 : Array (Option Value)} {oc6 kV6 dc6 pm6 cd6 ct6 : Value}
    {od7 an7 : Option Addr} {sl7 : Array (Option Value)} {oc7 kV7 dc7 pm7 cd7 ct7 : Value}
    {od8 an8 : Option Addr} {sl8 : Array (Option Value)} {oc8 kV8 dc8 pm8 cd8 ct8 : Value}
    {od9 an9 : Option Addr} {sl9 : Array (Option Value)} {oc9 kV9 dc9 pm9 cd9 ct9 : Value}
    {od10 an10 : Option Addr} {sl10 : Array (Option Value)} {oc10 kV10 dc10 pm10 cd10 ct10 : Value}
    {od11 an11 : Option Addr} {sl11 : Array (Option Value)} {oc11 kV11 dc11 pm11 cd11 ct11 : Value}
    {od12 an12 : Option Addr} {sl12 : Array (Option Value)} {oc12 kV12 dc12 pm12 cd12 ct12 : Value}
    {od13 an13 : Option Addr} {sl13 : Array (Option Value)} {oc13 kV13 dc13 pm13 cd13 ct13 : Value}
    {od14 an14 : Option Addr} {sl14 : Array (Option Value)} {oc14 kV14 dc14 pm14 cd14 ct14 : Value}
    {od15 an15 : Option Addr} {sl15 : Array (Option Value)} {oc15 kV15 dc15 pm15 cd15 ct15 : Value}
    {od16 an16 : Option Addr} {sl16 : Array (Option Value)} {oc16 kV16 dc16 pm16 cd16 ct16 : Value}
    {od17 an17 : Option Addr} {sl17 : Array (Option Value)} {oc17 kV17 dc17 pm17 cd17 ct17 : Value}
    {od18 an18 : Option Addr} {sl18 : Array (Option Value)} {oc18 kV18 dc18 pm18 cd18 ct18 : Value}
    {od19 an19 : Option Addr} {sl19 : Array (Option Value)} {oc19 kV19 dc19 pm19 cd19 ct19 : Value}
    {od20 an20 : Option Addr} {sl20 : Array (Option Value)} {oc20 kV20 dc20 pm20 cd20 ct20 : Value}
    {od21 an21 : Option Addr} {sl21 : Array (Option Value)} {oc21 kV21 dc21 pm21 cd21 ct21 : Value}
    {od22 an22 : Option Addr} {sl22 : Array (Option Value)} {oc22 kV22 dc22 pm22 cd22 ct22 : Value}
    {od23 an23 : Option Addr} {sl23 : Array (Option Value)} {oc23 kV23 dc23 pm23 cd23 ct23 : Value}
    {od24 an24 : Option Addr} {sl24 : Array (Option Value)} {oc24 kV24 dc24 pm24 cd24 ct24 : Value}
    {od25 an25 : Option Addr} {sl25 : Array (Option Value)} {oc25 kV25 dc25 pm25 cd25 ct25 : Value}
    {od26 an26 : Option Addr} {sl26 : Array (Option Value)} {oc26 kV26 dc26 pm26 cd26 ct26 : Value}
    {od27 an27 : Option Addr} {sl27 : Array (Option Value)} {oc27 kV27 dc27 pm27 cd27 ct27 : Value}
    {od28 an28 : Option Addr} {sl28 : Array (Option Value)} {oc28 kV28 dc28 pm28 cd28 ct28 : Value}
    {od29 an29 : Option Addr} {sl29 : Array (Option Value)} {oc29 kV29 dc29 pm29 cd29 ct29 : Value}
    {od30 an30 : Option Addr} {sl30 : Array (Option Value)} {oc30 kV30 dc30 pm30 cd30 ct30 : Value}
    {od31 an31 : Option Addr} {sl31 : Array (Option Value)} {oc31 kV31 dc31 pm31 cd31 ct31 : Value}
    {od32 an32 : Option Addr} {sl32 : Array (Option Value)} {oc32 kV32 dc32 pm32 cd32 ct32 : Value}
    {od33 an33 : Option Addr} {sl33 : Array (Option Value)} {oc33 kV33 dc33 pm33 cd33 ct33 : Value}
    {od34 an34 : Option Addr} {sl34 : Array (Option Value)} {oc34 kV34 dc34 pm34 cd34 ct34 : Value}
    {od35 an35 : Option Addr} {sl35 : Array (Option Value)} {oc35 kV35 dc35 pm35 cd35 ct35 : Value}
    {od36 an36 : Option Addr} {sl36 : Array (Option Value)} {oc36 kV36 dc36 pm36 cd36 ct36 : Value}
    {od37 an37 : Option Addr} {sl37 : Array (Option Value)} {oc37 kV37 dc37 pm37 cd37 ct37 : Value}
    {od38 an38 : Option Addr} {sl38 : Array (Option Value)} {oc38 kV38 dc38 pm38 cd38 ct38 : Value}
    {od39 an39 : Option Addr} {sl39 : Array (Option Value)} {oc39 kV39 dc39 pm39 cd39 ct39 : Value}
    {od40 an40 : Option Addr} {sl40 : Array (Option Value)} {oc40 kV40 dc40 pm40 cd40 ct40 : Value}
    {od41 an41 : Option Addr} {sl41 : Array (Option Value)} {oc41 kV41 dc41 pm41 cd41 ct41 : Value}
    {od42 an42 : Option Addr} {sl42 : Array (Option Value)} {oc42 kV42 dc42 pm42 cd42 ct42 : Value}
    {od43 an43 : Option Addr} {sl43 : Array (Option Value)} {oc43 kV43 dc43 pm43 cd43 ct43 : Value}
    {od44 an44 : Option Addr} {sl44 : Array (Option Value)} {oc44 kV44 dc44 pm44 cd44 ct44 : Value}
    {od45 an45 : Option Addr} {sl45 : Array (Option Value)} {oc45 kV45 dc45 pm45 cd45 ct45 : Value}
    {od46 an46 : Option Addr} {sl46 : Array (Option Value)} {oc46 kV46 dc46 pm46 cd46 ct46 : Value}
    {od47 an47 : Option Addr} {sl47 : Array (Option Value)} {oc47 kV47 dc47 pm47 cd47 ct47 : Value}
    (gC : PySem.W.nsIn K mainGlobals "Layout" = some (some (.ref C)))
    (gM : PySem.W.nsIn K mainGlobals "Memory" = some (some (.ref M)))
    (gNV : PySem.W.nsIn K mainGlobals "NotValid" = some (some (.ref NV)))
    (gLE : PySem.W.nsIn K mainGlobals "LineError" = some (some (.ref LE)))
    (a1 : PySem.W.nsIn K mainGlobals "is_whole" = some (some (.ref f1)))
    (l1 : K.lookup f1 = some ⟨oc1, od1, .func (PySem.W.fnOf "is_whole" "is_whole" (defArgs sWhole) (defBody sWhole) (defScope sWhole) .none kV1 dc1 pm1 an1 cd1 ct1), sl1⟩)
    (c1 : PySem.W.codeIn K cd1 "is_whole" = true)
    (k1 : PySem.W.keepIn K (.ref f1) = true)
    (a2 : PySem.W.nsIn K mainGlobals "is_within" = some (some (.ref f2)))
    (l2 : K.lookup f2 = some ⟨oc2, od2, .func (PySem.W.fnOf "is_within" "is_within" (defArgs sWithin) (defBody sWithin) (defScope sWithin) .none kV2 dc2 pm2 an2 cd2 ct2), sl2⟩)
    (c2 : PySem.W.codeIn K cd2 "is_within" = true)
    (k2 : PySem.W.keepIn K (.ref f2) = true)
    (a3 : PySem.W.nsIn K mainGlobals "is_many" = some (some (.ref f3)))
    (l3 : K.lookup f3 = some ⟨oc3, od3, .func (PySem.W.fnOf "is_many" "is_many" (defArgs sMany) (defBody sMany) (defScope sMany) .none kV3 dc3 pm3 an3 cd3 ct3), sl3⟩)
    (c3 : PySem.W.codeIn K cd3 "is_many" = true)
    (k3 : PySem.W.keepIn K (.ref f3) = true)
    (a4 : PySem.W.nsIn K mainGlobals "is_value" = some (some (.ref f4)))
    (l4 : K.lookup f4 = some ⟨oc4, od4, .func (PySem.W.fnOf "is_value" "is_value" (defArgs sIsValue) (defBody sIsValue) (defScope sIsValue) .none kV4 dc4 pm4 an4 cd4 ct4), sl4⟩)
    (c4 : PySem.W.codeIn K cd4 "is_value" = true)
    (k4 : PySem.W.keepIn K (.ref f4) = true)
    (a5 : PySem.W.nsIn K mainGlobals "is_same" = some (some (.ref f5)))
    (l5 : K.lookup f5 = some ⟨oc5, od5, .func (PySem.W.fnOf "is_same" "is_same" (defArgs sIsSame) (defBody sIsSame) (defScope sIsSame) .none kV5 dc5 pm5 an5 cd5 ct5), sl5⟩)
    (c5 : PySem.W.codeIn K cd5 "is_same" = true)
    (k5 : PySem.W.keepIn K (.ref f5) = true)
    (a6 : PySem.W.nsIn K mainGlobals "is_access" = some (some (.ref f6)))
    (l6 : K.lookup f6 = some ⟨oc6, od6, .func (PySem.W.fnOf "is_access" "is_access" (defArgs sIsAcc) (defBody sIsAcc) (defScope sIsAcc) .none kV6 dc6 pm6 an6 cd6 ct6), sl6⟩)
    (c6 : PySem.W.codeIn K cd6 "is_access" = true)
    (k6 : PySem.W.keepIn K (.ref f6) = true)
    (a7 : PySem.W.nsIn K mainGlobals "passing_values" = some (some (.ref f7)))
    (l7 : K.lookup f7 = some ⟨oc7, od7, .func (PySem.W.fnOf "passing_values" "passing_values" (defArgs sPass) (defBody sPass) (defScope sPass) .none kV7 dc7 pm7 an7 cd7 ct7), sl7⟩)
    (c7 : PySem.W.codeIn K cd7 "passing_values" = true)
    (k7 : PySem.W.keepIn K (.ref f7) = true)
    (a8 : PySem.W.nsIn K mainGlobals "first_trails" = some (some (.ref f8)))
    (l8 : K.lookup f8 = some ⟨oc8, od8, .func (PySem.W.fnOf "first_trails" "first_trails" (defArgs sTrails) (defBody sTrails) (defScope sTrails) .none kV8 dc8 pm8 an8 cd8 ct8), sl8⟩)
    (c8 : PySem.W.codeIn K cd8 "first_trails" = true)
    (k8 : PySem.W.keepIn K (.ref f8) = true)
    (a9 : PySem.W.nsIn K mainGlobals "no_notes" = some (some (.ref f9)))
    (l9 : K.lookup f9 = some ⟨oc9, od9, .func (PySem.W.fnOf "no_notes" "no_notes" (defArgs sNotes) (defBody sNotes) (defScope sNotes) .none kV9 dc9 pm9 an9 cd9 ct9), sl9⟩)
    (c9 : PySem.W.codeIn K cd9 "no_notes" = true)
    (k9 : PySem.W.keepIn K (.ref f9) = true)
    (a10 : PySem.W.nsIn K mainGlobals "_law_tape" = some (some (.ref f10)))
    (l10 : K.lookup f10 = some ⟨oc10, od10, .func (PySem.W.fnOf "_law_tape" "_law_tape" (defArgs sTape) (defBody sTape) (defScope sTape) .none kV10 dc10 pm10 an10 cd10 ct10), sl10⟩)
    (c10 : PySem.W.codeIn K cd10 "_law_tape" = true)
    (k10 : PySem.W.keepIn K (.ref f10) = true)
    (a11 : PySem.W.nsIn K mainGlobals "_law_at" = some (some (.ref f11)))
    (l11 : K.lookup f11 = some ⟨oc11, od11, .func (PySem.W.fnOf "_law_at" "_law_at" (defArgs sAt) (defBody sAt) (defScope sAt) .none kV11 dc11 pm11 an11 cd11 ct11), sl11⟩)
    (c11 : PySem.W.codeIn K cd11 "_law_at" = true)
    (k11 : PySem.W.keepIn K (.ref f11) = true)
    (a12 : PySem.W.nsIn K mainGlobals "_law_value" = some (some (.ref f12)))
    (l12 : K.lookup f12 = some ⟨oc12, od12, .func (PySem.W.fnOf "_law_value" "_law_value" (defArgs sVal) (defBody sVal) (defScope sVal) .none kV12 dc12 pm12 an12 cd12 ct12), sl12⟩)
    (c12 : PySem.W.codeIn K cd12 "_law_value" = true)
    (k12 : PySem.W.keepIn K (.ref f12) = true)
    (a13 : PySem.W.nsIn K mainGlobals "_law_do" = some (some (.ref f13)))
    (l13 : K.lookup f13 = some ⟨oc13, od13, .func (PySem.W.fnOf "_law_do" "_law_do" (defArgs sDo) (defBody sDo) (defScope sDo) .none kV13 dc13 pm13 an13 cd13 ct13), sl13⟩)
    (c13 : PySem.W.codeIn K cd13 "_law_do" = true)
    (k13 : PySem.W.keepIn K (.ref f13) = true)
    (a14 : PySem.W.nsIn K mainGlobals "_law_wrong" = some (some (.ref f14)))
    (l14 : K.lookup f14 = some ⟨oc14, od14, .func (PySem.W.fnOf "_law_wrong" "_law_wrong" (defArgs sWrong) (defBody sWrong) (defScope sWrong) .none kV14 dc14 pm14 an14 cd14 ct14), sl14⟩)
    (c14 : PySem.W.codeIn K cd14 "_law_wrong" = true)
    (k14 : PySem.W.keepIn K (.ref f14) = true)
    (a15 : PySem.W.nsIn K mainGlobals "_law_give" = some (some (.ref f15)))
    (l15 : K.lookup f15 = some ⟨oc15, od15, .func (PySem.W.fnOf "_law_give" "_law_give" (defArgs sGiv) (defBody sGiv) (defScope sGiv) .none kV15 dc15 pm15 an15 cd15 ct15), sl15⟩)
    (c15 : PySem.W.codeIn K cd15 "_law_give" = true)
    (k15 : PySem.W.keepIn K (.ref f15) = true)
    (a16 : PySem.W.nsIn K mainGlobals "_law_shorten" = some (some (.ref f16)))
    (l16 : K.lookup f16 = some ⟨oc16, od16, .func (PySem.W.fnOf "_law_shorten" "_law_shorten" (defArgs sShr) (defBody sShr) (defScope sShr) .none kV16 dc16 pm16 an16 cd16 ct16), sl16⟩)
    (c16 : PySem.W.codeIn K cd16 "_law_shorten" = true)
    (k16 : PySem.W.keepIn K (.ref f16) = true)
    (a17 : PySem.W.nsIn K mainGlobals "_law_due" = some (some (.ref f17)))
    (l17 : K.lookup f17 = some ⟨oc17, od17, .func (PySem.W.fnOf "_law_due" "_law_due" (defArgs sDue) (defBody sDue) (defScope sDue) .none kV17 dc17 pm17 an17 cd17 ct17), sl17⟩)
    (c17 : PySem.W.codeIn K cd17 "_law_due" = true)
    (k17 : PySem.W.keepIn K (.ref f17) = true)
    (a18 : PySem.W.nsIn K mainGlobals "_law_cut" = some (some (.ref f18)))
    (l18 : K.lookup f18 = some ⟨oc18, od18, .func (PySem.W.fnOf "_law_cut" "_law_cut" (defArgs sLCut) (defBody sLCut) (defScope sLCut) .none kV18 dc18 pm18 an18 cd18 ct18), sl18⟩)
    (c18 : PySem.W.codeIn K cd18 "_law_cut" = true)
    (k18 : PySem.W.keepIn K (.ref f18) = true)
    (a19 : PySem.W.nsIn K mainGlobals "_law_request" = some (some (.ref f19)))
    (l19 : K.lookup f19 = some ⟨oc19, od19, .func (PySem.W.fnOf "_law_request" "_law_request" (defArgs sReq) (defBody sReq) (defScope sReq) .none kV19 dc19 pm19 an19 cd19 ct19), sl19⟩)
    (c19 : PySem.W.codeIn K cd19 "_law_request" = true)
    (k19 : PySem.W.keepIn K (.ref f19) = true)
    (a20 : PySem.W.nsIn K mainGlobals "_law_same" = some (some (.ref f20)))
    (l20 : K.lookup f20 = some ⟨oc20, od20, .func (PySem.W.fnOf "_law_same" "_law_same" (defArgs sSame) (defBody sSame) (defScope sSame) .none kV20 dc20 pm20 an20 cd20 ct20), sl20⟩)
    (c20 : PySem.W.codeIn K cd20 "_law_same" = true)
    (k20 : PySem.W.keepIn K (.ref f20) = true)
    (a21 : PySem.W.nsIn K mainGlobals "_law_looks" = some (some (.ref f21)))
    (l21 : K.lookup f21 = some ⟨oc21, od21, .func (PySem.W.fnOf "_law_looks" "_law_looks" (defArgs sLooks) (defBody sLooks) (defScope sLooks) .none kV21 dc21 pm21 an21 cd21 ct21), sl21⟩)
    (c21 : PySem.W.codeIn K cd21 "_law_looks" = true)
    (k21 : PySem.W.keepIn K (.ref f21) = true)
    (a22 : PySem.W.nsIn K mainGlobals "_law_step" = some (some (.ref f22)))
    (l22 : K.lookup f22 = some ⟨oc22, od22, .func (PySem.W.fnOf "_law_step" "_law_step" (defArgs sStep) (defBody sStep) (defScope sStep) .none kV22 dc22 pm22 an22 cd22 ct22), sl22⟩)
    (c22 : PySem.W.codeIn K cd22 "_law_step" = true)
    (k22 : PySem.W.keepIn K (.ref f22) = true)
    (a23 : PySem.W.nsIn K mainGlobals "law" = some (some (.ref f23)))
    (l23 : K.lookup f23 = some ⟨oc23, od23, .func (PySem.W.fnOf "law" "law" (defArgs sLaw) (defBody sLaw) (defScope sLaw) .none kV23 dc23 pm23 an23 cd23 ct23), sl23⟩)
    (c23 : PySem.W.codeIn K cd23 "law" = true)
    (k23 : PySem.W.keepIn K (.ref f23) = true)
    (a24 : PySem.W.findIn K (.ref C) "__init__" = some (some (.ref f24)))
    (i24 : PySem.W.isFn K (.ref f24) = true)
    (l24 : K.lookup f24 = some ⟨oc24, od24, .func (PySem.W.fnOf "__init__" "Layout.__init__" (defArgs sLInit) (defBody sLInit) (defScope sLInit) .none kV24 dc24 pm24 an24 cd24 ct24), sl24⟩)
    (c24 : PySem.W.codeIn K cd24 "Layout.__init__" = true)
    (k24 : PySem.W.keepIn K (.ref f24) = true)
    (a25 : PySem.W.findIn K (.ref C) "epoch" = some (some (.ref f25)))
    (i25 : PySem.W.isFn K (.ref f25) = true)
    (l25 : K.lookup f25 = some ⟨oc25, od25, .func (PySem.W.fnOf "epoch" "Layout.epoch" (defArgs sEpoch) (defBody sEpoch) (defScope sEpoch) .none kV25 dc25 pm25 an25 cd25 ct25), sl25⟩)
    (c25 : PySem.W.codeIn K cd25 "Layout.epoch" = true)
    (k25 : PySem.W.keepIn K (.ref f25) = true)
    (a26 : PySem.W.findIn K (.ref C) "epoch_slot" = some (some (.ref f26)))
    (i26 : PySem.W.isFn K (.ref f26) = true)
    (l26 : K.lookup f26 = some ⟨oc26, od26, .func (PySem.W.fnOf "epoch_slot" "Layout.epoch_slot" (defArgs sESlot) (defBody sESlot) (defScope sESlot) .none kV26 dc26 pm26 an26 cd26 ct26), sl26⟩)
    (c26 : PySem.W.codeIn K cd26 "Layout.epoch_slot" = true)
    (k26 : PySem.W.keepIn K (.ref f26) = true)
    (a27 : PySem.W.findIn K (.ref C) "call_slot" = some (some (.ref f27)))
    (i27 : PySem.W.isFn K (.ref f27) = true)
    (l27 : K.lookup f27 = some ⟨oc27, od27, .func (PySem.W.fnOf "call_slot" "Layout.call_slot" (defArgs sCSlot) (defBody sCSlot) (defScope sCSlot) .none kV27 dc27 pm27 an27 cd27 ct27), sl27⟩)
    (c27 : PySem.W.codeIn K cd27 "Layout.call_slot" = true)
    (k27 : PySem.W.keepIn K (.ref f27) = true)
    (a28 : PySem.W.findIn K (.ref C) "word" = some (some (.ref f28)))
    (i28 : PySem.W.isFn K (.ref f28) = true)
    (l28 : K.lookup f28 = some ⟨oc28, od28, .func (PySem.W.fnOf "word" "Layout.word" (defArgs sWord) (defBody sWord) (defScope sWord) .none kV28 dc28 pm28 an28 cd28 ct28), sl28⟩)
    (c28 : PySem.W.codeIn K cd28 "Layout.word" = true)
    (k28 : PySem.W.keepIn K (.ref f28) = true)
    (a29 : PySem.W.findIn K (.ref C) "record" = some (some (.ref f29)))
    (i29 : PySem.W.isFn K (.ref f29) = true)
    (l29 : K.lookup f29 = some ⟨oc29, od29, .func (PySem.W.fnOf "record" "Layout.record" (defArgs sRecord) (defBody sRecord) (defScope sRecord) .none kV29 dc29 pm29 an29 cd29 ct29), sl29⟩)
    (c29 : PySem.W.codeIn K cd29 "Layout.record" = true)
    (k29 : PySem.W.keepIn K (.ref f29) = true)
    (a30 : PySem.W.findIn K (.ref C) "cells" = some (some (.ref f30)))
    (i30 : PySem.W.isFn K (.ref f30) = true)
    (l30 : K.lookup f30 = some ⟨oc30, od30, .func (PySem.W.fnOf "cells" "Layout.cells" (defArgs sCells) (defBody sCells) (defScope sCells) .none kV30 dc30 pm30 an30 cd30 ct30), sl30⟩)
    (c30 : PySem.W.codeIn K cd30 "Layout.cells" = true)
    (k30 : PySem.W.keepIn K (.ref f30) = true)
    (a31 : PySem.W.findIn K (.ref C) "is_cell" = some (some (.ref f31)))
    (i31 : PySem.W.isFn K (.ref f31) = true)
    (l31 : K.lookup f31 = some ⟨oc31, od31, .func (PySem.W.fnOf "is_cell" "Layout.is_cell" (defArgs sIsCell) (defBody sIsCell) (defScope sIsCell) .none kV31 dc31 pm31 an31 cd31 ct31), sl31⟩)
    (c31 : PySem.W.codeIn K cd31 "Layout.is_cell" = true)
    (k31 : PySem.W.keepIn K (.ref f31) = true)
    (a32 : PySem.W.findIn K (.ref C) "is_lasting" = some (some (.ref f32)))
    (i32 : PySem.W.isFn K (.ref f32) = true)
    (l32 : K.lookup f32 = some ⟨oc32, od32, .func (PySem.W.fnOf "is_lasting" "Layout.is_lasting" (defArgs sIsLast) (defBody sIsLast) (defScope sIsLast) .none kV32 dc32 pm32 an32 cd32 ct32), sl32⟩)
    (c32 : PySem.W.codeIn K cd32 "Layout.is_lasting" = true)
    (k32 : PySem.W.keepIn K (.ref f32) = true)
    (a33 : PySem.W.findIn K (.ref C) "has_thread" = some (some (.ref f33)))
    (i33 : PySem.W.isFn K (.ref f33) = true)
    (l33 : K.lookup f33 = some ⟨oc33, od33, .func (PySem.W.fnOf "has_thread" "Layout.has_thread" (defArgs sHasT) (defBody sHasT) (defScope sHasT) .none kV33 dc33 pm33 an33 cd33 ct33), sl33⟩)
    (c33 : PySem.W.codeIn K cd33 "Layout.has_thread" = true)
    (k33 : PySem.W.keepIn K (.ref f33) = true)
    (a34 : PySem.W.findIn K (.ref M) "__init__" = some (some (.ref f34)))
    (i34 : PySem.W.isFn K (.ref f34) = true)
    (l34 : K.lookup f34 = some ⟨oc34, od34, .func (PySem.W.fnOf "__init__" "Memory.__init__" (defArgs sMInit) (defBody sMInit) (defScope sMInit) .none kV34 dc34 pm34 an34 cd34 ct34), sl34⟩)
    (c34 : PySem.W.codeIn K cd34 "Memory.__init__" = true)
    (k34 : PySem.W.keepIn K (.ref f34) = true)
    (a35 : PySem.W.findIn K (.ref M) "access" = some (some (.ref f35)))
    (i35 : PySem.W.isFn K (.ref f35) = true)
    (l35 : K.lookup f35 = some ⟨oc35, od35, .func (PySem.W.fnOf "access" "Memory.access" (defArgs sAccess) (defBody sAccess) (defScope sAccess) .none kV35 dc35 pm35 an35 cd35 ct35), sl35⟩)
    (c35 : PySem.W.codeIn K cd35 "Memory.access" = true)
    (k35 : PySem.W.keepIn K (.ref f35) = true)
    (a36 : PySem.W.findIn K (.ref M) "peek" = some (some (.ref f36)))
    (i36 : PySem.W.isFn K (.ref f36) = true)
    (l36 : K.lookup f36 = some ⟨oc36, od36, .func (PySem.W.fnOf "peek" "Memory.peek" (defArgs sPeek) (defBody sPeek) (defScope sPeek) .none kV36 dc36 pm36 an36 cd36 ct36), sl36⟩)
    (c36 : PySem.W.codeIn K cd36 "Memory.peek" = true)
    (k36 : PySem.W.keepIn K (.ref f36) = true)
    (a37 : PySem.W.findIn K (.ref M) "lasting" = some (some (.ref f37)))
    (i37 : PySem.W.isFn K (.ref f37) = true)
    (l37 : K.lookup f37 = some ⟨oc37, od37, .func (PySem.W.fnOf "lasting" "Memory.lasting" (defArgs sLasting) (defBody sLasting) (defScope sLasting) .none kV37 dc37 pm37 an37 cd37 ct37), sl37⟩)
    (c37 : PySem.W.codeIn K cd37 "Memory.lasting" = true)
    (k37 : PySem.W.keepIn K (.ref f37) = true)
    (a38 : PySem.W.findIn K (.ref M) "trail" = some (some (.ref f38)))
    (i38 : PySem.W.isFn K (.ref f38) = true)
    (l38 : K.lookup f38 = some ⟨oc38, od38, .func (PySem.W.fnOf "trail" "Memory.trail" (defArgs sTrail) (defBody sTrail) (defScope sTrail) .none kV38 dc38 pm38 an38 cd38 ct38), sl38⟩)
    (c38 : PySem.W.codeIn K cd38 "Memory.trail" = true)
    (k38 : PySem.W.keepIn K (.ref f38) = true)
    (a39 : PySem.W.findIn K (.ref M) "drift" = some (some (.ref f39)))
    (i39 : PySem.W.isFn K (.ref f39) = true)
    (l39 : K.lookup f39 = some ⟨oc39, od39, .func (PySem.W.fnOf "drift" "Memory.drift" (defArgs sDrift) (defBody sDrift) (defScope sDrift) .none kV39 dc39 pm39 an39 cd39 ct39), sl39⟩)
    (c39 : PySem.W.codeIn K cd39 "Memory.drift" = true)
    (k39 : PySem.W.keepIn K (.ref f39) = true)
    (a40 : PySem.W.findIn K (.ref M) "cut" = some (some (.ref f40)))
    (i40 : PySem.W.isFn K (.ref f40) = true)
    (l40 : K.lookup f40 = some ⟨oc40, od40, .func (PySem.W.fnOf "cut" "Memory.cut" (defArgs sCut) (defBody sCut) (defScope sCut) .none kV40 dc40 pm40 an40 cd40 ct40), sl40⟩)
    (c40 : PySem.W.codeIn K cd40 "Memory.cut" = true)
    (k40 : PySem.W.keepIn K (.ref f40) = true)
    (a41 : PySem.W.findIn K (.ref M) "log" = some (some (.ref f41)))
    (i41 : PySem.W.isFn K (.ref f41) = true)
    (l41 : K.lookup f41 = some ⟨oc41, od41, .func (PySem.W.fnOf "log" "Memory.log" (defArgs sLog) (defBody sLog) (defScope sLog) .none kV41 dc41 pm41 an41 cd41 ct41), sl41⟩)
    (c41 : PySem.W.codeIn K cd41 "Memory.log" = true)
    (k41 : PySem.W.keepIn K (.ref f41) = true)
    (a42 : PySem.W.findIn K (.ref M) "_ask_lasting" = some (some (.ref f42)))
    (i42 : PySem.W.isFn K (.ref f42) = true)
    (l42 : K.lookup f42 = some ⟨oc42, od42, .func (PySem.W.fnOf "_ask_lasting" "Memory._ask_lasting" (defArgs sAsk) (defBody sAsk) (defScope sAsk) .none kV42 dc42 pm42 an42 cd42 ct42), sl42⟩)
    (c42 : PySem.W.codeIn K cd42 "Memory._ask_lasting" = true)
    (k42 : PySem.W.keepIn K (.ref f42) = true)
    (a43 : PySem.W.findIn K (.ref M) "_result" = some (some (.ref f43)))
    (i43 : PySem.W.isFn K (.ref f43) = true)
    (l43 : K.lookup f43 = some ⟨oc43, od43, .func (PySem.W.fnOf "_result" "Memory._result" (defArgs sResult) (defBody sResult) (defScope sResult) .none kV43 dc43 pm43 an43 cd43 ct43), sl43⟩)
    (c43 : PySem.W.codeIn K cd43 "Memory._result" = true)
    (k43 : PySem.W.keepIn K (.ref f43) = true)
    (a44 : PySem.W.findIn K (.ref M) "_give" = some (some (.ref f44)))
    (i44 : PySem.W.isFn K (.ref f44) = true)
    (l44 : K.lookup f44 = some ⟨oc44, od44, .func (PySem.W.fnOf "_give" "Memory._give" (defArgs sGive) (defBody sGive) (defScope sGive) .none kV44 dc44 pm44 an44 cd44 ct44), sl44⟩)
    (c44 : PySem.W.codeIn K cd44 "Memory._give" = true)
    (k44 : PySem.W.keepIn K (.ref f44) = true)
    (a45 : PySem.W.findIn K (.ref M) "_give_if" = some (some (.ref f45)))
    (i45 : PySem.W.isFn K (.ref f45) = true)
    (l45 : K.lookup f45 = some ⟨oc45, od45, .func (PySem.W.fnOf "_give_if" "Memory._give_if" (defArgs sGiveIf) (defBody sGiveIf) (defScope sGiveIf) .none kV45 dc45 pm45 an45 cd45 ct45), sl45⟩)
    (c45 : PySem.W.codeIn K cd45 "Memory._give_if" = true)
    (k45 : PySem.W.keepIn K (.ref f45) = true)
    (a46 : PySem.W.findIn K (.ref M) "_fence" = some (some (.ref f46)))
    (i46 : PySem.W.isFn K (.ref f46) = true)
    (l46 : K.lookup f46 = some ⟨oc46, od46, .func (PySem.W.fnOf "_fence" "Memory._fence" (defArgs sFence) (defBody sFence) (defScope sFence) .none kV46 dc46 pm46 an46 cd46 ct46), sl46⟩)
    (c46 : PySem.W.codeIn K cd46 "Memory._fence" = true)
    (k46 : PySem.W.keepIn K (.ref f46) = true)
    (a47 : PySem.W.findIn K (.ref M) "_shorten" = some (some (.ref f47)))
    (i47 : PySem.W.isFn K (.ref f47) = true)
    (l47 : K.lookup f47 = some ⟨oc47, od47, .func (PySem.W.fnOf "_shorten" "Memory._shorten" (defArgs sShort) (defBody sShort) (defScope sShort) .none kV47 dc47 pm47 an47 cd47 ct47), sl47⟩)
    (c47 : PySem.W.codeIn K cd47 "Memory._shorten" = true)
    (k47 : PySem.W.keepIn K (.ref f47) = true)
    (pgC : PySem.W.plainGet K C Str.empty = true)
    (hdC : PySem.W.hasDictIn K C = true)
    (poC : PySem.W.plainOver K C = true)
    (saC : PySem.W.findIn K (.ref C) "__setattr__" = some (some (.builtin "object.__setattr__")))
    (mkC : PySem.W.makesIn K C = true)
    (kcC : PySem.W.keepIn K (.ref C) = true)
    (pgM : PySem.W.plainGet K M Str.empty = true)
    (hdM : PySem.W.hasDictIn K M = true)
    (poM : PySem.W.plainOver K M = true)
    (saM : PySem.W.findIn K (.ref M) "__setattr__" = some (some (.builtin "object.__setattr__")))
    (mkM : PySem.W.makesIn K M = true)
    (kcM : PySem.W.keepIn K (.ref M) = true)
    (gEm : PySem.W.nsIn K mainGlobals "EMPTY" = some (some (.ref E0)))
    (lE0 : K.lookup E0 = some ⟨.type "tuple", dE0, .seq #[.str "items" tI, .ref E1] nE0, sE0⟩)
    (lE1 : K.lookup E1 = some ⟨.type "tuple", dE1, .seq #[] nE1, sE1⟩)
    (Cthreads : PySem.W.findIn K (.ref C) "threads" = some none)
    (Cwords : PySem.W.findIn K (.ref C) "words" = some none)
    (Crecords : PySem.W.findIn K (.ref C) "records" = some none)
    (Mlayout : PySem.W.findIn K (.ref M) "layout" = some none)
    (Mcount : PySem.W.findIn K (.ref M) "count" = some none)
    (M_passing : PySem.W.findIn K (.ref M) "_passing" = some none)
    (M_trails : PySem.W.findIn K (.ref M) "_trails" = some none)
    (M_lost : PySem.W.findIn K (.ref M) "_lost" = some none)
    (M_notes : PySem.W.findIn K (.ref M) "_notes" = some none)
    (M_log : PySem.W.findIn K (.ref M) "_log" = some none)
    (hn : PySem.W.specialIn K (.builtin "object.__class__") "__get__" = some (some (.builtin "getset_descriptor.__get__")))
    (ht : PySem.W.takesIn K (.builtin "object.__class__") = some true)
    (xN : PySem.W.excIn K NV bmVE "ValueError.__new__" = true)
    (kN : PySem.W.keepIn K (.ref NV) = true)
    (sN : PySem.W.subIn K (.ref NV) (.type "BaseException") = some true)
    (tN : PySem.W.typeIn K (.ref NV) = some (.type "type"))
    (sL : PySem.W.subIn K (.ref LE) (.type "BaseException") = some true)
    (dL : PySem.W.hasDictIn K LE = true)
    (tL : PySem.W.typeIn K (.ref LE) = some (.type "type"))
    (sNL : PySem.W.subIn K (.ref NV) (.ref LE) = some true)
    (Ng : PySem.W.findIn K (.ref NV) "__getattribute__" = some (some (.builtin "BaseException.__getattribute__")))
    (Nk : PySem.W.findIn K (.ref NV) "__getattr__" = some none)
    (Nd : PySem.W.hasDictIn K NV = true)
    (Na : PySem.W.findIn K (.ref NV) "__class__" = some (some (.builtin "object.__class__")))
    (Nm : PySem.W.mroIn K NV (.type "object") = some true)
    (z_isinstance : PySem.W.nsIn K mainGlobals "isinstance" = some none)
    (z_int : PySem.W.nsIn K mainGlobals "int" = some none)
    (z_bool : PySem.W.nsIn K mainGlobals "bool" = some none)
    (z_str : PySem.W.nsIn K mainGlobals "str" = some none)
    (z_tuple : PySem.W.nsIn K mainGlobals "tuple" = some none)
    (z_list : PySem.W.nsIn K mainGlobals "list" = some none)
    (z_range : PySem.W.nsIn K mainGlobals "range" = some none)
    (z_len : PySem.W.nsIn K mainGlobals "len" = some none)
    (z_abs : PySem.W.nsIn K mainGlobals "abs" = some none)
    (z_max : PySem.W.nsIn K mainGlobals "max" = some none)
    (z_min : PySem.W.nsIn K mainGlobals "min" = some none)
    (z_zip : PySem.W.nsIn K mainGlobals "zip" = some none)
    (z_sorted : PySem.W.nsIn K mainGlobals "sorted" = some none)
    (z_all : PySem.W.nsIn K mainGlobals "all" = some none)
    (z_dict : PySem.W.nsIn K mainGlobals "dict" = some none)
    : ∃ fd : FuncData, (∀ (s : Shared) (v : Value), BindsTo s fd ⟨[v], []⟩ [("script", v)]) ∧ ∀ base : Heap, K.In base → base.Ns mainGlobals mg → FnOk l.prog w K mg base CX0 15 fa fd ["script"] (spLaw K) := by
  have e := hfa.symm.trans (PySem.W.mg_of X G a23)
  cases e
  have F1 := fun_mk (st := sWhole) l1 c1 k1
  have b1 := F1.binds (ps := ["value"]) fun _ _ _ _ _ _ us hl => match us, hl with | [_], _ => rfl
  have T_is_whole : GT K mg "is_whole" sWhole ["value"] := ⟨_, _, F1, PySem.W.mg_of X G a1, b1⟩
  have F2 := fun_mk (st := sWithin) l2 c2 k2
  have b2 := F2.binds (ps := ["value", "low", "high"]) fun _ _ _ _ _ _ us hl => match us, hl with | [_, _, _], _ => rfl
  have T_is_within : GT K mg "is_within" sWithin ["value", "low", "high"] := ⟨_, _, F2, PySem.W.mg_of X G a2, b2⟩
  have F3 := fun_mk (st := sMany) l3 c3 k3
  have b3 := F3.binds (ps := ["value"]) fun _ _ _ _ _ _ us hl => match us, hl with | [_], _ => rfl
  have T_is_many : GT K mg "is_many" sMany ["value"] := ⟨_, _, F3, PySem.W.mg_of X G a3, b3⟩
  have F4 := fun_mk (st := sIsValue) l4 c4 k4
  have b4 := F4.binds (ps := ["value"]) fun _ _ _ _ _ _ us hl => match us, hl with | [_], _ => rfl
  have T_is_value : GT K mg "is_value" sIsValue ["value"] := ⟨_, _, F4, PySem.W.mg_of X G a4, b4⟩
  have F5 := fun_mk (st := sIsSame) l5 c5 k5
  have b5 := F5.binds (ps := ["one", "other"]) fun _ _ _ _ _ _ us hl => match us, hl with | [_, _], _ => rfl
  have T_is_same : GT K mg "is_same" sIsSame ["one", "other"] := ⟨_, _, F5, PySem.W.mg_of X G a5, b5⟩
  have F6 := fun_mk (st := sIsAcc) l6 c6 k6
  have b6 := F6.binds (ps := ["layout", "request"]) fun _ _ _ _ _ _ us hl => match us, hl with | [_, _], _ => rfl
  have T_is_access : GT K mg "is_access" sIsAcc ["layout", "request"] := ⟨_, _, F6, PySem.W.mg_of X G a6, b6⟩
  have F7 := fun_mk (st := sPass) l7 c7 k7
  have b7 := F7.binds (ps := ["layout"]) fun _ _ _ _ _ _ us hl => match us, hl with | [_], _ => rfl
  have T_passing_values : GT K mg "passing_values" sPass ["layout"] := ⟨_, _, F7, PySem.W.mg_of X G a7, b7⟩
  have F8 := fun_mk (st := sTrails) l8 c8 k8
  have b8 := F8.binds (ps := ["layout"]) fun _ _ _ _ _ _ us hl => match us, hl with | [_], _ => rfl
  have T_first_trails : GT K mg "first_trails" sTrails ["layout"] := ⟨_, _, F8, PySem.W.mg_of X G a8, b8⟩
  have F9 := fun_mk (st := sNotes) l9 c9 k9
  have b9 := F9.binds (ps := ["layout"]) fun _ _ _ _ _ _ us hl => match us, hl with | [_], _ => rfl
  have T_no_notes : GT K mg "no_notes" sNotes ["layout"] := ⟨_, _, F9, PySem.W.mg_of X G a9, b9⟩
  have F10 := fun_mk (st := sTape) l10 c10 k10
  have b10 := F10.binds (ps := ["script"]) fun _ _ _ _ _ _ us hl => match us, hl with | [_], _ => rfl
  have T__law_tape : GT K mg "_law_tape" sTape ["script"] := ⟨_, _, F10, PySem.W.mg_of X G a10, b10⟩
  have F11 := fun_mk (st := sAt) l11 c11 k11
  have b11 := F11.binds (ps := ["tape", "k"]) fun _ _ _ _ _ _ us hl => match us, hl with | [_, _], _ => rfl
  have T__law_at : GT K mg "_law_at" sAt ["tape", "k"] := ⟨_, _, F11, PySem.W.mg_of X G a11, b11⟩
  have F12 := fun_mk (st := sVal) l12 c12 k12
  have b12 := F12.binds (ps := ["number"]) fun _ _ _ _ _ _ us hl => match us, hl with | [_], _ => rfl
  have T__law_value : GT K mg "_law_value" sVal ["number"] := ⟨_, _, F12, PySem.W.mg_of X G a12, b12⟩
  have F13 := fun_mk (st := sDo) l13 c13 k13
  have b13 := F13.binds (ps := ["memory", "act", "first", "second"]) fun _ _ _ _ _ _ us hl => match us, hl with | [_, _, _, _], _ => rfl
  have T__law_do : GT K mg "_law_do" sDo ["memory", "act", "first", "second"] := ⟨_, _, F13, PySem.W.mg_of X G a13, b13⟩
  have F14 := fun_mk (st := sWrong) l14 c14 k14
  have b14 := F14.binds (ps := ["memory", "number"]) fun _ _ _ _ _ _ us hl => match us, hl with | [_, _], _ => rfl
  have T__law_wrong : GT K mg "_law_wrong" sWrong ["memory", "number"] := ⟨_, _, F14, PySem.W.mg_of X G a14, b14⟩
  have F15 := fun_mk (st := sGiv) l15 c15 k15
  have b15 := F15.binds (ps := ["w", "cell", "value"]) fun _ _ _ _ _ _ us hl => match us, hl with | [_, _, _], _ => rfl
  have T__law_give : GT K mg "_law_give" sGiv ["w", "cell", "value"] := ⟨_, _, F15, PySem.W.mg_of X G a15, b15⟩
  have F16 := fun_mk (st := sShr) l16 c16 k16
  have b16 := F16.binds (ps := ["w", "cell", "steps"]) fun _ _ _ _ _ _ us hl => match us, hl with | [_, _, _], _ => rfl
  have T__law_shorten : GT K mg "_law_shorten" sShr ["w", "cell", "steps"] := ⟨_, _, F16, PySem.W.mg_of X G a16, b16⟩
  have F17 := fun_mk (st := sDue) l17 c17 k17
  have b17 := F17.binds (ps := ["w", "thread", "request"]) fun _ _ _ _ _ _ us hl => match us, hl with | [_, _, _], _ => rfl
  have T__law_due : GT K mg "_law_due" sDue ["w", "thread", "request"] := ⟨_, _, F17, PySem.W.mg_of X G a17, b17⟩
  have F18 := fun_mk (st := sLCut) l18 c18 k18
  have b18 := F18.binds (ps := ["w", "choices"]) fun _ _ _ _ _ _ us hl => match us, hl with | [_, _], _ => rfl
  have T__law_cut : GT K mg "_law_cut" sLCut ["w", "choices"] := ⟨_, _, F18, PySem.W.mg_of X G a18, b18⟩
  have F19 := fun_mk (st := sReq) l19 c19 k19
  have b19 := F19.binds (ps := ["w", "number", "pick", "other"]) fun _ _ _ _ _ _ us hl => match us, hl with | [_, _, _, _], _ => rfl
  have T__law_request : GT K mg "_law_request" sReq ["w", "number", "pick", "other"] := ⟨_, _, F19, PySem.W.mg_of X G a19, b19⟩
  have F20 := fun_mk (st := sSame) l20 c20 k20
  have b20 := F20.binds (ps := ["told", "due"]) fun _ _ _ _ _ _ us hl => match us, hl with | [_, _], _ => rfl
  have T__law_same : GT K mg "_law_same" sSame ["told", "due"] := ⟨_, _, F20, PySem.W.mg_of X G a20, b20⟩
  have F21 := fun_mk (st := sLooks) l21 c21 k21
  have b21 := F21.binds (ps := ["memory", "w"]) fun _ _ _ _ _ _ us hl => match us, hl with | [_, _], _ => rfl
  have T__law_looks : GT K mg "_law_looks" sLooks ["memory", "w"] := ⟨_, _, F21, PySem.W.mg_of X G a21, b21⟩
  have F22 := fun_mk (st := sStep) l22 c22 k22
  have b22 := F22.binds (ps := ["memory", "w", "number", "pick", "other"]) fun _ _ _ _ _ _ us hl => match us, hl with | [_, _, _, _, _], _ => rfl
  have T__law_step : GT K mg "_law_step" sStep ["memory", "w", "number", "pick", "other"] := ⟨_, _, F22, PySem.W.mg_of X G a22, b22⟩
  have F23 := fun_mk (st := sLaw) l23 c23 k23
  have F24 := fun_mk (st := sLInit) l24 c24 k24
  have b24 := F24.binds (ps := ["self", "threads", "words", "records"]) fun _ _ _ _ _ _ us hl => match us, hl with | [_, _, _, _], _ => rfl
  have Mk_Layout : Mk K C f24 := ⟨mkC, a24, i24, kcC⟩
  have FI_Layout := F24
  have bI_Layout := b24
  have F25 := fun_mk (st := sEpoch) l25 c25 k25
  have b25 := F25.binds (ps := ["self"]) fun _ _ _ _ _ _ us hl => match us, hl with | [_], _ => rfl
  have T_Layout_epoch : MT K C "epoch" "Layout.epoch" sEpoch ["self"] := ⟨_, _, F25, ⟨a25, i25, k25⟩, b25⟩
  have F26 := fun_mk (st := sESlot) l26 c26 k26
  have b26 := F26.binds (ps := ["self", "thread"]) fun _ _ _ _ _ _ us hl => match us, hl with | [_, _], _ => rfl
  have T_Layout_epoch_slot : MT K C "epoch_slot" "Layout.epoch_slot" sESlot ["self", "thread"] := ⟨_, _, F26, ⟨a26, i26, k26⟩, b26⟩
  have F27 := fun_mk (st := sCSlot) l27 c27 k27
  have b27 := F27.binds (ps := ["self", "thread"]) fun _ _ _ _ _ _ us hl => match us, hl with | [_, _], _ => rfl
  have T_Layout_call_slot : MT K C "call_slot" "Layout.call_slot" sCSlot ["self", "thread"] := ⟨_, _, F27, ⟨a27, i27, k27⟩, b27⟩
  have F28 := fun_mk (st := sWord) l28 c28 k28
  have b28 := F28.binds (ps := ["self", "index"]) fun _ _ _ _ _ _ us hl => match us, hl with | [_, _], _ => rfl
  have T_Layout_word : MT K C "word" "Layout.word" sWord ["self", "index"] := ⟨_, _, F28, ⟨a28, i28, k28⟩, b28⟩
  have F29 := fun_mk (st := sRecord) l29 c29 k29
  have b29 := F29.binds (ps := ["self", "index"]) fun _ _ _ _ _ _ us hl => match us, hl with | [_, _], _ => rfl
  have T_Layout_record : MT K C "record" "Layout.record" sRecord ["self", "index"] := ⟨_, _, F29, ⟨a29, i29, k29⟩, b29⟩
  have F30 := fun_mk (st := sCells) l30 c30 k30
  have b30 := F30.binds (ps := ["self"]) fun _ _ _ _ _ _ us hl => match us, hl with | [_], _ => rfl
  have T_Layout_cells : MT K C "cells" "Layout.cells" sCells ["self"] := ⟨_, _, F30, ⟨a30, i30, k30⟩, b30⟩
  have F31 := fun_mk (st := sIsCell) l31 c31 k31
  have b31 := F31.binds (ps := ["self", "cell"]) fun _ _ _ _ _ _ us hl => match us, hl with | [_, _], _ => rfl
  have T_Layout_is_cell : MT K C "is_cell" "Layout.is_cell" sIsCell ["self", "cell"] := ⟨_, _, F31, ⟨a31, i31, k31⟩, b31⟩
  have F32 := fun_mk (st := sIsLast) l32 c32 k32
  have b32 := F32.binds (ps := ["self", "cell"]) fun _ _ _ _ _ _ us hl => match us, hl with | [_, _], _ => rfl
  have T_Layout_is_lasting : MT K C "is_lasting" "Layout.is_lasting" sIsLast ["self", "cell"] := ⟨_, _, F32, ⟨a32, i32, k32⟩, b32⟩
  have F33 := fun_mk (st := sHasT) l33 c33 k33
  have b33 := F33.binds (ps := ["self", "thread"]) fun _ _ _ _ _ _ us hl => match us, hl with | [_, _], _ => rfl
  have T_Layout_has_thread : MT K C "has_thread" "Layout.has_thread" sHasT ["self", "thread"] := ⟨_, _, F33, ⟨a33, i33, k33⟩, b33⟩
  have F34 := fun_mk (st := sMInit) l34 c34 k34
  have b34 := F34.binds (ps := ["self", "layout"]) fun _ _ _ _ _ _ us hl => match us, hl with | [_, _], _ => rfl
  have Mk_Memory : Mk K M f34 := ⟨mkM, a34, i34, kcM⟩
  have FI_Memory := F34
  have bI_Memory := b34
  have F35 := fun_mk (st := sAccess) l35 c35 k35
  have b35 := F35.binds (ps := ["self", "thread", "request"]) fun _ _ _ _ _ _ us hl => match us, hl with | [_, _, _], _ => rfl
  have T_Memory_access : MT K M "access" "Memory.access" sAccess ["self", "thread", "request"] := ⟨_, _, F35, ⟨a35, i35, k35⟩, b35⟩
  have F36 := fun_mk (st := sPeek) l36 c36 k36
  have b36 := F36.binds (ps := ["self", "cell"]) fun _ _ _ _ _ _ us hl => match us, hl with | [_, _], _ => rfl
  have T_Memory_peek : MT K M "peek" "Memory.peek" sPeek ["self", "cell"] := ⟨_, _, F36, ⟨a36, i36, k36⟩, b36⟩
  have F37 := fun_mk (st := sLasting) l37 c37 k37
  have b37 := F37.binds (ps := ["self", "cell"]) fun _ _ _ _ _ _ us hl => match us, hl with | [_, _], _ => rfl
  have T_Memory_lasting : MT K M "lasting" "Memory.lasting" sLasting ["self", "cell"] := ⟨_, _, F37, ⟨a37, i37, k37⟩, b37⟩
  have F38 := fun_mk (st := sTrail) l38 c38 k38
  have b38 := F38.binds (ps := ["self", "cell"]) fun _ _ _ _ _ _ us hl => match us, hl with | [_, _], _ => rfl
  have T_Memory_trail : MT K M "trail" "Memory.trail" sTrail ["self", "cell"] := ⟨_, _, F38, ⟨a38, i38, k38⟩, b38⟩
  have F39 := fun_mk (st := sDrift) l39 c39 k39
  have b39 := F39.binds (ps := ["self", "cell", "steps"]) fun _ _ _ _ _ _ us hl => match us, hl with | [_, _, _], _ => rfl
  have T_Memory_drift : MT K M "drift" "Memory.drift" sDrift ["self", "cell", "steps"] := ⟨_, _, F39, ⟨a39, i39, k39⟩, b39⟩
  have F40 := fun_mk (st := sCut) l40 c40 k40
  have b40 := F40.binds (ps := ["self", "choices"]) fun _ _ _ _ _ _ us hl => match us, hl with | [_, _], _ => rfl
  have T_Memory_cut : MT K M "cut" "Memory.cut" sCut ["self", "choices"] := ⟨_, _, F40, ⟨a40, i40, k40⟩, b40⟩
  have F41 := fun_mk (st := sLog) l41 c41 k41
  have b41 := F41.binds (ps := ["self"]) fun _ _ _ _ _ _ us hl => match us, hl with | [_], _ => rfl
  have T_Memory_log : MT K M "log" "Memory.log" sLog ["self"] := ⟨_, _, F41, ⟨a41, i41, k41⟩, b41⟩
  have F42 := fun_mk (st := sAsk) l42 c42 k42
  have b42 := F42.binds (ps := ["self", "cell"]) fun _ _ _ _ _ _ us hl => match us, hl with | [_, _], _ => rfl
  have T_Memory__ask_lasting : MT K M "_ask_lasting" "Memory._ask_lasting" sAsk ["self", "cell"] := ⟨_, _, F42, ⟨a42, i42, k42⟩, b42⟩
  have F43 := fun_mk (st := sResult) l43 c43 k43
  have b43 := F43.binds (ps := ["self", "thread", "request"]) fun _ _ _ _ _ _ us hl => match us, hl with | [_, _, _], _ => rfl
  have T_Memory__result : MT K M "_result" "Memory._result" sResult ["self", "thread", "request"] := ⟨_, _, F43, ⟨a43, i43, k43⟩, b43⟩
  have F44 := fun_mk (st := sGive) l44 c44 k44
  have b44 := F44.binds (ps := ["self", "cell", "value"]) fun _ _ _ _ _ _ us hl => match us, hl with | [_, _, _], _ => rfl
  have T_Memory__give : MT K M "_give" "Memory._give" sGive ["self", "cell", "value"] := ⟨_, _, F44, ⟨a44, i44, k44⟩, b44⟩
  have F45 := fun_mk (st := sGiveIf) l45 c45 k45
  have b45 := F45.binds (ps := ["self", "cell", "old", "new"]) fun _ _ _ _ _ _ us hl => match us, hl with | [_, _, _, _], _ => rfl
  have T_Memory__give_if : MT K M "_give_if" "Memory._give_if" sGiveIf ["self", "cell", "old", "new"] := ⟨_, _, F45, ⟨a45, i45, k45⟩, b45⟩
  have F46 := fun_mk (st := sFence) l46 c46 k46
  have b46 := F46.binds (ps := ["self", "thread"]) fun _ _ _ _ _ _ us hl => match us, hl with | [_, _], _ => rfl
  have T_Memory__fence : MT K M "_fence" "Memory._fence" sFence ["self", "thread"] := ⟨_, _, F46, ⟨a46, i46, k46⟩, b46⟩
  have F47 := fun_mk (st := sShort) l47 c47 k47
  have b47 := F47.binds (ps := ["self", "cell", "steps"]) fun _ _ _ _ _ _ us hl => match us, hl with | [_, _, _], _ => rfl
  have T_Memory__shorten : MT K M "_shorten" "Memory._shorten" sShort ["self", "cell", "steps"] := ⟨_, _, F47, ⟨a47, i47, k47⟩, b47⟩
  have Bn0 : Bn mg := ⟨PySem.W.mg_none_of X G z_isinstance, PySem.W.mg_none_of X G z_int, PySem.W.mg_none_of X G z_bool, PySem.W.mg_none_of X G z_str, PySem.W.mg_none_of X G z_tuple, PySem.W.mg_none_of X G z_list, PySem.W.mg_none_of X G z_range, PySem.W.mg_none_of X G z_len, PySem.W.mg_none_of X G z_abs⟩
  have T : LTxt K mg C := ⟨Bn0, ⟨pgC, hdC, poC, saC⟩, Cthreads, Cwords, Crecords⟩
  have TM : MTxt K M := ⟨⟨pgM, hdM, poM, saM⟩, Mlayout, Mcount, M_passing, M_trails, M_lost, M_notes, M_log⟩
  have hE0 : ∀ H, SqT K H E0 [.str "items", .ref E1] := fun H => .inr ⟨_, _, _, lE0, rfl, rfl, (by show 2 ≤ sizeLine; decide), .cons ⟨_, rfl⟩ (.cons rfl .nil)⟩
  have hE1 : ∀ H, SqT K H E1 [] := fun H => .inr ⟨_, _, _, lE1, rfl, rfl, (by show 0 ≤ sizeLine; exact Nat.zero_le _), .nil⟩
  have hZ : ZAt K E0 := fun H => ⟨E1, hE0 H, hE1 H⟩
  have X0 : XTxt K mg NV LE := ⟨PySem.W.mg_of X G gNV, PySem.W.mg_of X G gLE, xN, kN, sN, tN, PySem.W.exm_ref sL dL tL sNL, ⟨Ng, Nk, sN, Nd, Na, hn, ht, Nm⟩, kit_self⟩
  refine ⟨PySem.W.fnOf "law" "law" (defArgs sLaw) (defBody sLaw) (defScope sLaw) .none kV23 dc23 pm23 an23 cd23 ct23, fun s v => .of_eq rfl, fun base _ _ => ?_⟩
  have Gwh := go_whole (P := l.prog) (w := w) (base := base) T_is_whole Bn0
  have Gwi := go_within T_is_within Gwh
  have Giv := go_isvalueD (P := l.prog) (w := w) (base := base) T_is_value Bn0
  have Gsm := go_issameD (P := l.prog) (w := w) (base := base) T_is_same Bn0 (PySem.W.mg_none_of X G z_zip)
  have Gep := mo_epoch (P := l.prog) (w := w) (mg := mg) (base := base) T_Layout_epoch
  have Ges := mo_eslot (P := l.prog) (w := w) (mg := mg) (base := base) T_Layout_epoch_slot
  have Gcs := mo_cslot T_Layout_call_slot T Ges
  have Gwo := mo_word T_Layout_word T Gcs
  have Gre := mo_record T_Layout_record T Gwo
  have Gce := mo_cells T_Layout_cells T Gre
  have Gic := mo_iscell T_Layout_is_cell T Gce Gwi
  have Gil := mo_islast T_Layout_is_lasting T Gic Gcs
  have Ght := mo_hast T_Layout_has_thread T Gwi
  have Gia := go_isacc T_is_access T Gic Gil Giv
  have Gli := ok_linit FI_Layout T X0 Gwi
  have Gpv := go_pass (P := l.prog) (w := w) (base := base) T_passing_values T
  have Gft := go_trails T_first_trails T (PySem.W.mg_of X G gEm) Gcs Gwo Gre Gce
  have Gnn := go_notes (P := l.prog) (w := w) (base := base) T_no_notes T
  have Gmi := ok_minit FI_Memory T TM Gpv Gft Gnn
  have Gpk := mo_peek T_Memory_peek T TM Gic Gil
  have Ggi := mo_give T_Memory__give T TM Gil
  have Gsh := mo_short (P := l.prog) (w := w) (base := base) T_Memory__shorten T TM (PySem.W.mg_none_of X G z_max) (PySem.W.mg_none_of X G z_min)
  have Ggf := mo_giveif T_Memory__give_if T TM Gsm Gpk Ggi
  have Gfe := mo_fence T_Memory__fence TM Gsh
  have Grs := mo_result T_Memory__result T TM Gpk Ggi Ggf Gfe
  have Gac := mo_access T_Memory_access T TM Ght Gia Grs
  have Gtp := go_tape (P := l.prog) (w := w) (base := base) T__law_tape Bn0
  have Gat := go_at (P := l.prog) (w := w) (base := base) T__law_at Bn0
  have Gmy := go_many T_is_many Gwh
  have Gak := mo_ask T_Memory__ask_lasting T TM X0 Gil
  have Gak2 := mo_ask2 T_Memory__ask_lasting T TM X0 Gil
  have Gtr := mo_trail T_Memory_trail T TM Gak
  have Gla := mo_lasting T_Memory_lasting TM Gak
  have Gia2 := go_isacc2 T_is_access T Gic Gil Giv
  have Gac2 := mo_access2 T_Memory_access T TM X0 Ght Gia2 Grs
  have Gdr2 := mo_drift2 T_Memory_drift TM X0 Gak2 Gmy Gsh
  have Gct2 := mo_cut2 T_Memory_cut T TM X0 (PySem.W.mg_none_of X G z_all) (PySem.W.mg_none_of X G z_zip) Gmy Gsh Gpv Gnn
  have Glg := mo_log (P := l.prog) (w := w) (base := base) (mg := mg) (C := C) T_Memory_log Bn0 TM
  have Gvl := go_val (P := l.prog) (w := w) (base := base) (mg := mg) T__law_value
  have Gdo := go_do T__law_do Bn0 TM X0 Gac2 Gdr2 Gct2
  have Gwr := go_wrong T__law_wrong Gdo
  have Ggv := go_giv (P := l.prog) (w := w) (base := base) (mg := mg) T__law_give
  have Gshr := go_shr (P := l.prog) (w := w) (base := base) T__law_shorten Bn0 (PySem.W.mg_none_of X G z_max) (PySem.W.mg_none_of X G z_min)
  have Gdu := go_due T__law_due Bn0 (PySem.W.mg_none_of X G z_sorted) (PySem.W.mg_none_of X G z_dict) Gshr Ggv
  have Gcu := go_lcut T__law_cut Bn0 Gshr
  have Grq := go_req T__law_request (PySem.W.mg_none_of X G z_max) Gvl
  have Gsa := go_same (P := l.prog) (w := w) (base := base) T__law_same Bn0
  have Glk := go_looks T__law_looks Bn0 TM Gsa Gpk Gtr Gla
  have Gst := go_step T__law_step Bn0 Gwr Gdo Gshr Gcu Grq Gdu Gsa
  exact ok_law F23 Bn0 TM hZ (PySem.W.mg_none_of X G z_dict) (PySem.W.mg_none_of X G z_max) (PySem.W.mg_none_of X G z_min) (PySem.W.mg_of X G gC) Mk_Layout Gli bI_Layout (PySem.W.mg_of X G gM) Mk_Memory Gmi bI_Memory Gtp Gat Gpk Glg Gst Glk
theorem walk {l : PySem.W.OpenLaw} {q : Program} {loose : List Str} {XP : (Str → Option Value) → Heap → Prop} {YP : World → Heap → Prop} {d : DefRec} {K : Params → PySem.W.Frag} (hn : l.most = some 63) (hdf : d.params.defaults = [])
    (hY : ∀ (w : World) (h : Heap), YP w h → (K w.params).In h)
    (F : ∀ (w : World) (mg : Str → Option Value) (fa : Addr) (h : Heap), (K w.params).In h → h.Ns mainGlobals mg → mg d.name = some (.ref fa) →
      ∃ fd : FuncData, (∀ (s : Shared) (u : Value), BindsTo s fd ⟨[u], []⟩ [("script", u)]) ∧ ∀ base : Heap, (K w.params).In base → base.Ns mainGlobals mg → FnOk l.prog w (K w.params) mg base CX0 15 fa fd ["script"] (spLaw (K w.params))) :
    PySem.W.WalkO q loose XP YP l.row.toRowW d [] (fun f vs => PySem.call f vs) :=
  L2.walk_of (n := 63) (k := 15) (x := "script") (CX := fun _ => CX0) (sp := fun w => spLaw (K w.params)) hn (by decide) hdf ⟨rfl, by decide, by decide⟩ hY F (fun _ _ a ns hl _ hS => ⟨a, ns, rfl, hS, hl, fun _ => rfl⟩) fun _ _ _ _ _ z => z
end Dk
open PySem PySem.W PyProof.Rows
set_option maxRecDepth 100000 in
set_option maxHeartbeats 0 in
theorem PySem.Challenge.cw_q1 : PySem.Challenge.rw_driftkept_k02_whole_memory_that_lasts.Holds := by
  w_on; o_law; k_head; (case hw => w_witness2)
  k_fill
  refine Dk.walk (l := PySem.Challenge.rw_driftkept_k02_whole_memory_that_lasts) rfl rfl (fun w h Y => PySem.W.kIn_of Y) ?F
  case F =>
    intro w mg fa h KX G hmg
    refine' Dk.all_mk KX G hmg ?gC ?gM ?gNV ?gLE ?a1 ?l1 ?c1 ?k1 ?a2 ?l2 ?c2 ?k2 ?a3 ?l3 ?c3 ?k3 ?a4 ?l4 ?c4 ?k4 ?a5 ?l5 ?c5 ?k5 ?a6 ?l6 ?c6 ?k6 ?a7 ?l7 ?c7 ?k7 ?a8 ?l8 ?c8 ?k8 ?a9 ?l9 ?c9 ?k9 ?a10 ?l10 ?c10 ?k10 ?a11 ?l11 ?c11 ?k11 ?a12 ?l12 ?c12 ?k12 ?a13 ?l13 ?c13 ?k13 ?a14 ?l14 ?c14 ?k14 ?a15 ?l15 ?c15 ?k15 ?a16 ?l16 ?c16 ?k16 ?a17 ?l17 ?c17 ?k17 ?a18 ?l18 ?c18 ?k18 ?a19 ?l19 ?c19 ?k19 ?a20 ?l20 ?c20 ?k20 ?a21 ?l21 ?c21 ?k21 ?a22 ?l22 ?c22 ?k22 ?a23 ?l23 ?c23 ?k23 ?a24 ?i24 ?l24 ?c24 ?k24 ?a25 ?i25 ?l25 ?c25 ?k25 ?a26 ?i26 ?l26 ?c26 ?k26 ?a27 ?i27 ?l27 ?c27 ?k27 ?a28 ?i28 ?l28 ?c28 ?k28 ?a29 ?i29 ?l29 ?c29 ?k29 ?a30 ?i30 ?l30 ?c30 ?k30 ?a31 ?i31 ?l31 ?c31 ?k31 ?a32 ?i32 ?l32 ?c32 ?k32 ?a33 ?i33 ?l33 ?c33 ?k33 ?a34 ?i34 ?l34 ?c34 ?k34 ?a35 ?i35 ?l35 ?c35 ?k35 ?a36 ?i36 ?l36 ?c36 ?k36 ?a37 ?i37 ?l37 ?c37 ?k37 ?a38 ?i38 ?l38 ?c38 ?k38 ?a39 ?i39 ?l39 ?c39 ?k39 ?a40 ?i40 ?l40 ?c40 ?k40 ?a41 ?i41 ?l41 ?c41 ?k41 ?a42 ?i42 ?l42 ?c42 ?k42 ?a43 ?i43 ?l43 ?c43 ?k43 ?a44 ?i44 ?l44 ?c44 ?k44 ?a45 ?i45 ?l45 ?c45 ?k45 ?a46 ?i46 ?l46 ?c46 ?k46 ?a47 ?i47 ?l47 ?c47 ?k47 ?pgC ?hdC ?poC ?saC ?mkC ?kcC ?pgM ?hdM ?poM ?saM ?mkM ?kcM ?gEm ?lE0 ?lE1 ?Cthreads ?Cwords ?Crecords ?Mlayout ?Mcount ?M_passing ?M_trails ?M_lost ?M_notes ?M_log ?hn ?ht ?xN ?kN ?sN ?tN ?sL ?dL ?tL ?sNL ?Ng ?Nk ?Nd ?Na ?Nm ?z_isinstance ?z_int ?z_bool ?z_str ?z_tuple ?z_list ?z_range ?z_len ?z_abs ?z_max ?z_min ?z_zip ?z_sorted ?z_all ?z_dict
    (case gC => k_is)
    (case gM => k_is)
    (case gNV => k_is)
    (case gLE => k_is)
    (case a1 => k_is)
    (case l1 => k_is)
    (case c1 => k_is)
    (case k1 => k_is)
    (case a2 => k_is)
    (case l2 => k_is)
    (case c2 => k_is)
    (case k2 => k_is)
    (case a3 => k_is)
    (case l3 => k_is)
    (case c3 => k_is)
    (case k3 => k_is)
    (case a4 => k_is)
    (case l4 => k_is)
    (case c4 => k_is)
    (case k4 => k_is)
    (case a5 => k_is)
    (case l5 => k_is)
    (case c5 => k_is)
    (case k5 => k_is)
    (case a6 => k_is)
    (case l6 => k_is)
    (case c6 => k_is)
    (case k6 => k_is)
    (case a7 => k_is)
    (case l7 => k_is)
    (case c7 => k_is)
    (case k7 => k_is)
    (case a8 => k_is)
    (case l8 => k_is)
    (case c8 => k_is)
    (case k8 => k_is)
    (case a9 => k_is)
    (case l9 => k_is)
    (case c9 => k_is)
    (case k9 => k_is)
    (case a10 => k_is)
    (case l10 => k_is)
    (case c10 => k_is)
    (case k10 => k_is)
    (case a11 => k_is)
    (case l11 => k_is)
    (case c11 => k_is)
    (case k11 => k_is)
    (case a12 => k_is)
    (case l12 => k_is)
    (case c12 => k_is)
    (case k12 => k_is)
    (case a13 => k_is)
    (case l13 => k_is)
    (case c13 => k_is)
    (case k13 => k_is)
    (case a14 => k_is)
    (case l14 => k_is)
    (case c14 => k_is)
    (case k14 => k_is)
    (case a15 => k_is)
    (case l15 => k_is)
    (case c15 => k_is)
    (case k15 => k_is)
    (case a16 => k_is)
    (case l16 => k_is)
    (case c16 => k_is)
    (case k16 => k_is)
    (case a17 => k_is)
    (case l17 => k_is)
    (case c17 => k_is)
    (case k17 => k_is)
    (case a18 => k_is)
    (case l18 => k_is)
    (case c18 => k_is)
    (case k18 => k_is)
    (case a19 => k_is)
    (case l19 => k_is)
    (case c19 => k_is)
    (case k19 => k_is)
    (case a20 => k_is)
    (case l20 => k_is)
    (case c20 => k_is)
    (case k20 => k_is)
    (case a21 => k_is)
    (case l21 => k_is)
    (case c21 => k_is)
    (case k21 => k_is)
    (case a22 => k_is)
    (case l22 => k_is)
    (case c22 => k_is)
    (case k22 => k_is)
    (case a23 => k_is)
    (case l23 => k_is)
    (case c23 => k_is)
    (case k23 => k_is)
    (case a24 => k_is)
    (case i24 => k_is)
    (case l24 => k_is)
    (case c24 => k_is)
    (case k24 => k_is)
    (case a25 => k_is)
    (case i25 => k_is)
    (case l25 => k_is)
    (case c25 => k_is)
    (case k25 => k_is)
    (case a26 => k_is)
    (case i26 => k_is)
    (case l26 => k_is)
    (case c26 => k_is)
    (case k26 => k_is)
    (case a27 => k_is)
    (case i27 => k_is)
    (case l27 => k_is)
    (case c27 => k_is)
    (case k27 => k_is)
    (case a28 => k_is)
    (case i28 => k_is)
    (case l28 => k_is)
    (case c28 => k_is)
    (case k28 => k_is)
    (case a29 => k_is)
    (case i29 => k_is)
    (case l29 => k_is)
    (case c29 => k_is)
    (case k29 => k_is)
    (case a30 => k_is)
    (case i30 => k_is)
    (case l30 => k_is)
    (case c30 => k_is)
    (case k30 => k_is)
    (case a31 => k_is)
    (case i31 => k_is)
    (case l31 => k_is)
    (case c31 => k_is)
    (case k31 => k_is)
    (case a32 => k_is)
    (case i32 => k_is)
    (case l32 => k_is)
    (case c32 => k_is)
    (case k32 => k_is)
    (case a33 => k_is)
    (case i33 => k_is)
    (case l33 => k_is)
    (case c33 => k_is)
    (case k33 => k_is)
    (case a34 => k_is)
    (case i34 => k_is)
    (case l34 => k_is)
    (case c34 => k_is)
    (case k34 => k_is)
    (case a35 => k_is)
    (case i35 => k_is)
    (case l35 => k_is)
    (case c35 => k_is)
    (case k35 => k_is)
    (case a36 => k_is)
    (case i36 => k_is)
    (case l36 => k_is)
    (case c36 => k_is)
    (case k36 => k_is)
    (case a37 => k_is)
    (case i37 => k_is)
    (case l37 => k_is)
    (case c37 => k_is)
    (case k37 => k_is)
    (case a38 => k_is)
    (case i38 => k_is)
    (case l38 => k_is)
    (case c38 => k_is)
    (case k38 => k_is)
    (case a39 => k_is)
    (case i39 => k_is)
    (case l39 => k_is)
    (case c39 => k_is)
    (case k39 => k_is)
    (case a40 => k_is)
    (case i40 => k_is)
    (case l40 => k_is)
    (case c40 => k_is)
    (case k40 => k_is)
    (case a41 => k_is)
    (case i41 => k_is)
    (case l41 => k_is)
    (case c41 => k_is)
    (case k41 => k_is)
    (case a42 => k_is)
    (case i42 => k_is)
    (case l42 => k_is)
    (case c42 => k_is)
    (case k42 => k_is)
    (case a43 => k_is)
    (case i43 => k_is)
    (case l43 => k_is)
    (case c43 => k_is)
    (case k43 => k_is)
    (case a44 => k_is)
    (case i44 => k_is)
    (case l44 => k_is)
    (case c44 => k_is)
    (case k44 => k_is)
    (case a45 => k_is)
    (case i45 => k_is)
    (case l45 => k_is)
    (case c45 => k_is)
    (case k45 => k_is)
    (case a46 => k_is)
    (case i46 => k_is)
    (case l46 => k_is)
    (case c46 => k_is)
    (case k46 => k_is)
    (case a47 => k_is)
    (case i47 => k_is)
    (case l47 => k_is)
    (case c47 => k_is)
    (case k47 => k_is)
    (case pgC => k_is)
    (case hdC => k_is)
    (case poC => k_is)
    (case saC => k_is)
    (case mkC => k_is)
    (case kcC => k_is)
    (case pgM => k_is)
    (case hdM => k_is)
    (case poM => k_is)
    (case saM => k_is)
    (case mkM => k_is)
    (case kcM => k_is)
    (case gEm => k_is)
    (case lE0 => k_is)
    (case lE1 => k_is)
    (case Cthreads => k_is)
    (case Cwords => k_is)
    (case Crecords => k_is)
    (case Mlayout => k_is)
    (case Mcount => k_is)
    (case M_passing => k_is)
    (case M_trails => k_is)
    (case M_lost => k_is)
    (case M_notes => k_is)
    (case M_log => k_is)
    (case hn => k_is)
    (case ht => k_is)
    (case xN => k_exc)
    (case kN => k_is)
    (case sN => k_is)
    (case tN => k_is)
    (case sL => k_is)
    (case dL => k_is)
    (case tL => k_is)
    (case sNL => k_is)
    (case Ng => k_is)
    (case Nk => k_is)
    (case Nd => k_is)
    (case Na => k_is)
    (case Nm => k_is)
    (case z_isinstance => k_is)
    (case z_int => k_is)
    (case z_bool => k_is)
    (case z_str => k_is)
    (case z_tuple => k_is)
    (case z_list => k_is)
    (case z_range => k_is)
    (case z_len => k_is)
    (case z_abs => k_is)
    (case z_max => k_is)
    (case z_min => k_is)
    (case z_zip => k_is)
    (case z_sorted => k_is)
    (case z_all => k_is)
    (case z_dict => k_is)
theorem PySem.Challenge.cw_driftkept_k02_whole_memory_that_lasts_holds : PySem.Challenge.rw_driftkept_k02_whole_memory_that_lasts.Holds :=
  PySem.Challenge.cw_q1

