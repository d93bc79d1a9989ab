import PyProof.Rows.All
import Wide.All
import OpenK.AllK
import Wide.FinOn
import HandS.ForMost
import HandS.ForExc
import HandS.IsInst
import HandS.ExcIs
import HandS.DictComp
import HandS.Style
import HandS.Walk
import HandS.SortInts
import HandS.Star
import HandS.More
import HandS.ClsMeth
import HandS.Codes
import HandS.Zip
import PySem.Challenge.RW_driftkept_k05_deed_alone
import PyProof.Rows.MatchSeqLen
import HandS.OwnIter
import HandS.Flow
import HandS.Defaults
set_option Elab.async false
set_option linter.all false
set_option maxRecDepth 100000
set_option maxHeartbeats 4000000
/-! general rules -/
namespace Dk
open PySem PySem.Spec PyProof.Rows L2
/-- a def of the top keeps a promise -/
def GO (P : Program) (w : World) (K : PySem.W.Frag) (mg : Str → Option Value) (base : Heap) (CX : CXT) (k : Nat) (x : Str) (ps : List Str) (sp : Sp) : Prop :=
  ∃ f fd, FnOk P w K mg base CX k f fd ps sp ∧ mg x = some (.ref f) ∧ PySem.W.keepIn K (.ref f) = true ∧ Binds K fd ps []
def MO (P : Program) (w : World) (K : PySem.W.Frag) (mg : Str → Option Value) (base : Heap) (CX : CXT) (C : Addr) (k : Nat) (m : Str) (ps : List Str) (sp : Sp) : Prop :=
  ∃ f fd, FnOk P w K mg base CX k f fd ps sp ∧ Meth K C m f ∧ Binds K fd ps []
/-- where a def of the top, a method stands -/
def GT (K : PySem.W.Frag) (mg : Str → Option Value) (x : Str) (st : Stmt) (ps : List Str) : Prop := ∃ f fd, Fun K x x st f fd ∧ mg x = some (.ref f) ∧ Binds K fd ps []
def MT (K : PySem.W.Frag) (C : Addr) (m qual : Str) (st : Stmt) (ps : List Str) : Prop := ∃ f fd, Fun K m qual st f fd ∧ Meth K C m f ∧ Binds K fd ps []
section
variable {X : Cx} {CX : CXT} {k : Nat} {f C : Addr} {fd : FuncData} {ps : List Str} {sp : Sp} {x m : Str} {p pos apos : Pos} {e o : Expr} {es : List Expr} {ta : TE} {t : TA}
theorem pc_ (G : GO X.prog X.w X.K X.mg X.base CX0 k x ps sp) (hr : Room k X.A) (ha : PA X (e :: es) t) (hg : Gl X x := by rfl) (hdb : (x == ("__debug__" : Str)) = false := by decide)
    (he : starEach (e :: es) X.env = (false, eval e X.env) :: starEach es X.env := by rfl) (hpl : (backTo pos (starEach es X.env)).any (·.1) = false := by rfl) : PE X (.Call (.Name x p) (e :: es) [] pos) (tCall sp [] E0 t) := by
  obtain ⟨f, fd, F, hm, hk, hb⟩ := G
  exact pe_call F hr hg hm hk hb .nil pass0 ha hdb he hpl
theorem pm_ {pl : Sem Bool} (G : MO X.prog X.w X.K X.mg X.base CX0 C k m ps sp) (c : Cls X.K C) (hr : Room k X.A) (he : PE X o ta) (ha : PA X (e :: es) t)
    (hst : starEach (e :: es) X.env = (false, eval e X.env) :: starEach es X.env := by rfl) (hpl : (backTo pos (starEach es X.env)).any (·.1) = false := by rfl)
    (ht : eval (.Call (.Attribute o m apos) (e :: es) [] pos) X.env = (do
      let ov ← eval o X.env
      standAt apos.atName
      let (f, first) ← holding [ov] (getMethod ov m pl)
      callWith pos f first (backTo pos (starEach (e :: es) X.env)) (backToKw pos (keywordEach [] X.env))) := by rfl) : PE X (.Call (.Attribute o m apos) (e :: es) [] pos) (tMeth C m sp [] E0 ta t) := by
  obtain ⟨f, fd, F, hm, hb⟩ := G
  exact pe_meth he c hm F hr hb .nil pass0 ha hst hpl ht
theorem pm0_ {pl : Sem Bool} (G : MO X.prog X.w X.K X.mg X.base CX0 C k m ps sp) (c : Cls X.K C) (hr : Room k X.A) (he : PE X o ta)
    (ht : eval (.Call (.Attribute o m apos) [] [] pos) X.env = (do
      let ov ← eval o X.env
      standAt apos.atName
      let (f, first) ← holding [ov] (getMethod ov m pl)
      callWith pos f first (backTo pos (starEach [] X.env)) (backToKw pos (keywordEach [] X.env))) := by rfl) : PE X (.Call (.Attribute o m apos) [] [] pos) (tMeth C m sp [] E0 ta tNil) := by
  obtain ⟨f, fd, F, hm, hb⟩ := G
  exact pe_meth0 he c hm F hr hb .nil pass0 ht
/-- a method that may raise, called at the slots -/
def tMethE (C : Addr) (m : Str) (sp : Sp) (E : L2.St → XK) (ta : TE) (t : TA) : TE := fun σ H Q => ta σ H fun x H1 => ∃ a dx fs, x = .ref a ∧ H1 a = some (.ins C dx fs) ∧ fs.lookup m = none ∧
  t σ H1 fun vs H2 => sp (x :: vs) H2 Q (E σ)
theorem pmE_ {pl : Sem Bool} {E : L2.St → XK} (G : MO X.prog X.w X.K X.mg X.base CX C k m ps sp) (c : Cls X.K C) (hr : Room k X.A) (hx : ∀ σ, PassesAt CX X σ (E σ)) (he : PE X o ta) (ha : PA X (e :: es) t)
    (hst : starEach (e :: es) X.env = (false, eval e X.env) :: starEach es X.env := by rfl) (hpl : (backTo pos (starEach es X.env)).any (·.1) = false := by rfl)
    (ht : eval (.Call (.Attribute o m apos) (e :: es) [] pos) X.env = (do
      let ov ← eval o X.env
      standAt apos.atName
      let (f, first) ← holding [ov] (getMethod ov m pl)
      callWith pos f first (backTo pos (starEach (e :: es) X.env)) (backToKw pos (keywordEach [] X.env))) := by rfl) : PE X (.Call (.Attribute o m apos) (e :: es) [] pos) (tMethE C m sp E ta t) := by
  obtain ⟨f, fd, F, hm, hb⟩ := G
  refine ⟨fun pins s σ H Q I h => ?_⟩
  refine PySem.W.methodCall_KW (pl := pl) (thn (he.run pins s σ H _ I h) fun u s1 ⟨x, H1, I1, rx, a, dx, fs, ex, ea, l, q⟩ => ?_) ht
  subst ex
  obtain rfl : u = Value.ref a := rx
  refine getmeth_ok I1 ea c hm l ?_
  refine PySem.W.callWith_K (first := [.ref a]) (h₀ := X.base) I.ok.mod.kin hm.kp (thn (ha.run pos pins s1 σ H1 _ I1 q) fun us s2 ⟨vs, H2, I2, r, q2⟩ => ⟨I2.kIn, ?_⟩) hst hpl
  exact run_fnS (us := .ref a :: us) (vs := .ref a :: vs) F hr hb (hx σ) I2 (.cons rfl r) q2
/-- C(e, ..) where __init__ may raise, at the slots -/
def tMakeE (C : Addr) (sp : Sp) (E : L2.St → XK) (t : TA) : TE := fun σ H Q => t σ H fun vs H1 => ∀ x dx, H1 x = none → H1 dx = none → dx ≠ x →
  sp (.ref x :: vs) (upd (upd H1 dx (.own x)) x (.ins C dx [])) (fun v H2 => v = .non ∧ Q (.ref x) H2) (fun cls d H2 => E σ cls d H2)
theorem run_makeE {pins : List (Addr × Obj)} {σ : L2.St} {H : Hp} {s : Shared} {Q : VK} {E : XK} {us : List Value} {vs : List V} (M : Mk X.K C f) (F : FnOk X.prog X.w X.K X.mg X.base CX k f fd ps sp) (hr : Room (k + 1) X.A) (hb : Binds X.K fd ps [])
    (hx : PassesAt CX X σ E) (I : Inv X pins σ H s) (r : Vals vs us)
    (h : ∀ x dx, H x = none → H dx = none → dx ≠ x → sp (.ref x :: vs) (upd (upd H dx (.own x)) x (.ins C dx [])) (fun v H2 => v = .non ∧ Q (.ref x) H2) E) :
    wpAny (model X.prog X.w) X.A (call (.ref C) us) (EP X pins σ Q) X.xe s := by
  have hq := h (s.heap.objs.size + 1) s.heap.objs.size (I.hok.fresh (Nat.le_succ _)) (I.hok.fresh (Nat.le_refl _)) (Nat.ne_of_lt (Nat.lt_succ_self _))
  have I2 := Inv.made (C := C) I
  have r2 : Vals (V.ref (s.heap.objs.size + 1) :: vs) (Value.ref (s.heap.objs.size + 1) :: us) := .cons rfl r
  have hl : (Value.ref (s.heap.objs.size + 1) :: us ++ []).length = ps.length := by
    have e := r2.length
    rw [F.len _ _ _ _ hq] at e
    rw [List.append_nil]
    exact e.symm
  have b := hb _ (Value.ref (s.heap.objs.size + 1) :: us) I2.kIn hl
  rw [List.append_nil] at b
  refine wpAny_call (make_map (f := f) I.kIn M.makes M.init (beq_iff_eq.mp M.fn) (codeAny_mono (F.run _ X.stack _ _ ⟨Value.ref (s.heap.objs.size + 1) :: us, []⟩ (Value.ref (s.heap.objs.size + 1) :: us) _ _ E (hr.make C us [])
    (I2.env0.make C us []) b r2 hq) fun r s' hq' => ?_))
  cases r with
  | error e => exact hx pins _ _ e s' I2 hq'
  | ok fl =>
    cases fl with
    | ret u =>
      obtain ⟨v, H', I3, rv, ev, q3⟩ := I2.after hq'
      subst ev
      exact ⟨rv, ⟨V.ref (s.heap.objs.size + 1), H', I3, rfl, q3⟩⟩
    | next => exact False.elim hq'
    | brk => exact False.elim hq'
    | cont => exact False.elim hq'
theorem pe_makeE {E : L2.St → XK} (M : Mk X.K C f) (F : FnOk X.prog X.w X.K X.mg X.base CX k f fd ps sp) (hr : Room (k + 1) X.A) (hg : Gl X x) (hm : X.mg x = some (.ref C)) (hb : Binds X.K fd ps []) (hx : ∀ σ, PassesAt CX X σ (E σ))
    (ha : PA X (e :: es) t) (hdb : (x == ("__debug__" : Str)) = false := by decide) (he : starEach (e :: es) X.env = (false, eval e X.env) :: starEach es X.env := by rfl) (hpl : (backTo pos (starEach es X.env)).any (·.1) = false := by rfl) :
    PE X (.Call (.Name x p) (e :: es) [] pos) (tMakeE C sp E t) := by
  refine ⟨fun pins s σ H Q I h => ?_⟩
  refine wpAny_Call_Name_kw (ld_glob I hg hm ?_ hdb)
  refine PySem.W.callWith_K (h₀ := X.base) I.ok.mod.kin M.kp (thn (ha.run pos pins s σ H _ I h) fun us s1 ⟨vs, H1, I1, r, q⟩ => ⟨I1.kIn, ?_⟩) he hpl
  exact run_makeE M F hr hb (hx σ) I1 r q
end
section
variable {X : Cx} {C : Addr} {bmB : List Value} {B newId initId : String}
/-- X() -/
theorem pmk_own0 {x : Str} {p pos : Pos} (F : ExcBaseFacts B newId initId bmB) (q : PySem.W.excIn X.K C bmB newId = true) (gC : X.mg x = some (.ref C)) (kC : PySem.W.keepIn X.K (.ref C) = true) (r : Raises X (.ref C)) (hg : Gl X x)
    (hdb : (x == ("__debug__" : Str)) = false := by decide) : PMk X (.Call (.Name x p) [] [] pos) (fun _ H Q => Q (.ref C) none H) := by
  intro pins s σ H Q I h
  refine wpAny_Call_Name_kw (ld_glob I hg gC ?_ hdb)
  refine PySem.W.callWith_K0 I.kIn kC ?_
  show wpAny _ _ (call (.ref C) []) _ _ _
  obtain ⟨bm, N, nm, qn, bs, hdct, sn, sub, ab, col, dd, k0, k1, k2, k3, k5, mN, hC, hN, hni, T⟩ := exc_obj I.kIn q
  refine wpAny_call_exc_subT F T hC hN hni (fun h' e hm => ?_) (by show 0 ≤ sizeLine; exact Nat.zero_le _)
  exact mk_of I hm r h (I.hok.gone hm.new)
end
/-- a dict comprehension over a walk -/
theorem dc_it {J : It} {n : Nat} {G : Hp → Prop} {Y : Nat → Hp → V → Hp → Prop} (w : Walk J n G Y) {g : TG} {tt : TT} {tk tv : TE} {vs : List Nat} {σ : L2.St} {H1 : Hp} {D : Addr} {Qd : Hp → Prop} (Pv : Nat → Hp → Prop) (h0 : Pv 0 (upd H1 D (.dK []))) (hG : ∀ i H, i ≤ n → Pv i H → G H)
    (hs : ∀ i x H H', i < n → Pv i H → Y i H x H' → g x (wipe σ vs) H' fun σ2 H2 => wipe σ2 vs = wipe σ vs ∧ tt σ2 H2 fun b H3 =>
      if b = true then tk σ2 H3 fun y H4 => tv σ2 H4 fun z H5 => ∃ kvs k, y = kV k ∧ H5 D = some (.dK kvs) ∧ kvs.length < sizeLine ∧ Pv (i + 1) (upd H5 D (.dK (putK kvs k z))) else Pv (i + 1) H3) (hd : ∀ H, Pv n H → Qd H) :
    ∃ W : Nat → Nat → Hp → Prop, (∃ m, W 0 m (upd H1 D (.dK []))) ∧ ∀ i m H, W i m H →
      (J.stop i H ∧ Qd H) ∨ (J.go i H ∧ ∃ Nx : Hp → Prop, (∀ H', Nx H' → ∃ m', m' < m ∧ W (i + 1) m' H') ∧ ∀ x H', J.yld i H x H' → g x (wipe σ vs) H' fun σ2 H2 => wipe σ2 vs = wipe σ vs ∧ tt σ2 H2 fun b H3 =>
        if b = true then tk σ2 H3 fun y H4 => tv σ2 H4 fun z H5 => ∃ kvs k, y = kV k ∧ H5 D = some (.dK kvs) ∧ kvs.length < sizeLine ∧ Nx (upd H5 D (.dK (putK kvs k z))) else Nx H3) := by
  refine ⟨fun i m H => m = n - i ∧ i ≤ n ∧ Pv i H, ⟨n, by simp, Nat.zero_le _, h0⟩, ?_⟩
  rintro i m H ⟨rfl, hi, p⟩
  have q := hG i H hi p
  by_cases hlt : i < n
  · refine .inr ⟨w.goes i H hlt q, Pv (i + 1), fun H' p' => ⟨n - (i + 1), by omega, rfl, hlt, p'⟩, fun x H' y => hs i x H H' hlt p (w.yields i H x H' hlt q y)⟩
  · have e : i = n := by omega
    subst e
    exact .inl ⟨w.stops H q, hd H p⟩
end Dk

set_option maxHeartbeats 4000000
/-! values and layouts -/
namespace Dk
open PySem PySem.Spec PyProof.Rows L2
def top (i : Nat) : Stmt := PySem.Challenge.pw_driftkept_k05_deed_alone.main.body.getD i (.Pass ⟨0, 0, 0, 0⟩)
abbrev sWhole : Stmt := top 8
abbrev sWithin : Stmt := top 9
abbrev sLInit : Stmt := inClass (top 17) 0
abbrev sEpoch : Stmt := inClass (top 17) 1
abbrev sESlot : Stmt := inClass (top 17) 2
abbrev sCSlot : Stmt := inClass (top 17) 3
abbrev sWord : Stmt := inClass (top 17) 4
abbrev sRecord : Stmt := inClass (top 17) 5
abbrev sCells : Stmt := inClass (top 17) 6
abbrev sIsCell : Stmt := inClass (top 17) 7
abbrev sIsLast : Stmt := inClass (top 17) 8
abbrev sHasT : Stmt := inClass (top 17) 10
/-- the type of a value that is no object -/
def vty : V → Option String
  | .non => some "NoneType"
  | .bl _ => some "bool"
  | .int _ => some "int"
  | .str _ => some "str"
  | _ => none
theorem ty_of {K : PySem.W.Frag} {H : Hp} : ∀ {v : V} {t : String}, vty v = some t → TyX K H v (.type t)
  | .non, _, h => by cases h; exact .base .non
  | .bl b, _, h => by cases h; exact .base (.bl b)
  | .int i, _, h => by cases h; exact .base (.int i)
  | .str x, _, h => by cases h; exact .base (.str x)
def isI : V → Bool
  | .int _ => true
  | _ => false
/-- an integer within lo .. hi -/
def inW (lo hi : Int) : V → Bool
  | .int i => decide (lo ≤ i) && decide (i ≤ hi)
  | _ => false
theorem inW_int {lo hi i : Int} : inW lo hi (.int i) = true ↔ lo ≤ i ∧ i ≤ hi := by
  show (decide (lo ≤ i) && decide (i ≤ hi)) = true ↔ _
  simp
/-- the built-in names as they are -/
structure Bn (mg : Str → Option Value) : Prop where
  isi : mg "isinstance" = none
  int : mg "int" = none
  bool : mg "bool" = none
  str : mg "str" = none
  tuple : mg "tuple" = none
  list : mg "list" = none
  range : mg "range" = none
  len : mg "len" = none
  abs : mg "abs" = none
def lf (t w r : Int) : List (Str × V) := [("threads", .int t), ("words", .int w), ("records", .int r)]
/-- a layout stands at a -/
def LayAt (C : Addr) (H : Hp) (a : Addr) (t w r : Int) : Prop := ∃ dx, H a = some (.ins C dx (lf t w r))
structure LTxt (K : PySem.W.Frag) (mg : Str → Option Value) (C : Addr) : Prop where
  bn : Bn mg
  cl : Cls K C
  nT : NoAttr K C "threads"
  nW : NoAttr K C "words"
  nR : NoAttr K C "records"
def spWhole : Sp := fun vs H Q _ => ∃ v t, vs = [v] ∧ vty v = some t ∧ Q (.bl (isI v)) H
def spWithin : Sp := fun vs H Q _ => ∃ v t lo hi, vs = [v, .int lo, .int hi] ∧ vty v = some t ∧ Q (.bl (inW lo hi v)) H
def spL0 (C : Addr) (g : Int → Int → Int → V) : Sp := fun vs H Q _ => ∃ a t w r, vs = [.ref a] ∧ LayAt C H a t w r ∧ Q (g t w r) H
def spL1 (C : Addr) (g : Int → Int → Int → Int → V) : Sp := fun vs H Q _ => ∃ a t w r i, vs = [.ref a, .int i] ∧ LayAt C H a t w r ∧ Q (g t w r i) H
def spLV (C : Addr) (g : Int → Int → Int → V → V) : Sp := fun vs H Q _ => ∃ a t w r v ty, vs = [.ref a, v] ∧ vty v = some ty ∧ LayAt C H a t w r ∧ Q (g t w r v) H
/-- the cells -/
def cells (t w r : Int) : Int := 1 + t + t + w + r
def first (t : Int) : Int := 1 + t
def rec0 (t w : Int) : Int := 1 + t + t + w
def geB (x : Int) : V → Bool
  | .int i => decide (x ≤ i)
  | _ => false
def lastB (t w r : Int) (v : V) : Bool := inW 0 (cells t w r - 1) v && geB (first t + 0) v
def recB (t w r : Int) (v : V) : Bool := inW 0 (cells t w r - 1) v && geB (rec0 t w + 0) v
section
variable {P : Program} {w : World} {K : PySem.W.Frag} {mg : Str → Option Value} {base : Heap} {C : Addr}
theorem scWhole : FnScope ["value"] ["value"] (defScope sWhole) := ⟨rfl, rfl, rfl, by decide +kernel, rfl, by decide +kernel, by decide +kernel⟩
theorem go_whole (F : GT K mg "is_whole" sWhole ["value"]) (T : Bn mg) : GO P w K mg base CX0 1 "is_whole" ["value"] spWhole := by
  obtain ⟨f, fd, F, hm, hb⟩ := F
  refine ⟨f, fd, ?_, hm, F.kp, hb⟩
  refine F.ok scWhole (fun vs H Q E h => ?_) (fun cdv A outer s H vs Q E hr h => ?_)
  · obtain ⟨v, t, rfl, _⟩ := h
    rfl
  · obtain ⟨v, t, rfl, ht, k⟩ := h
    refine ⟨_, pss_one (ps_ret (pe_and (pe_callB call_isi (by rfl) T.isi (by decide +kernel) (pa_cons (pv 0) (pa_cons (pe_bltn (v := .ty "int") (by rfl) T.int (by decide +kernel) rfl) pa_nil)))
      (pe_one (pe_not (pe_callB call_isi (by rfl) T.isi (by decide +kernel) (pa_cons (pv 0) (pa_cons (pe_bltn (v := .ty "bool") (by rfl) T.bool (by decide +kernel) rfl) pa_nil))))))), ?_⟩
    have ty := ty_of (K := K) (H := H) ht
    cases v <;> cases ht
    · exact ⟨_, rfl, _, _, _, _, false, rfl, .ty "int", ty, kit_ty (by decide +kernel), false, rfl, k⟩
    · refine ⟨_, rfl, _, _, _, _, true, rfl, .ty "int", ty, kit_ty (by decide +kernel), true, rfl, ?_⟩
      exact iteT ⟨_, rfl, _, _, _, _, true, rfl, .ty "bool", ty, kit_ty (by decide +kernel), true, rfl, k⟩
    · refine ⟨_, rfl, _, _, _, _, true, rfl, .ty "int", ty, kit_ty (by decide +kernel), true, rfl, ?_⟩
      exact iteT ⟨_, rfl, _, _, _, _, false, rfl, .ty "bool", ty, kit_ty (by decide +kernel), false, rfl, k⟩
    · exact ⟨_, rfl, _, _, _, _, false, rfl, .ty "int", ty, kit_ty (by decide +kernel), false, rfl, k⟩
theorem scWithin : FnScope ["value", "low", "high"] ["value", "low", "high"] (defScope sWithin) := ⟨rfl, rfl, rfl, by decide +kernel, rfl, by decide +kernel, by decide +kernel⟩
theorem go_within (F : GT K mg "is_within" sWithin ["value", "low", "high"]) (G : GO P w K mg base CX0 1 "is_whole" ["value"] spWhole) : GO P w K mg base CX0 2 "is_within" ["value", "low", "high"] spWithin := by
  obtain ⟨f, fd, F, hm, hb⟩ := F
  refine ⟨f, fd, ?_, hm, F.kp, hb⟩
  refine F.ok scWithin (fun vs H Q E h => ?_) (fun cdv A outer s H vs Q E hr h => ?_)
  · obtain ⟨v, t, lo, hi, rfl, _⟩ := h
    rfl
  · obtain ⟨v, t, lo, hi, rfl, ht, k⟩ := h
    refine ⟨_, pss_one (ps_ret (pe_and (pc_ G hr (pa_cons (pv 0) pa_nil)) (pe_one (pe_chain op_le op_le (pv 1) (pv 0) (pv 2))))), ?_⟩
    refine ⟨_, rfl, v, t, rfl, ht, _, rfl, ?_⟩
    cases v <;> cases ht
    · exact iteF k
    · exact iteF k
    · rename_i i
      refine iteT ⟨_, rfl, _, rfl, _, _, rfl, rfl, _, rfl, ?_⟩
      have e : inW lo hi (.int i) = (decide (lo ≤ i) && decide (i ≤ hi)) := rfl
      rw [e] at k
      cases h1 : decide (lo ≤ i) with
      | true =>
        rw [h1] at k
        exact iteT ⟨_, rfl, _, _, rfl, rfl, by simpa using k⟩
      | false =>
        rw [h1] at k
        exact iteF (by simpa using k)
    · exact iteF k
theorem scEpoch : FnScope ["self"] ["self"] (defScope sEpoch) := ⟨rfl, rfl, rfl, by decide +kernel, rfl, by decide +kernel, by decide +kernel⟩
theorem mo_epoch (F : MT K C "epoch" "Layout.epoch" sEpoch ["self"]) : MO P w K mg base CX0 C 1 "epoch" ["self"] (spL0 C fun _ _ _ => .int 0) := by
  obtain ⟨f, fd, F, hm, hb⟩ := F
  refine ⟨f, fd, ?_, hm, hb⟩
  refine F.ok scEpoch (fun vs H Q E h => ?_) (fun cdv A outer s H vs Q E hr h => ?_)
  · obtain ⟨a, t, w, r, rfl, _⟩ := h
    rfl
  · obtain ⟨a, t, w, r, rfl, _, k⟩ := h
    exact ⟨_, pss_one (ps_ret pe_int), k⟩
theorem scESlot : FnScope ["self", "thread"] ["self", "thread"] (defScope sESlot) := ⟨rfl, rfl, rfl, by decide +kernel, rfl, by decide +kernel, by decide +kernel⟩
theorem mo_eslot (F : MT K C "epoch_slot" "Layout.epoch_slot" sESlot ["self", "thread"]) : MO P w K mg base CX0 C 1 "epoch_slot" ["self", "thread"] (spL1 C fun _ _ _ i => .int (1 + i)) := by
  obtain ⟨f, fd, F, hm, hb⟩ := F
  refine ⟨f, fd, ?_, hm, hb⟩
  refine F.ok scESlot (fun vs H Q E h => ?_) (fun cdv A outer s H vs Q E hr h => ?_)
  · obtain ⟨a, t, w, r, i, rfl, _⟩ := h
    rfl
  · obtain ⟨a, t, w, r, i, rfl, _, k⟩ := h
    exact ⟨_, pss_one (ps_ret (pe_op op_add pe_int (pv 1))), _, rfl, _, _, rfl, rfl, k⟩
theorem scCSlot : FnScope ["self", "thread"] ["self", "thread"] (defScope sCSlot) := ⟨rfl, rfl, rfl, by decide +kernel, rfl, by decide +kernel, by decide +kernel⟩
theorem mo_cslot (F : MT K C "call_slot" "Layout.call_slot" sCSlot ["self", "thread"]) (T : LTxt K mg C) (G : MO P w K mg base CX0 C 1 "epoch_slot" ["self", "thread"] (spL1 C fun _ _ _ i => .int (1 + i))) :
    MO P w K mg base CX0 C 2 "call_slot" ["self", "thread"] (spL1 C fun t _ _ i => .int (first t + i)) := by
  obtain ⟨f, fd, F, hm, hb⟩ := F
  refine ⟨f, fd, ?_, hm, hb⟩
  refine F.ok scCSlot (fun vs H Q E h => ?_) (fun cdv A outer s H vs Q E hr h => ?_)
  · obtain ⟨a, t, w, r, i, rfl, _⟩ := h
    rfl
  · obtain ⟨a, t, w, r, i, rfl, L, k⟩ := h
    obtain ⟨dx, h1⟩ := id L
    refine ⟨_, pss_one (ps_ret (pe_op op_add (pm_ G T.cl hr (pv 0) (pa_cons (pe_fld (pv 0) rfl) pa_nil)) (pv 1))), ?_⟩
    exact ⟨_, rfl, a, dx, _, rfl, h1, rfl, _, rfl, a, C, dx, _, _, rfl, h1, T.cl, T.nT, rfl, a, t, w, r, t, rfl, L, _, rfl, _, _, rfl, rfl, k⟩
theorem scWord : FnScope ["self", "index"] ["self", "index"] (defScope sWord) := ⟨rfl, rfl, rfl, by decide +kernel, rfl, by decide +kernel, by decide +kernel⟩
theorem mo_word (F : MT K C "word" "Layout.word" sWord ["self", "index"]) (T : LTxt K mg C) (G : MO P w K mg base CX0 C 2 "call_slot" ["self", "thread"] (spL1 C fun t _ _ i => .int (first t + i))) :
    MO P w K mg base CX0 C 3 "word" ["self", "index"] (spL1 C fun t _ _ i => .int (first t + t + i)) := by
  obtain ⟨f, fd, F, hm, hb⟩ := F
  refine ⟨f, fd, ?_, hm, hb⟩
  refine F.ok scWord (fun vs H Q E h => ?_) (fun cdv A outer s H vs Q E hr h => ?_)
  · obtain ⟨a, t, w, r, i, rfl, _⟩ := h
    rfl
  · obtain ⟨a, t, w, r, i, rfl, L, k⟩ := h
    obtain ⟨dx, h1⟩ := id L
    refine ⟨_, pss_one (ps_ret (pe_op op_add (pm_ G T.cl hr (pv 0) (pa_cons (pe_fld (pv 0) rfl) pa_nil)) (pv 1))), ?_⟩
    exact ⟨_, rfl, a, dx, _, rfl, h1, rfl, _, rfl, a, C, dx, _, _, rfl, h1, T.cl, T.nT, rfl, a, t, w, r, t, rfl, L, _, rfl, _, _, rfl, rfl, k⟩
theorem scRecord : FnScope ["self", "index"] ["self", "index"] (defScope sRecord) := ⟨rfl, rfl, rfl, by decide +kernel, rfl, by decide +kernel, by decide +kernel⟩
theorem mo_record (F : MT K C "record" "Layout.record" sRecord ["self", "index"]) (T : LTxt K mg C) (G : MO P w K mg base CX0 C 3 "word" ["self", "index"] (spL1 C fun t _ _ i => .int (first t + t + i))) :
    MO P w K mg base CX0 C 4 "record" ["self", "index"] (spL1 C fun t w _ i => .int (rec0 t w + i)) := by
  obtain ⟨f, fd, F, hm, hb⟩ := F
  refine ⟨f, fd, ?_, hm, hb⟩
  refine F.ok scRecord (fun vs H Q E h => ?_) (fun cdv A outer s H vs Q E hr h => ?_)
  · obtain ⟨a, t, w, r, i, rfl, _⟩ := h
    rfl
  · obtain ⟨a, t, w, r, i, rfl, L, k⟩ := h
    obtain ⟨dx, h1⟩ := id L
    refine ⟨_, pss_one (ps_ret (pe_op op_add (pm_ G T.cl hr (pv 0) (pa_cons (pe_fld (pv 0) rfl) pa_nil)) (pv 1))), ?_⟩
    exact ⟨_, rfl, a, dx, _, rfl, h1, rfl, _, rfl, a, C, dx, _, _, rfl, h1, T.cl, T.nW, rfl, a, t, w, r, w, rfl, L, _, rfl, _, _, rfl, rfl, k⟩
theorem scCells : FnScope ["self"] ["self"] (defScope sCells) := ⟨rfl, rfl, rfl, by decide +kernel, rfl, by decide +kernel, by decide +kernel⟩
theorem mo_cells (F : MT K C "cells" "Layout.cells" sCells ["self"]) (T : LTxt K mg C) (G : MO P w K mg base CX0 C 4 "record" ["self", "index"] (spL1 C fun t w _ i => .int (rec0 t w + i))) :
    MO P w K mg base CX0 C 5 "cells" ["self"] (spL0 C fun t w r => .int (cells t w r)) := by
  obtain ⟨f, fd, F, hm, hb⟩ := F
  refine ⟨f, fd, ?_, hm, hb⟩
  refine F.ok scCells (fun vs H Q E h => ?_) (fun cdv A outer s H vs Q E hr h => ?_)
  · obtain ⟨a, t, w, r, rfl, _⟩ := h
    rfl
  · obtain ⟨a, t, w, r, rfl, L, k⟩ := h
    obtain ⟨dx, h1⟩ := id L
    refine ⟨_, pss_one (ps_ret (pm_ G T.cl hr (pv 0) (pa_cons (pe_fld (pv 0) rfl) pa_nil))), ?_⟩
    exact ⟨_, rfl, a, dx, _, rfl, h1, rfl, _, rfl, a, C, dx, _, _, rfl, h1, T.cl, T.nR, rfl, a, t, w, r, r, rfl, L, k⟩
theorem scIsCell : FnScope ["self", "cell"] ["self", "cell"] (defScope sIsCell) := ⟨rfl, rfl, rfl, by decide +kernel, rfl, by decide +kernel, by decide +kernel⟩
theorem mo_iscell (F : MT K C "is_cell" "Layout.is_cell" sIsCell ["self", "cell"]) (T : LTxt K mg C) (G : MO P w K mg base CX0 C 5 "cells" ["self"] (spL0 C fun t w r => .int (cells t w r)))
    (GW : GO P w K mg base CX0 2 "is_within" ["value", "low", "high"] spWithin) : MO P w K mg base CX0 C 6 "is_cell" ["self", "cell"] (spLV C fun t w r v => .bl (inW 0 (cells t w r - 1) v)) := by
  obtain ⟨f, fd, F, hm, hb⟩ := F
  refine ⟨f, fd, ?_, hm, hb⟩
  refine F.ok scIsCell (fun vs H Q E h => ?_) (fun cdv A outer s H vs Q E hr h => ?_)
  · obtain ⟨a, t, w, r, v, ty, rfl, _⟩ := h
    rfl
  · obtain ⟨a, t, w, r, v, ty, rfl, hv, L, k⟩ := h
    obtain ⟨dx, h1⟩ := id L
    refine ⟨_, pss_one (ps_ret (pc_ GW (hr.mono (by decide)) (pa_cons (pv 1) (pa_cons pe_int (pa_cons (pe_op op_sub (pm0_ G T.cl hr (pv 0)) pe_int) pa_nil))))), ?_⟩
    exact ⟨_, rfl, _, rfl, a, dx, _, rfl, h1, rfl, a, t, w, r, rfl, L, _, _, rfl, rfl, v, ty, _, _, rfl, hv, k⟩
theorem scIsLast : FnScope ["self", "cell"] ["self", "cell"] (defScope sIsLast) := ⟨rfl, rfl, rfl, by decide +kernel, rfl, by decide +kernel, by decide +kernel⟩
theorem mo_islast (F : MT K C "is_lasting" "Layout.is_lasting" sIsLast ["self", "cell"]) (T : LTxt K mg C) (G : MO P w K mg base CX0 C 6 "is_cell" ["self", "cell"] (spLV C fun t w r v => .bl (inW 0 (cells t w r - 1) v)))
    (GC : MO P w K mg base CX0 C 2 "call_slot" ["self", "thread"] (spL1 C fun t _ _ i => .int (first t + i))) : MO P w K mg base CX0 C 7 "is_lasting" ["self", "cell"] (spLV C fun t w r v => .bl (lastB t w r v)) := by
  obtain ⟨f, fd, F, hm, hb⟩ := F
  refine ⟨f, fd, ?_, hm, hb⟩
  refine F.ok scIsLast (fun vs H Q E h => ?_) (fun cdv A outer s H vs Q E hr h => ?_)
  · obtain ⟨a, t, w, r, v, ty, rfl, _⟩ := h
    rfl
  · obtain ⟨a, t, w, r, v, ty, rfl, hv, L, k⟩ := h
    obtain ⟨dx, h1⟩ := id L
    refine ⟨_, pss_one (ps_ret (pe_and (pm_ G T.cl hr (pv 0) (pa_cons (pv 1) pa_nil)) (pe_one (pe_cmpR op_ge (pv 1) (pm_ GC T.cl (hr.mono (by decide)) (pv 0) (pa_cons pe_int pa_nil)) (nomark _))))), ?_⟩
    refine ⟨_, rfl, a, dx, _, rfl, h1, rfl, _, rfl, a, t, w, r, v, ty, rfl, hv, L, _, rfl, ?_⟩
    simp only [lastB] at k
    cases v <;> cases hv
    · exact iteF k
    · exact iteF k
    · rename_i i
      cases h2 : inW 0 (cells t w r - 1) (.int i) with
      | true =>
        rw [h2] at k
        exact iteT ⟨_, rfl, _, rfl, a, dx, _, rfl, h1, rfl, a, t, w, r, _, rfl, L, _, _, rfl, rfl, (by rw [Bool.true_and] at k; exact k)⟩
      | false =>
        rw [h2] at k
        exact iteF (by rw [Bool.false_and] at k; exact k)
    · exact iteF k
end
end Dk

set_option maxHeartbeats 4000000
/-! the refusals; a layout is made -/
namespace Dk
open PySem PySem.Spec PyProof.Rows L2
abbrev sPass : Stmt := top 20
abbrev bmVE : List Value := [.type "ValueError", .type "Exception", .type "BaseException", .type "object"]
/-- what the top has written of the refusals: NotValid at NV, LineError at LE -/
structure XTxt (K : PySem.W.Frag) (mg : Str → Option Value) (NV LE : Addr) : Prop where
  gN : mg "NotValid" = some (.ref NV)
  gL : mg "LineError" = some (.ref LE)
  xN : PySem.W.excIn K NV bmVE "ValueError.__new__" = true
  kN : PySem.W.keepIn K (.ref NV) = true
  sN : PySem.W.subIn K (.ref NV) (.type "BaseException") = some true
  tN : PySem.W.typeIn K (.ref NV) = some (.type "type")
  eN : PySem.W.exmOne K (.ref NV) (.ref LE) = some true
  eC : ExcC K NV
  kit : PySem.W.kitOne K (.ref NV) (.ref NV) = some true
def lok (t w r : Int) : Bool := inW 1 3 (.int t) && (inW 1 4 (.int w) && inW 4 200 (.int r))
structure LOk (t w r : Int) : Prop where
  t1 : 1 ≤ t
  t3 : t ≤ 3
  w1 : 1 ≤ w
  w4 : w ≤ 4
  r4 : 4 ≤ r
  r200 : r ≤ 200
theorem lok_iff {t w r : Int} : lok t w r = true ↔ LOk t w r := by
  unfold lok
  rw [Bool.and_eq_true, Bool.and_eq_true, inW_int, inW_int, inW_int]
  exact ⟨fun ⟨⟨a, b⟩, ⟨c, d⟩, e, f⟩ => ⟨a, b, c, d, e, f⟩, fun ⟨a, b, c, d, e, f⟩ => ⟨⟨a, b⟩, ⟨c, d⟩, e, f⟩⟩
def spLInit (C NV : Addr) : Sp := fun vs H Q E => ∃ p dx t w r, vs = [.ref p, .int t, .int w, .int r] ∧ H p = some (.ins C dx []) ∧
  (lok t w r = true → ∀ H', LayAt C H' p t w r → (∀ b o, H b = some o → b ≠ p → H' b = some o) → Q .non H') ∧ (lok t w r = false → E (.ref NV) none H)
def spTold (C : Addr) : Sp := fun vs H Q _ => ∃ t w r, vs = [.int t, .int w, .int r] ∧
  (lok t w r = true → ∀ p H', H p = none → LayAt C H' p t w r → Same H H' → Q (.ref p) H') ∧ (lok t w r = false → ∀ p H', H' p = some (.lst [.bl true]) → Same H H' → Q (.ref p) H')
def rIsE' (K : PySem.W.Frag) (D a : Addr) (cls : Value) (d : Option Addr) : List V → Hp → VK → Prop := fun xs H Q => cls = .ref D ∧ d = none ∧ rIsE K D a xs H Q
theorem call_isE' {X : Cx} {a D : Addr} {oe : Obj} {cls : Value} {d : Option Addr} {pn : List (Addr × Obj)} (C : ExcC X.K D) (hz : Zc cls d oe) (hf : ∃ vs, oe.data = .fields vs) :
    CallR (X.suite a ((a, oe) :: pn)) (.builtin "isinstance") (rIsE' X.K D a cls d) := by
  intro pins s σ H xs us Q I r h
  obtain ⟨rfl, rfl, h⟩ := h
  exact call_isE C hz hf pins s σ H xs us Q I r h
section
variable {P : Program} {w : World} {K : PySem.W.Frag} {mg : Str → Option Value} {base : Heap} {C NV LE : Addr}
theorem scLInit : FnScope ["self", "threads", "words", "records"] ["self", "threads", "words", "records"] (defScope sLInit) := ⟨rfl, rfl, rfl, by decide +kernel, rfl, by decide +kernel, by decide +kernel⟩
theorem ok_linit {f : Addr} {fd : FuncData} (F : Fun K "__init__" "Layout.__init__" sLInit f fd) (T : LTxt K mg C) (X0 : XTxt K mg NV LE) (G : GO P w K mg base CX0 2 "is_within" ["value", "low", "high"] spWithin) :
    FnOk P w K mg base (L2.CX P w) 3 f fd ["self", "threads", "words", "records"] (spLInit C NV) := by
  refine F.okX scLInit (fun vs H Q E h => ?_) (fun cdv A outer s H vs Q E hr h => ?_)
  · obtain ⟨p, dx, t, w, r, rfl, _⟩ := h
    rfl
  · obtain ⟨p, dx, t, w, r, rfl, hp, k1, k2⟩ := h
    refine ⟨_, pss_cons (ps_if (pt_not (PW.pt (pw_and (pt_val (pc_ G hr (pa_cons (pv 1) (pa_cons pe_int (pa_cons pe_int pa_nil))))) (pw_and (pt_val (pc_ G hr (pa_cons (pv 2) (pa_cons pe_int (pa_cons pe_int pa_nil)))))
        (pw_and1 (pt_val (pc_ G hr (pa_cons (pv 3) (pa_cons pe_int (pa_cons pe_int pa_nil))))))))))
        (pss_one (ps_raise rfl (takes_of rfl rfl rfl rfl) (pmk_own0 PySem.F.excBase_ValueError X0.xN X0.gN X0.kN (raises_own X0.sN X0.tN) rfl))) pss_nil)
      (pss_cons (ps_fld (pv 0) (pv 1) rfl) (pss_cons (ps_fld (pv 0) (pv 2) rfl) (pss_one (ps_fld (pv 0) (pv 3) rfl)))), ?_⟩
    have fin : lok t w r = true → tSeq (sFld K (tVar 0) (tVar 1) "threads") (tSeq (sFld K (tVar 0) (tVar 2) "words") (sFld K (tVar 0) (tVar 3) "records")) { nx := fun _ H' => Q .non H', rt := Q } (L2.start ["self", "threads", "words", "records"] [.ref p, .int t, .int w, .int r]) H := fun q => by
      refine ⟨_, rfl, _, rfl, p, C, dx, [], rfl, hp, T.cl, T.nT, (by show 0 < 1000; decide), _, rfl, _, rfl, p, C, dx, _, rfl, upd_same, T.cl, T.nW, (by show 1 < 1000; decide), _, rfl, _, rfl, p, C, dx, _, rfl, upd_same, T.cl, T.nR, (by show 2 < 1000; decide), ?_⟩
      exact k1 q _ ⟨dx, upd_same⟩ fun b o e hb => by rw [upd_ne hb, upd_ne hb, upd_ne hb]; exact e
    refine ⟨_, rfl, _, _, _, _, rfl, rfl, _, rfl, ?_⟩
    cases h1 : inW 1 3 (V.int t) with
    | false => exact iteF (iteT (k2 (by unfold lok; rw [h1]; rfl)))
    | true =>
      refine iteT ⟨_, rfl, _, _, _, _, rfl, rfl, _, rfl, ?_⟩
      cases h2 : inW 1 4 (V.int w) with
      | false => exact iteF (iteT (k2 (by unfold lok; rw [h1, h2]; rfl)))
      | true =>
        refine iteT ⟨_, rfl, _, _, _, _, rfl, rfl, _, rfl, ?_⟩
        cases h3 : inW 4 200 (V.int r) with
        | false => exact (iteT (k2 (by unfold lok; rw [h1, h2, h3]; rfl)))
        | true => exact (iteF (fin (by unfold lok; rw [h1, h2, h3]; rfl)))
/-- passing_values -/
def spPass (C : Addr) : Sp := fun vs H Q _ => ∃ a t w r, vs = [.ref a] ∧ LayAt C H a t w r ∧ LOk t w r ∧ ∀ p H', H p = none → H' p = some (.lst (.int 0 :: List.replicate t.toNat .non)) → Same H H' → Q (.ref p) H'
theorem flat1 : ∀ n : Nat, (List.replicate n [V.non]).flatten = List.replicate n V.non
  | 0 => rfl
  | n + 1 => by
    rw [List.replicate_succ, List.flatten_cons, flat1 n]
    rfl
theorem scPass : FnScope ["layout"] ["layout"] (defScope sPass) := ⟨rfl, rfl, rfl, by decide +kernel, rfl, by decide +kernel, by decide +kernel⟩
theorem go_pass (F : GT K mg "passing_values" sPass ["layout"]) (T : LTxt K mg C) : GO P w K mg base CX0 1 "passing_values" ["layout"] (spPass C) := by
  obtain ⟨f, fd, F, hm, hb⟩ := F
  refine ⟨f, fd, ?_, hm, F.kp, hb⟩
  refine F.ok scPass (fun vs H Q E h => ?_) (fun cdv A outer s H vs Q E hr h => ?_)
  · obtain ⟨a, t, w, r, rfl, _⟩ := h
    rfl
  · obtain ⟨a, t, w, r, rfl, ⟨dx, h1⟩, ok, k⟩ := h
    have q1 := ok.t1
    have q3 := ok.t3
    refine ⟨_, pss_one (ps_ret (pe_op op_cat (pe_lst (pa_cons pe_int pa_nil)) (pe_op op_rep (pe_lst (pa_cons pe_non pa_nil)) (pe_fld (pv 0) rfl)))), ?_⟩
    refine ⟨(by show 1 ≤ sizeLine; decide), fun p1 n1 => ⟨(by show 1 ≤ sizeLine; decide), fun p2 n2 => ?_⟩⟩
    have a1 : a ≠ p1 := ne_of_none h1 n1
    have e1 : upd H p1 (HO.lst [V.int 0]) a = some (.ins C dx (lf t w r)) := by rw [upd_ne a1]; exact h1
    have a2 : a ≠ p2 := ne_of_none e1 n2
    have p12 : p1 ≠ p2 := ne_of_none (upd_same (H := H) (a := p1) (o := HO.lst [V.int 0])) n2
    have hs : [V.non].length * t.toNat ≤ sizeLine := by
      have : sizeLine = 16777216 := sizeLine_eq
      simp only [List.length_singleton]
      omega
    refine ⟨_, rfl, a, C, dx, _, _, rfl, (by rw [upd_ne a2]; exact e1), T.cl, T.nT, rfl, _, _, _, rfl, rfl, upd_same, (by omega), (by omega), hs, fun p3 n3 => ?_⟩
    have p13 : p1 ≠ p3 := ne_of_none (by rw [upd_ne p12]; exact upd_same) n3
    refine ⟨p1, p3, _, _, rfl, rfl, (by rw [upd_ne p13, upd_ne p12]; exact upd_same), upd_same, ?_, fun p4 n4 => ?_⟩
    · rw [flat1, List.length_replicate]
      have : sizeLine = 16777216 := sizeLine_eq
      simp only [List.length_singleton]
      omega
    · have sm : Same H (upd (upd (upd H p1 (HO.lst [V.int 0])) p2 (HO.lst [V.non])) p3 (HO.lst (List.replicate t.toNat [V.non]).flatten)) := fun b o e => by
        have b1 := ne_of_none e n1
        have e' : upd H p1 (HO.lst [V.int 0]) b = some o := by rw [upd_ne b1]; exact e
        have b2 := ne_of_none e' n2
        have e'' : upd (upd H p1 (HO.lst [V.int 0])) p2 (HO.lst [V.non]) b = some o := by rw [upd_ne b2]; exact e'
        rw [upd_ne (ne_of_none e'' n3)]
        exact e''
      refine k p4 _ (sm.free n4) (by rw [upd_same, flat1]; rfl) fun b o e => ?_
      rw [upd_ne (ne_of_none (sm b o e) n4)]
      exact sm b o e
end
end Dk

set_option maxHeartbeats 4000000
/-! dicts over cells; the rule of a name = {k: v for ..} -/
namespace Dk
open PySem PySem.Spec PyProof.Rows L2
section
variable {X : Cx}
theorem ps_setDc {i : Nat} {y : Str} {py : Pos} {kx vx tg iter : Expr} {ifs : List Expr} {scope : Scope} {own : List (Str × Nat)} {pos spos : Pos} {wi : TI} {g : TG} {tt : TT} {tk tv : TE} (hc : X.calm = true) (hN : X.N.Nodup) (hy : X.N[i]? = some y) (hyl : X.env.scope.names.lookup y = some .local)
    (hsw : swapsWith (.DictComp kx vx [⟨tg, iter, ifs, 0⟩] scope pos) (some (.Name y py)) spos.line X.env = pure true) (hi : PI X tg iter wi) (ok : BlkOk X.N X.env.scope scope own)
    (hg : ∀ (s : Shared) (H : Hp) (C : Addr) (cl : List (Str × Addr)) (fp : List Addr), PG (X.blk s H scope (compEnvC scope cl C X.env) fp) tg g) (ht : ∀ (s : Shared) (H : Hp) (C : Addr) (cl : List (Str × Addr)) (fp : List Addr), PTs (X.blk s H scope (compEnvC scope cl C X.env) fp) ifs tt)
    (hk : ∀ (s : Shared) (H : Hp) (C : Addr) (cl : List (Str × Addr)) (fp : List Addr), PE (X.blk s H scope (compEnvC scope cl C X.env) fp) kx tk)
    (he : ∀ (s : Shared) (H : Hp) (C : Addr) (cl : List (Str × Addr)) (fp : List Addr), PE (X.blk s H scope (compEnvC scope cl C X.env) fp) vx tv) (hs : ∀ x, foldedSetIterable iter X.env x = pure x := by intro _; rfl) :
    PS X (.Assign [.Name y py] (.DictComp kx vx [⟨tg, iter, ifs, 0⟩] scope pos) spos) (tAsg (tDc wi g tt tk tv (own.map (·.2))) (gName i)) := by
  refine ⟨fun pins s σ H D I h => ?_⟩
  rw [exec_Assign_Name_used _ _ _ _ hsw]
  refine wpAny_bind (wpAny_standAt (wpAny_bind ?_))
  show wpAny _ X.A (do let _ ← comprehension (.DictComp kx vx [⟨tg, iter, ifs, 0⟩] scope pos) scope X.env (firstIterPos [⟨tg, iter, ifs, 0⟩] pos) newDict false (eval iter X.env) (some (assign (.Name y py) X.env))) _ _ s
  have h : tDc wi g tt tk tv (own.map (·.2)) σ H (fun x H1 => gName i x σ H1 D.nx) := h
  refine wpAny_bind (thn (dc_core (Qf := fun _ s' => SP X pins D .next s') hc hN I hi ok hg ht hk he hs h fun L C s' m H' I' q hn f => ?_) fun _ s' hq => wpAny_pure (wpAny_pure hq))
  show wpAny _ _ (assign (.Name y py) X.env (.ref L)) _ _ _
  refine wpAny_assign_Name (store_ok2 (v := V.ref L) I' hN hy (.inl hyl) rfl (fun s2 I2 ⟨a, sb, ha⟩ => ?_) (.inr hyl))
  obtain ⟨f0, f1, f2, f3, f4, f5⟩ := f
  have haC : C ≠ a := by
    rcases ha with z | z
    · rw [z]; exact f1
    · exact fun e => f4 y a z e.symm
  refine ⟨m, hn.sameBut sb haC, fun h3 sb3 => ?_⟩
  exact ⟨_, H', I2.turned (t' := s2.toks) (fun b o hb e => (sb3.2 b hb).trans e) f0 f1 f3 f4 f5, q⟩
theorem sw_trueD {kx vx : Expr} {gs : List Comprehension} {scope : Scope} {pos py : Pos} {y : Str} {l : Nat} {env : Env} (hk : env.scope.kind = .function) (hy : env.scope.names.lookup y = some .local) (hl : (py.line == pos.line) = true)
    (ha : (scope.names.any fun (n, k) => n == y && (k == .local || k == .cell)) = false) : swapsWith (.DictComp kx vx gs scope pos) (some (.Name y py)) l env = pure true := by
  have ky : env.kindOf y = some .local := hy
  have hb : env.blockKind = .function := by unfold Env.blockKind; rw [hk]; rfl
  unfold swapsWith
  simp only [hb, ky, ha, Expr.pos, hl]
  rfl
end
/-! ### a dict whose keys are f, f + 1, .. -/
def kv (f : Int) (n : Nat) (g : Nat → V) : List (Key × V) := (List.range n).map fun (j : Nat) => ((Sum.inl (f + (j : Int)) : Key), g j)
def setf (g : Nat → V) (j : Nat) (v : V) : Nat → V := fun i => if i = j then v else g i
theorem kv_len (f : Int) (n : Nat) (g : Nat → V) : (kv f n g).length = n := by unfold kv; rw [List.length_map, List.length_range]
theorem kv_congr {f : Int} {n : Nat} {g h : Nat → V} (e : ∀ j, j < n → g j = h j) : kv f n g = kv f n h := by
  unfold kv
  exact List.map_congr_left fun (j : Nat) hj => by rw [e j (List.mem_range.mp hj)]
theorem kv_succ (f : Int) (n : Nat) (g : Nat → V) : kv f (n + 1) g = kv f n g ++ [((Sum.inl (f + (n : Int)) : Key), g n)] := by
  unfold kv
  rw [List.range_succ, List.map_append]
  rfl
theorem kv_no (f : Int) (g : Nat → V) (i : Int) : ∀ n : Nat, (∀ j : Nat, j < n → f + (j : Int) ≠ i) → valV (kv f n g) (Sum.inl i : Key) = none
  | 0, _ => rfl
  | n + 1, h => by
    have ih := kv_no f g i n fun j hj => h j (by omega)
    rw [kv_succ, valV_snoc _ _ _ _ (kv_no f g (f + (n : Int)) n fun j hj e => by omega), if_neg (fun e => h n (by omega) (Sum.inl.inj e).symm)]
    exact ih
theorem kv_val (f : Int) (g : Nat → V) (j : Nat) : ∀ n : Nat, j < n → valV (kv f n g) (Sum.inl (f + (j : Int)) : Key) = some (g j)
  | 0, h => by omega
  | n + 1, h => by
    rw [kv_succ, valV_snoc _ _ _ _ (kv_no f g (f + (n : Int)) n fun j hj e => by omega)]
    by_cases e : j = n
    · subst e
      rw [if_pos rfl]
    · rw [if_neg (fun q => e (by have := Sum.inl.inj q; omega))]
      exact kv_val f g j n (by omega)
theorem kv_new (f : Int) (n : Nat) (g : Nat → V) (v : V) : putK (kv f n g) (Sum.inl (f + (n : Int)) : Key) v = kv f (n + 1) (setf g n v) := by
  rw [putK_new v (kv_no f g (f + (n : Int)) n fun j hj e => by omega), kv_succ]
  rw [kv_congr (h := setf g n v) (n := n) (fun j hj => by unfold setf; rw [if_neg (by omega)])]
  unfold setf
  rw [if_pos rfl]
theorem kv_put (f : Int) (n : Nat) (g : Nat → V) (j : Nat) (v : V) (hj : j < n) : putK (kv f n g) (Sum.inl (f + (j : Int)) : Key) v = kv f n (setf g j v) := by
  unfold putK
  rw [valV_any, kv_val f g j n hj, if_pos (by rfl)]
  unfold kv
  rw [List.map_map]
  refine List.map_congr_left fun i hi => ?_
  show (if (Sum.inl (f + (i : Int)) : Key) = Sum.inl (f + (j : Int)) then _ else _) = _
  by_cases e : i = j
  · subst e
    rw [if_pos rfl]
    unfold setf
    rw [if_pos rfl]
  · rw [if_neg (fun q => e (by have := Sum.inl.inj q; omega))]
    unfold setf
    rw [if_neg e]
theorem kv_at {f : Int} {n : Nat} {g : Nat → V} {i : Nat} {k : Key} {v : V} (h : (kv f n g)[i]? = some (k, v)) : i < n ∧ k = Sum.inl (f + (i : Int)) ∧ v = g i := by
  unfold kv at h
  rw [List.getElem?_map] at h
  cases e : (List.range n)[i]? with
  | none => rw [e] at h; cases h
  | some j =>
    rw [e] at h
    have hi : i < n := by
      have := (List.getElem?_eq_some_iff.mp e).1
      rwa [List.length_range] at this
    rw [List.getElem?_range hi] at e
    have ej : i = j := Option.some.inj e
    subst ej
    have := Option.some.inj h
    exact ⟨hi, (congrArg Prod.fst this).symm, (congrArg Prod.snd this).symm⟩
end Dk

set_option maxHeartbeats 4000000
/-! the trails and the notes of a new memory -/
namespace Dk
open PySem PySem.Spec PyProof.Rows L2
abbrev sTrails : Stmt := top 21
abbrev sNotes : Stmt := top 22
/-- the value of the j-th lasting cell, behind k words; the empty record is at E0 -/
def Init (E0 : Addr) (t w r : Nat) (k j : Nat) (v : V) : Prop :=
  if t ≤ j ∧ j < t + k then v = .int ((1 + t + j + w : Nat) : Int)
  else if t + w ≤ j ∧ j < t + w + k then v = .ref E0
  else v = .non
def seta (tl : Nat → Addr) (i : Nat) (p : Addr) : Nat → Addr := fun j => if j = i then p else tl j
theorem seta_same {tl : Nat → Addr} {i : Nat} {p : Addr} : seta tl i p i = p := if_pos rfl
theorem seta_ne {tl : Nat → Addr} {i j : Nat} {p : Addr} (h : j ≠ i) : seta tl i p j = tl j := if_neg h
theorem setf_same {g : Nat → V} {i : Nat} {v : V} : setf g i v i = v := if_pos rfl
theorem setf_ne {g : Nat → V} {i j : Nat} {v : V} (h : j ≠ i) : setf g i v j = g j := if_neg h
def sett (tr : Nat → List V) (i : Nat) (l : List V) : Nat → List V := fun j => if j = i then l else tr j
theorem sett_same {tr : Nat → List V} {i : Nat} {l : List V} : sett tr i l i = l := if_pos rfl
theorem sett_ne {tr : Nat → List V} {i j : Nat} {l : List V} (h : j ≠ i) : sett tr i l j = tr j := if_neg h
theorem setf_ref (tl : Nat → Addr) (i : Nat) (p : Addr) : setf (fun j => .ref (tl j)) i (.ref p) = fun j => .ref (seta tl i p j) := by
  funext j
  unfold setf seta
  by_cases c : j = i
  · rw [if_pos c, if_pos c]
  · rw [if_neg c, if_neg c]
/-- the dict of the trails at D: the key f + j has the list at tl j, which holds tr j -/
structure TrG (H : Hp) (D : Addr) (f : Int) (n : Nat) (tl : Nat → Addr) (tr : Nat → List V) : Prop where
  d : H D = some (.dK (kv f n fun j => .ref (tl j)))
  l : ∀ j, j < n → H (tl j) = some (.lst (tr j))
  inj : ∀ i j, i < n → j < n → tl i = tl j → i = j
theorem TrG.same {H H' : Hp} {D : Addr} {f : Int} {n : Nat} {tl : Nat → Addr} {tr : Nat → List V} (R : TrG H D f n tl tr) (s : Same H H') : TrG H' D f n tl tr := ⟨s _ _ R.d, fun j hj => s _ _ (R.l j hj), R.inj⟩
/-- a new list p is put in the place of the i-th -/
theorem TrG.put {H H1 : Hp} {D p : Addr} {f : Int} {n i : Nat} {tl : Nat → Addr} {tr : Nat → List V} {l : List V} (R : TrG H D f n tl tr) (s : Same H H1) (hp : H p = none) (h1 : H1 p = some (.lst l)) (hi : i < n) :
    TrG (upd H1 D (.dK (putK (kv f n fun j => .ref (tl j)) (Sum.inl (f + (i : Int)) : Key) (.ref p)))) D f n (seta tl i p) (sett tr i l) := by
  have nD : p ≠ D := (ne_of_none R.d hp).symm
  refine ⟨?_, fun j hj => ?_, fun j l hj hl e => ?_⟩
  · rw [upd_same, kv_put _ _ _ _ _ hi, setf_ref]
  · by_cases c : j = i
    · rw [c, seta_same, sett_same, upd_ne nD]
      exact h1
    · rw [seta_ne c, sett_ne c]
      have e1 := s _ _ (R.l j hj)
      rw [upd_ne (ne_of (s _ _ (R.l j hj)) (s _ _ R.d) (by intro z; cases z))]
      exact e1
  · have np : ∀ j, j < n → tl j ≠ p := fun j hj => ne_of_none (R.l j hj) hp
    by_cases c : j = i
    · by_cases c2 : l = i
      · omega
      · rw [c, seta_same, seta_ne c2] at e
        exact absurd e.symm (np l hl)
    · by_cases c2 : l = i
      · rw [seta_ne c, c2, seta_same] at e
        exact absurd e (np j hj)
      · rw [seta_ne c, seta_ne c2] at e
        exact R.inj j l hj hl e
/-- a new list p comes for the key behind the last -/
theorem TrG.snoc {H H1 : Hp} {D p : Addr} {f : Int} {n : Nat} {tl : Nat → Addr} {tr : Nat → List V} {l : List V} (R : TrG H D f n tl tr) (s : Same H H1) (hp : H p = none) (h1 : H1 p = some (.lst l)) :
    TrG (upd H1 D (.dK (putK (kv f n fun j => .ref (tl j)) (Sum.inl (f + (n : Int)) : Key) (.ref p)))) D f (n + 1) (seta tl n p) (sett tr n l) := by
  have nD : p ≠ D := (ne_of_none R.d hp).symm
  refine ⟨?_, fun j hj => ?_, fun j l hj hl e => ?_⟩
  · rw [upd_same, kv_new, setf_ref]
  · by_cases c : j = n
    · rw [c, seta_same, sett_same, upd_ne nD]
      exact h1
    · rw [seta_ne c, sett_ne c]
      have e1 := s _ _ (R.l j (by omega))
      rw [upd_ne (ne_of e1 (s _ _ R.d) (by intro z; cases z))]
      exact e1
  · have np : ∀ j, j < n → tl j ≠ p := fun j hj => ne_of_none (R.l j hj) hp
    by_cases c : j = n
    · by_cases c2 : l = n
      · omega
      · rw [c, seta_same, seta_ne c2] at e
        exact absurd e.symm (np l (by omega))
    · by_cases c2 : l = n
      · rw [seta_ne c, c2, seta_same] at e
        exact absurd e (np j (by omega))
      · rw [seta_ne c, seta_ne c2] at e
        exact R.inj j l (by omega) (by omega) e
/-- the trails of a new memory behind k words -/
structure TrAt (E0 : Addr) (H : Hp) (D : Addr) (t w r : Nat) (tl : Nat → Addr) (tr : Nat → List V) (k : Nat) (H0 : Hp) : Prop where
  g : TrG H D ((1 + t : Nat) : Int) (t + w + r) tl tr
  ini : ∀ j, j < t + w + r → ∃ v, tr j = [v] ∧ Init E0 t w r k j v
  new : ∀ j, j < t + w + r → H0 (tl j) = none
  nD : H0 D = none
structure NOk (t w r : Nat) : Prop where
  t1 : 1 ≤ t
  t3 : t ≤ 3
  w1 : 1 ≤ w
  w4 : w ≤ 4
  r4 : 4 ≤ r
  r200 : r ≤ 200
theorem NOk.lok {t w r : Nat} (h : NOk t w r) : LOk (t : Int) w r := ⟨by have := h.t1; omega, by have := h.t3; omega, by have := h.w1; omega, by have := h.w4; omega, by have := h.r4; omega, by have := h.r200; omega⟩
theorem first_n (t : Nat) : first (t : Int) + 0 = ((1 + t : Nat) : Int) := by unfold first; omega
theorem cells_n (t w r : Nat) : cells (t : Int) w r = ((1 + t + (t + w + r) : Nat) : Int) := by unfold cells; omega
def spTrails (C E0 : Addr) : Sp := fun vs H Q _ => ∃ (a : Addr) (t w r : Nat), vs = [.ref a] ∧ LayAt C H a t w r ∧ NOk t w r ∧
  ∀ (D : Addr) (tl : Nat → Addr) (tr : Nat → List V) (H' : Hp), TrAt E0 H' D t w r tl tr w H → Same H H' → Q (.ref D) H'
def spNotes (C : Addr) : Sp := fun vs H Q _ => ∃ (a : Addr) (t w r : Nat), vs = [.ref a] ∧ LayAt C H a t w r ∧ NOk t w r ∧
  ∀ (D : Addr) (na : List Addr) (H' : Hp), H' D = some (.lst (na.map V.ref)) → na.length = t → na.Nodup → (∀ a, a ∈ na → H' a = some (.dK []) ∧ H a = none) → H D = none → Same H H' → Q (.ref D) H'
section
variable {P : Program} {w : World} {K : PySem.W.Frag} {mg : Str → Option Value} {base : Heap} {C E0 : Addr}
theorem scTrails : FnScope ["layout", "trails", "index", "cell"] ["layout"] (defScope sTrails) := ⟨rfl, rfl, rfl, by decide +kernel, rfl, by decide +kernel, by decide +kernel⟩
theorem go_trails (F : GT K mg "first_trails" sTrails ["layout"]) (T : LTxt K mg C) (gEm : mg "EMPTY" = some (.ref E0)) (GS : MO P w K mg base CX0 C 2 "call_slot" ["self", "thread"] (spL1 C fun t _ _ i => .int (first t + i)))
    (GW : MO P w K mg base CX0 C 3 "word" ["self", "index"] (spL1 C fun t _ _ i => .int (first t + t + i))) (GR : MO P w K mg base CX0 C 4 "record" ["self", "index"] (spL1 C fun t w _ i => .int (rec0 t w + i)))
    (GC : MO P w K mg base CX0 C 5 "cells" ["self"] (spL0 C fun t w r => .int (cells t w r))) : GO P w K mg base CX0 6 "first_trails" ["layout"] (spTrails C E0) := by
  obtain ⟨f, fd, F, hm, hb⟩ := F
  refine ⟨f, fd, ?_, hm, F.kp, hb⟩
  refine F.ok scTrails (fun vs H Q E h => ?_) (fun cdv A outer s H vs Q E hr h => ?_)
  · obtain ⟨a, t, w, r, rfl, _⟩ := h
    rfl
  · obtain ⟨a, t, w, r, rfl, L, ok, k⟩ := h
    obtain ⟨dx, h1⟩ := id L
    have hu := hu_of hr
    have hr2 : Room 2 _ := hr.mono (by decide)
    have hr3 : Room 3 _ := hr.mono (by decide)
    have hr4 : Room 4 _ := hr.mono (by decide)
    refine ⟨_, pss_cons (ps_setDc (i := 1) (own := [("cell", 3)]) (g := gName 3) (tt := tYes) rfl scTrails.nd rfl rfl (sw_trueD rfl rfl rfl (by decide +kernel))
        (pi_range2 rfl T.bn.range (pa_cons (pm_ GS T.cl hr2 (pv 0) (pa_cons pe_int pa_nil)) (pa_cons (pm0_ GC T.cl hr (pv 0)) pa_nil)))
        (blkOk_by (N := ["layout", "trails", "index", "cell"]) (sc := defScope sTrails) (by decide +kernel)) (fun _ _ _ _ _ => pg_name (i := 3) scTrails.nd rfl (Or.inl rfl)) (fun _ _ _ _ _ => pts_nil) (fun _ _ _ _ _ => pv 3) (fun _ _ _ _ _ => pe_lst (pa_cons pe_non pa_nil)))
      (pss_cons (ps_for PassesOwn.never rfl (pi_range1 rfl T.bn.range (pa_cons (pe_fld (pv 0) rfl) pa_nil)) (pg_name (i := 2) scTrails.nd rfl (Or.inl rfl))
        (pss_cons (ps_dput hu (pv 1) (pm_ GW T.cl hr3 (pv 0) (pa_cons (pv 2) pa_nil)) (pe_lst (pa_cons (pm_ GR T.cl hr4 (pv 0) (pa_cons (pv 2) pa_nil)) pa_nil)) rfl)
        (pss_one (ps_dput hu (pv 1) (pm_ GR T.cl hr4 (pv 0) (pa_cons (pv 2) pa_nil)) (pe_lst (pa_cons (pe_glob (v := .ref E0) rfl gEm rfl) pa_nil)) rfl))))
      (pss_one (ps_ret (pv 1)))), ?_⟩
    have hsl : sizeLine = 16777216 := sizeLine_eq
    have q1 := ok.t1
    have q2 := ok.t3
    have q3 := ok.w1
    have q4 := ok.w4
    have q5 := ok.r4
    have q6 := ok.r200
    have hf := first_n t
    have hc := cells_n t w r
    refine ⟨_, rfl, a, dx, _, rfl, h1, rfl, a, t, w, r, 0, rfl, L, _, rfl, a, dx, _, rfl, h1, rfl, a, t, w, r, rfl, L, _, _, rfl, ⟨by omega, by omega, by omega, by omega⟩, fun D hD => ?_⟩
    rw [hf, hc]
    have en : (((1 + t + (t + w + r) : Nat) : Int) - ((1 + t : Nat) : Int)).toNat = t + w + r := by omega
    rw [en]
    refine dc_it walk_range (fun i H' => ∃ (tl : Nat → Addr) (tr : Nat → List V), TrG H' D ((1 + t : Nat) : Int) i tl tr ∧ (∀ j, j < i → tr j = [.non] ∧ H (tl j) = none) ∧ Same H H')
      ⟨fun _ => 0, fun _ => [], ⟨upd_same, fun j h => by omega, fun j l h => by omega⟩, fun j h => by omega, fun b o e => by rw [upd_ne (ne_of_none e hD)]; exact e⟩ (fun _ _ _ _ => trivial) ?_ ?_
    · rintro i x H9 H1 hi ⟨tl, tr, R, hl, sm⟩ ⟨rfl, rfl⟩
      refine ⟨rfl, _, rfl, (by show 1 ≤ sizeLine; decide), fun p hp => ?_⟩
      have pD : D ≠ p := ne_of_none R.d hp
      have s1 : Same H1 (upd H1 p (.lst [.non])) := fun b o e => by rw [upd_ne (ne_of_none e hp)]; exact e
      refine ⟨_, Sum.inl _, rfl, (by rw [upd_ne pD]; exact R.d), (by rw [kv_len]; omega), _, _, R.snoc s1 hp upd_same, fun j hj => ?_, fun b o e => ?_⟩
      · by_cases c : j = i
        · rw [c, seta_same, sett_same]
          exact ⟨rfl, sm.free hp⟩
        · rw [seta_ne c, sett_ne c]
          exact hl j (by omega)
      · rw [upd_ne (ne_of_none e hD)]
        exact s1 _ _ (sm b o e)
    · rintro H1 ⟨tl, tr, R, hl, sm⟩
      have R0 : TrAt E0 H1 D t w r tl tr 0 H := by
        refine ⟨R, fun j hj => ⟨.non, (hl j hj).1, ?_⟩, fun j hj => (hl j hj).2, hD⟩
        unfold Init
        rw [if_neg (by omega), if_neg (by omega)]
      have h1' := sm _ _ h1
      refine ⟨_, rfl, a, C, dx, _, _, rfl, h1', T.cl, T.nW, rfl, _, rfl, by omega, by omega, for_range (lo := 0) (n := (w : Int).toNat)
        (fun i σ H2 => ∃ (v c : Option V) (tl : Nat → Addr) (tr : Nat → List V), σ = [some (.ref a), some (.ref D), v, c] ∧ TrAt E0 H2 D t w r tl tr i H ∧ Same H H2) ⟨_, _, tl, tr, rfl, R0, sm⟩ ?_ ?_⟩
      · rintro i σ H2 hi ⟨v, c, tl2, tr2, rfl, R, sm2⟩
        have g1 := sm2 _ _ h1
        have L2 : LayAt C H2 a t w r := ⟨dx, g1⟩
        have hw : i < w := by omega
        -- trails[layout.word(index)] = [layout.record(index)]
        refine ⟨_, rfl, a, dx, _, rfl, g1, rfl, _, rfl, a, t, w, r, _, rfl, L2, (by show 1 ≤ sizeLine; decide), fun p hp => ?_⟩
        have sp1 : Same H2 (upd H2 p (HO.lst [V.int (rec0 (t : Int) w + (0 + (i : Int)))])) := fun b o e => by rw [upd_ne (ne_of_none e hp)]; exact e
        have k1 : (first (t : Int) + t + (0 + (i : Int))) = ((1 + t : Nat) : Int) + ((t + i : Nat) : Int) := by unfold first; omega
        refine ⟨_, rfl, _, rfl, a, dx, _, rfl, sp1 _ _ g1, rfl, _, rfl, a, t, w, r, _, rfl, ⟨dx, sp1 _ _ g1⟩, D, _, rfl, DPut.k (k := Sum.inl _) (sp1 _ _ R.g.d) (by rw [kv_len]; omega), ?_⟩
        rw [k1]
        have R1 := R.g.put sp1 hp upd_same (i := t + i) (by omega)
        have s3 : Same H _ := fun b o e => (show upd (upd H2 p (HO.lst [V.int (rec0 (t : Int) w + (0 + (i : Int)))])) D (.dK (putK (kv ((1 + t : Nat) : Int) (t + w + r) fun j => .ref (tl2 j)) (Sum.inl (((1 + t : Nat) : Int) + ((t + i : Nat) : Int)) : Key) (.ref p))) b = some o from by
          rw [upd_ne (ne_of_none e hD)]
          exact sp1 _ _ (sm2 b o e))
        have it3 : ∀ j, j < t + w + r → ∃ v, sett tr2 (t + i) [V.int (rec0 (t : Int) w + (0 + (i : Int)))] j = [v] ∧ (j = t + i → v = .int (rec0 (t : Int) w + (0 + (i : Int)))) ∧ (j ≠ t + i → Init E0 t w r i j v) := fun j hj => by
          by_cases c : j = t + i
          · exact ⟨_, (by rw [c, sett_same]), fun _ => rfl, fun h => absurd c h⟩
          · obtain ⟨v, e1, e2⟩ := R.ini j hj
            exact ⟨v, (by rw [sett_ne c]; exact e1), fun h => absurd h c, fun _ => e2⟩
        generalize hH3 : upd (upd H2 p (HO.lst [V.int (rec0 (t : Int) w + (0 + (i : Int)))])) D (.dK (putK (kv ((1 + t : Nat) : Int) (t + w + r) fun j => .ref (tl2 j)) (Sum.inl (((1 + t : Nat) : Int) + ((t + i : Nat) : Int)) : Key) (.ref p))) = H3 at R1 s3 ⊢
        have n3 : ∀ j, j < t + w + r → H (seta tl2 (t + i) p j) = none := fun j hj => by
          by_cases c : j = t + i
          · rw [c, seta_same]
            exact sm2.free hp
          · rw [seta_ne c]
            exact R.new j hj
        generalize htr3 : sett tr2 (t + i) [V.int (rec0 (t : Int) w + (0 + (i : Int)))] = tr3 at R1 it3
        generalize htl3 : seta tl2 (t + i) p = tl3 at R1 n3
        -- trails[layout.record(index)] = [("items", ())]
        refine ⟨(by show 1 ≤ sizeLine; decide), fun p2 hp2 => ?_⟩
        have s36 : Same H3 (upd H3 p2 (.lst [.ref E0])) := fun b o e => by rw [upd_ne (ne_of_none e hp2)]; exact e
        have g3 := s36 _ _ (s3 _ _ h1)
        have hp23 : H3 p2 = none := hp2
        have k2 : (rec0 (t : Int) w + (0 + (i : Int))) = ((1 + t : Nat) : Int) + ((t + w + i : Nat) : Int) := by unfold rec0; omega
        refine ⟨_, rfl, _, rfl, a, dx, _, rfl, g3, rfl, _, rfl, a, t, w, r, _, rfl, ⟨dx, g3⟩, D, _, rfl, DPut.k (k := Sum.inl _) (s36 _ _ R1.d) (by rw [kv_len]; omega), ?_⟩
        rw [k2]
        have R2 := R1.put s36 hp23 upd_same (i := t + w + i) (by omega)
        refine ⟨_, _, _, _, rfl, ⟨R2, fun j hj => ?_, fun j hj => ?_, hD⟩, fun b o e => ?_⟩
        · by_cases c : j = t + w + i
          · refine ⟨.ref E0, (by rw [c, sett_same]), ?_⟩
            unfold Init
            rw [if_neg (by omega), if_pos (by omega)]
          · obtain ⟨v, e1, e2, e3⟩ := it3 j hj
            refine ⟨v, (by rw [sett_ne c]; exact e1), ?_⟩
            unfold Init
            by_cases c1 : j = t + i
            · rw [if_pos (by omega), e2 c1]
              exact congrArg V.int (by rw [c1]; unfold rec0; omega)
            · have e3 := e3 c1
              unfold Init at e3
              by_cases c2 : t ≤ j ∧ j < t + i
              · rw [if_pos c2] at e3
                rw [if_pos (by omega)]
                exact e3
              · rw [if_neg c2] at e3
                rw [if_neg (by omega)]
                by_cases c3 : t + w ≤ j ∧ j < t + w + i
                · rw [if_pos c3] at e3
                  rw [if_pos (by omega)]
                  exact e3
                · rw [if_neg c3] at e3
                  rw [if_neg (by omega)]
                  exact e3
        · by_cases c : j = t + w + i
          · rw [c, seta_same]
            exact s3.free hp23
          · rw [seta_ne c]
            exact n3 j hj
        · rw [upd_ne (ne_of_none e hD)]
          exact s36 _ _ (s3 b o e)
      · rintro σ H2 ⟨v, c, tl2, tr2, rfl, R, sm2⟩
        have ew : (w : Int).toNat = w := by omega
        rw [ew] at R
        exact ⟨_, rfl, k D tl2 tr2 H2 R sm2⟩
theorem scNotes : FnScope ["layout", "thread"] ["layout"] (defScope sNotes) := ⟨rfl, rfl, rfl, by decide +kernel, rfl, by decide +kernel, by decide +kernel⟩
theorem go_notes (F : GT K mg "no_notes" sNotes ["layout"]) (T : LTxt K mg C) : GO P w K mg base CX0 1 "no_notes" ["layout"] (spNotes C) := by
  obtain ⟨f, fd, F, hm, hb⟩ := F
  refine ⟨f, fd, ?_, hm, F.kp, hb⟩
  refine F.ok scNotes (fun vs H Q E h => ?_) (fun cdv A outer s H vs Q E hr h => ?_)
  · obtain ⟨a, t, w, r, rfl, _⟩ := h
    rfl
  · obtain ⟨a, t, w, r, rfl, L, ok, k⟩ := h
    obtain ⟨dx, h1⟩ := id L
    refine ⟨_, pss_one (ps_ret (pe_lc (own := [("thread", 1)]) (g := gName 1) (tt := tYes) rfl scNotes.nd (pi_range1 rfl T.bn.range (pa_cons (pe_fld (pv 0) rfl) pa_nil))
      (blkOk_by (N := ["layout", "thread"]) (sc := defScope sNotes) (by decide +kernel)) (fun _ _ _ _ _ => pg_name (i := 1) scNotes.nd rfl (Or.inl rfl)) (fun _ _ _ _ _ => pts_nil) (fun _ _ _ _ _ => pe_dnewK))), ?_⟩
    have q1 := ok.t1
    have q3 := ok.t3
    refine ⟨_, rfl, a, C, dx, _, _, rfl, h1, T.cl, T.nT, rfl, _, rfl, by omega, by omega, fun D hD => lc_range (lo := 0) (n := (t : Int).toNat)
      (fun i H' => ∃ na : List Addr, H' D = some (.lst (na.map V.ref)) ∧ na.length = i ∧ na.Nodup ∧ (∀ a, a ∈ na → H' a = some (.dK []) ∧ H a = none) ∧ Same H H') ⟨[], upd_same, rfl, List.nodup_nil, fun a h => by simp at h, fun b o e => by rw [upd_ne (ne_of_none e hD)]; exact e⟩ ?_ ?_⟩
    · rintro i H' hi ⟨na, hl, len, nd, all, sm⟩
      refine ⟨rfl, fun p hp => ?_⟩
      have pD : D ≠ p := ne_of_none hl hp
      have hsz : na.length < sizeLine := by
        have : sizeLine = 16777216 := sizeLine_eq
        omega
      refine ⟨na.map V.ref, (by rw [upd_ne pD]; exact hl), (by rw [List.length_map]; exact hsz), na ++ [p], ?_, by simp [len], ?_, ?_, ?_⟩
      · rw [upd_same, List.map_append]
        rfl
      · refine nd_snoc nd fun m => ?_
        have := (all p m).1
        rw [hp] at this
        cases this
      · intro b hb
        rcases List.mem_append.mp hb with m | m
        · obtain ⟨e1, e2⟩ := all b m
          have bD : b ≠ D := ne_of e1 hl (by intro z; cases z)
          rw [upd_ne bD, upd_ne (ne_of_none e1 hp)]
          exact ⟨e1, e2⟩
        · have e := List.mem_singleton.mp m
          subst e
          rw [upd_ne pD.symm, upd_same]
          exact ⟨rfl, sm.free hp⟩
      · intro b o e
        have e1 := sm b o e
        rw [upd_ne (ne_of_none e hD), upd_ne (ne_of_none e1 hp)]
        exact e1
    · rintro H' ⟨na, hl, len, nd, all, sm⟩
      exact k D na H' hl (by omega) nd all hD sm
end
end Dk

set_option maxHeartbeats 4000000
/-! a memory is made -/
namespace Dk
open PySem PySem.Spec PyProof.Rows L2
abbrev sMInit : Stmt := inClass (top 23) 0
/-- what a memory holds -/
structure MS where
  count : Int
  ps : List V
  tr : Nat → List V
  lost : Nat → Int
  notes : List (List (Key × V))
  log : List V
/-- where its parts stand -/
structure Adr where
  a : Addr
  pl : Addr
  td : Addr
  ld : Addr
  nl : Addr
  gl : Addr
  tl : Nat → Addr
  na : List Addr
def mf (A : Adr) (c : Int) : List (Str × V) := [("layout", .ref A.a), ("count", .int c), ("_passing", .ref A.pl), ("_trails", .ref A.td), ("_lost", .ref A.ld), ("_notes", .ref A.nl), ("_log", .ref A.gl)]
structure MemAt (C M : Addr) (H : Hp) (m : Addr) (t w r : Nat) (A : Adr) (S : MS) : Prop where
  ob : ∃ dx, H m = some (.ins M dx (mf A S.count))
  lay : LayAt C H A.a t w r
  ps : H A.pl = some (.lst S.ps)
  tr : TrG H A.td ((1 + t : Nat) : Int) (t + w + r) A.tl S.tr
  ld : H A.ld = some (.dK (kv ((1 + t : Nat) : Int) (t + w + r) fun j => .int (S.lost j)))
  nl : H A.nl = some (.lst (A.na.map V.ref))
  nn : A.na.length = t
  nd : A.na.Nodup
  no : ∀ (i : Nat) (b : Addr), A.na[i]? = some b → ∃ ns, S.notes[i]? = some ns ∧ H b = some (.dK ns)
  gl : H A.gl = some (.lst S.log)
  d1 : ∀ j, j < t + w + r → A.tl j ≠ A.pl ∧ A.tl j ≠ A.gl ∧ A.tl j ≠ A.nl
  d2 : A.pl ≠ A.gl ∧ A.pl ≠ A.nl ∧ A.gl ≠ A.nl
  d3 : A.td ≠ A.ld
  d4 : ∀ b, b ∈ A.na → b ≠ A.td ∧ b ≠ A.ld
  d5 : m ≠ A.a
/-- the addresses that are the memory's own -/
def Foot (m : Addr) (A : Adr) (n : Nat) (b : Addr) : Prop := b = m ∨ b = A.pl ∨ b = A.td ∨ b = A.ld ∨ b = A.nl ∨ b = A.gl ∨ (∃ j, j < n ∧ b = A.tl j) ∨ b ∈ A.na
def S0 (t : Nat) (tr : Nat → List V) : MS := ⟨0, .int 0 :: List.replicate t .non, tr, fun _ => 0, List.replicate t [], []⟩
structure MTxt (K : PySem.W.Frag) (M : Addr) : Prop where
  cl : Cls K M
  nL : NoAttr K M "layout"
  nC : NoAttr K M "count"
  nP : NoAttr K M "_passing"
  nT : NoAttr K M "_trails"
  nO : NoAttr K M "_lost"
  nN : NoAttr K M "_notes"
  nG : NoAttr K M "_log"
/-- all but what stands at p is as it was -/
def Keep (p : Addr) (H H' : Hp) : Prop := ∀ b o, H b = some o → b ≠ p → H' b = some o
theorem Keep.of {p : Addr} {H H' : Hp} (s : Same H H') : Keep p H H' := fun b o e _ => s b o e
theorem Keep.trans {p : Addr} {H H1 H2 : Hp} (a : Keep p H H1) (b : Keep p H1 H2) : Keep p H H2 := fun c o e h => b c o (a c o e h) h
theorem Keep.up {p : Addr} {H : Hp} {o : HO} : Keep p H (upd H p o) := fun b u e h => by rw [upd_ne h]; exact e
def spMInit (C M E0 : Addr) : Sp := fun vs H Q _ => ∃ (p dx a : Addr) (t w r : Nat), vs = [.ref p, .ref a] ∧ H p = some (.ins M dx []) ∧ LayAt C H a t w r ∧ NOk t w r ∧
  ∀ (A : Adr) (tr : Nat → List V) (H' : Hp), A.a = a → MemAt C M H' p t w r A (S0 t tr) → (∀ j, j < t + w + r → ∃ v, tr j = [v] ∧ Init E0 t w r w j v) → Keep p H H' → (∀ b, Foot p A (t + w + r) b → b = p ∨ H b = none) → Q .non H'
section
variable {P : Program} {w : World} {K : PySem.W.Frag} {mg : Str → Option Value} {base : Heap} {C M E0 : Addr}
theorem scMInit : FnScope ["self", "layout", "cell"] ["self", "layout"] (defScope sMInit) := ⟨rfl, rfl, rfl, by decide +kernel, rfl, by decide +kernel, by decide +kernel⟩
theorem ok_minit {f : Addr} {fd : FuncData} (F : Fun K "__init__" "Memory.__init__" sMInit f fd) (T : LTxt K mg C) (TM : MTxt K M) (GP : GO P w K mg base CX0 1 "passing_values" ["layout"] (spPass C))
    (GT : GO P w K mg base CX0 6 "first_trails" ["layout"] (spTrails C E0)) (GN : GO P w K mg base CX0 1 "no_notes" ["layout"] (spNotes C)) : FnOk P w K mg base CX0 7 f fd ["self", "layout"] (spMInit C M E0) := by
  refine F.ok scMInit (fun vs H Q E h => ?_) (fun cdv A outer s H vs Q E hr h => ?_)
  · obtain ⟨p, dx, a, t, w, r, rfl, _⟩ := h
    rfl
  · obtain ⟨p, dx, a, t, w, r, rfl, hp, L, ok, k⟩ := h
    obtain ⟨da, ha⟩ := id L
    have hr1 : Room 1 _ := hr.mono (by decide)
    have pa : p ≠ a := ne_of hp ha (by intro z; cases z)
    refine ⟨_, pss_cons (ps_fld (pv 0) (pv 1) rfl) (pss_cons (ps_fld (pv 0) pe_int rfl) (pss_cons (ps_fld (pv 0) (pc_ GP hr1 (pa_cons (pv 1) pa_nil)) rfl)
      (pss_cons (ps_fld (pv 0) (pc_ GT hr (pa_cons (pv 1) pa_nil)) rfl)
      (pss_cons (ps_fld (pv 0) (pe_lock (pe_dc (own := [("cell", 2)]) (g := gName 2) (tt := tYes) rfl scMInit.nd (pi_keys (pe_fld (pv 0) rfl)) (blkOk_by (N := ["self", "layout", "cell"]) (sc := defScope sMInit) (by decide +kernel))
        (fun _ _ _ _ _ => pg_name (i := 2) scMInit.nd rfl (Or.inl rfl)) (fun _ _ _ _ _ => pts_nil) (fun _ _ _ _ _ => pv 2) (fun _ _ _ _ _ => pe_int))) rfl)
      (pss_cons (ps_fld (pv 0) (pc_ GN hr1 (pa_cons (pv 1) pa_nil)) rfl) (pss_one (ps_fld (pv 0) (pe_lst pa_nil) rfl))))))), ?_⟩
    -- self.layout = layout; self.count = 0
    refine ⟨_, rfl, _, rfl, p, M, dx, [], rfl, hp, TM.cl, TM.nL, (by show 0 < 1000; decide), ?_⟩
    refine ⟨_, rfl, p, M, dx, _, rfl, upd_same, TM.cl, TM.nC, (by show 1 < 1000; decide), ?_⟩
    generalize hH2 : upd (upd H p _) p _ = H2
    have k2 : Keep p H H2 := by rw [← hH2]; exact Keep.up.trans Keep.up
    have p2 : H2 p = some (.ins M dx [("layout", .ref a), ("count", .int 0)]) := by rw [← hH2]; exact upd_same
    -- self._passing = passing_values(layout)
    refine ⟨_, rfl, a, t, w, r, rfl, ⟨da, k2 _ _ ha pa.symm⟩, ok.lok, fun pl H3 npl hpl s3 => ?_⟩
    refine ⟨_, rfl, p, M, dx, _, rfl, s3 _ _ p2, TM.cl, TM.nP, (by show 2 < 1000; decide), ?_⟩
    generalize hH4 : upd H3 p _ = H4
    have k4 : Keep p H2 H4 := by rw [← hH4]; exact (Keep.of s3).trans Keep.up
    have p4 : H4 p = some (.ins M dx [("layout", .ref a), ("count", .int 0), ("_passing", .ref pl)]) := by rw [← hH4]; exact upd_same
    have plp : pl ≠ p := (ne_of_none p2 npl).symm
    have e4 : H4 pl = some (.lst (.int 0 :: List.replicate (t : Int).toNat .non)) := by rw [← hH4, upd_ne plp]; exact hpl
    -- self._trails = first_trails(layout)
    refine ⟨_, rfl, a, t, w, r, rfl, ⟨da, k4 _ _ (k2 _ _ ha pa.symm) pa.symm⟩, ok, fun td tl tr H5 R s5 => ?_⟩
    refine ⟨_, rfl, p, M, dx, _, rfl, s5 _ _ p4, TM.cl, TM.nT, (by show 3 < 1000; decide), ?_⟩
    generalize hH6 : upd H5 p _ = H6
    have k56 : Keep p H5 H6 := by rw [← hH6]; exact Keep.up
    have k6 : Keep p H4 H6 := (Keep.of s5).trans k56
    have p6 : H6 p = some (.ins M dx [("layout", .ref a), ("count", .int 0), ("_passing", .ref pl), ("_trails", .ref td)]) := by rw [← hH6]; exact upd_same
    have tdp : td ≠ p := (ne_of_none p4 R.nD).symm
    have tlp : ∀ j, j < t + w + r → tl j ≠ p := fun j hj => (ne_of_none p4 (R.new j hj)).symm
    have G6 : TrG H6 td ((1 + t : Nat) : Int) (t + w + r) tl tr := ⟨k56 _ _ R.g.d tdp, fun j hj => k56 _ _ (R.g.l j hj) (tlp j hj), R.g.inj⟩
    -- self._lost = {cell: 0 for cell in self._trails}
    refine ⟨td, _, G6.d, trivial, fun od => ?_⟩
    have tdp' : p ≠ td := tdp.symm
    have f6 : upd H6 td (.frz od (.dK (kv ((1 + t : Nat) : Int) (t + w + r) fun j => .ref (tl j)))) p = some (.ins M dx [("layout", .ref a), ("count", .int 0), ("_passing", .ref pl), ("_trails", .ref td)]) := by rw [upd_ne tdp']; exact p6
    refine ⟨_, rfl, p, M, dx, _, _, rfl, f6, TM.cl, TM.nT, rfl, td, od, rfl, .inl ⟨_, upd_same, fun D hD => ?_⟩⟩
    have tdD : td ≠ D := ne_of_none upd_same hD
    refine dc_it walk_keys (fun i H' => H' D = some (.dK (kv ((1 + t : Nat) : Int) i fun _ => .int 0)) ∧ Same (upd H6 td (.frz od (.dK (kv ((1 + t : Nat) : Int) (t + w + r) fun j => .ref (tl j))))) H')
      ⟨upd_same, fun b o e => by rw [upd_ne (ne_of_none e hD)]; exact e⟩ (fun i H' _ q => q.2 _ _ upd_same) ?_ ?_
    · rintro i x H9 H1 hi ⟨hd, sm⟩ ⟨rfl, kk, v, e, rfl⟩
      obtain ⟨hi', rfl, rfl⟩ := kv_at e
      refine ⟨rfl, _, rfl, _, Sum.inl _, rfl, hd, (by rw [kv_len]; have : sizeLine = 16777216 := sizeLine_eq; have := ok.t3; have := ok.w4; have := ok.r200; omega), ?_, fun b o e => ?_⟩
      · rw [upd_same, kv_new]
        refine congrArg (fun q => some (HO.dK q)) (kv_congr fun j hj => ?_)
        unfold setf
        split <;> rfl
      · rw [upd_ne (ne_of_none e hD)]
        exact sm b o e
    · rintro H7 ⟨hd, sm⟩
      rw [kv_len] at hd
      refine ⟨sm _ _ upd_same, ?_⟩
      have e8 : Same H6 (upd H7 td (.dK (kv ((1 + t : Nat) : Int) (t + w + r) fun j => .ref (tl j)))) := fun b o e => by
        by_cases c : b = td
        · subst c
          rw [upd_same]
          exact G6.d.symm.trans e
        · rw [upd_ne c]
          refine sm b o ?_
          rw [upd_ne c]
          exact e
      have hd8 : upd H7 td (.dK (kv ((1 + t : Nat) : Int) (t + w + r) fun j => .ref (tl j))) D = some (.dK (kv ((1 + t : Nat) : Int) (t + w + r) fun _ => .int 0)) := by rw [upd_ne tdD.symm]; exact hd
      have nD6 : H6 D = none := by
        rw [upd_ne tdD.symm] at hD
        exact hD
      generalize hH8 : upd H7 td _ = H8 at e8 hd8 ⊢
      have pD : D ≠ p := (ne_of_none p6 nD6).symm
      refine ⟨_, rfl, p, M, dx, _, rfl, e8 _ _ p6, TM.cl, TM.nO, (by show 4 < 1000; decide), ?_⟩
      generalize hH9 : upd H8 p _ = H9
      have k9 : Keep p H6 H9 := by rw [← hH9]; exact (Keep.of e8).trans Keep.up
      have p9 : H9 p = some (.ins M dx [("layout", .ref a), ("count", .int 0), ("_passing", .ref pl), ("_trails", .ref td), ("_lost", .ref D)]) := by rw [← hH9]; exact upd_same
      have d9 : H9 D = some (.dK (kv ((1 + t : Nat) : Int) (t + w + r) fun _ => .int 0)) := by rw [← hH9, upd_ne pD]; exact hd8
      -- self._notes = no_notes(layout)
      have a9 := k9 _ _ (k6 _ _ (k4 _ _ (k2 _ _ ha pa.symm) pa.symm) pa.symm) pa.symm
      refine ⟨_, rfl, a, t, w, r, rfl, ⟨da, a9⟩, ok, fun nl na H10 hnl hlen hnd hall nnl s10 => ?_⟩
      refine ⟨_, rfl, p, M, dx, _, rfl, s10 _ _ p9, TM.cl, TM.nN, (by show 5 < 1000; decide), ?_⟩
      generalize hH11 : upd H10 p _ = H11
      have k10 : Keep p H10 H11 := by rw [← hH11]; exact Keep.up
      have k11 : Keep p H9 H11 := (Keep.of s10).trans k10
      have p11 : H11 p = some (.ins M dx [("layout", .ref a), ("count", .int 0), ("_passing", .ref pl), ("_trails", .ref td), ("_lost", .ref D), ("_notes", .ref nl)]) := by rw [← hH11]; exact upd_same
      have nlp : nl ≠ p := (ne_of_none p9 nnl).symm
      have nap : ∀ b, b ∈ na → b ≠ p := fun b hb => (ne_of_none p9 (hall b hb).2).symm
      -- self._log = []
      refine ⟨(by show 0 ≤ sizeLine; exact Nat.zero_le _), fun gl ngl => ?_⟩
      have glp : gl ≠ p := (ne_of_none p11 ngl).symm
      refine ⟨_, rfl, p, M, dx, _, rfl, (by rw [upd_ne glp.symm]; exact p11), TM.cl, TM.nG, (by show 6 < 1000; decide), ?_⟩
      generalize hH12 : upd (upd H11 gl _) p _ = H12
      have k12 : Keep p H11 H12 := by
        rw [← hH12]
        intro b o e h
        rw [upd_ne h, upd_ne (ne_of_none e ngl)]
        exact e
      have p12 : H12 p = some (.ins M dx [("layout", .ref a), ("count", .int 0), ("_passing", .ref pl), ("_trails", .ref td), ("_lost", .ref D), ("_notes", .ref nl), ("_log", .ref gl)]) := by rw [← hH12]; exact upd_same
      have g12 : H12 gl = some (.lst []) := by rw [← hH12, upd_ne glp, upd_same]
      have k6z : Keep p H6 H12 := (k9.trans k11).trans k12
      have k4z : Keep p H4 H12 := k6.trans k6z
      have pl12 := k4z _ _ e4 plp
      have et : (t : Int).toNat = t := by omega
      rw [et] at pl12
      have kz : Keep p H H12 := (k2.trans k4).trans k4z
      have nl11 : H11 nl = some (.lst (na.map V.ref)) := k10 _ _ hnl nlp
      have pl4 : H4 pl ≠ none := by rw [e4]; intro z; cases z
      have frN : ∀ {b : Addr}, b ≠ p → H4 b = none → H b = none := fun {b} hb e => by
        cases q : H b with
        | none => rfl
        | some o =>
          have := k4 _ _ (k2 _ _ q hb) hb
          rw [e] at this
          cases this
      have frN2 : ∀ {b : Addr}, b ≠ p → H6 b = none → H4 b = none := fun {b} hb e => by
        cases q : H4 b with
        | none => rfl
        | some o =>
          have := k6 _ _ q hb
          rw [e] at this
          cases this
      have frN3 : ∀ {b : Addr}, b ≠ p → H9 b = none → H6 b = none := fun {b} hb e => by
        cases q : H6 b with
        | none => rfl
        | some o =>
          have := k9 _ _ q hb
          rw [e] at this
          cases this
      have frN4 : ∀ {b : Addr}, b ≠ p → H11 b = none → H9 b = none := fun {b} hb e => by
        cases q : H9 b with
        | none => rfl
        | some o =>
          have := k11 _ _ q hb
          rw [e] at this
          cases this
      refine k ⟨a, pl, td, D, nl, gl, tl, na⟩ tr H12 rfl ⟨⟨dx, p12⟩, ⟨da, k12 _ _ (k11 _ _ a9 pa.symm) pa.symm⟩, pl12, ⟨k6z _ _ G6.d tdp, fun j hj => k6z _ _ (G6.l j hj) (tlp j hj), G6.inj⟩, k12 _ _ (k11 _ _ d9 pD) pD, k12 _ _ nl11 nlp, hlen, hnd, ?_, g12, ?_, ?_, ?_, ?_, pa⟩ ?_ kz ?_
      · intro i b hb
        have hm := List.mem_of_getElem? hb
        refine ⟨[], ?_, k12 _ _ (k10 _ _ (hall b hm).1 (nap b hm)) (nap b hm)⟩
        have hi : i < t := by
          have q : i < na.length := (List.getElem?_eq_some_iff.mp hb).1
          omega
        show (List.replicate t ([] : List (Key × V)))[i]? = some []
        rw [List.getElem?_replicate, if_pos hi]
      · intro j hj
        have e6 := k6z
        refine ⟨fun e => ?_, fun e => ?_, fun e => ?_⟩
        · have := R.new j hj
          have e : tl j = pl := e
          rw [e] at this
          exact pl4 this
        · have e : tl j = gl := e
          have := k11 _ _ (k9 _ _ (G6.l j hj) (tlp j hj)) (tlp j hj)
          rw [e, ngl] at this
          cases this
        · have e : tl j = nl := e
          have := k9 _ _ (G6.l j hj) (tlp j hj)
          rw [e, nnl] at this
          cases this
      · have q9 := k9 _ _ (k6 _ _ e4 plp) plp
        have q11 := k11 _ _ q9 plp
        refine ⟨fun e => ?_, fun e => ?_, fun e => ?_⟩
        · have e : pl = gl := e
          rw [e, ngl] at q11
          cases q11
        · have e : pl = nl := e
          rw [e, nnl] at q9
          cases q9
        · have e : gl = nl := e
          rw [← e, ngl] at nl11
          cases nl11
      · exact tdD
      · intro b hb
        have e9 := (hall b hb).2
        refine ⟨fun e => ?_, fun e => ?_⟩
        · have e : b = td := e
          have := k9 _ _ G6.d tdp
          rw [← e, e9] at this
          cases this
        · have e : b = D := e
          rw [← e, e9] at d9
          cases d9
      · intro j hj
        obtain ⟨v, e1, e2⟩ := R.ini j hj
        exact ⟨v, e1, e2⟩
      · intro b hb
        by_cases hbp : b = p
        · exact .inl hbp
        · refine .inr ?_
          rcases hb with e | e | e | e | e | e | ⟨j, hj, e⟩ | e
          · exact absurd e hbp
          · have e : b = pl := e
            rw [e]
            cases q : H pl with
            | none => rfl
            | some o =>
              have := k2 _ _ q plp
              rw [npl] at this
              cases this
          · have e : b = td := e
            rw [e]
            exact frN tdp R.nD
          · have e : b = D := e
            rw [e]
            exact frN pD (frN2 pD nD6)
          · have e : b = nl := e
            rw [e]
            exact frN nlp (frN2 nlp (frN3 nlp nnl))
          · have e : b = gl := e
            rw [e]
            exact frN glp (frN2 glp (frN3 glp (frN4 glp ngl)))
          · have e : b = tl j := e
            rw [e]
            exact frN (tlp j hj) (R.new j hj)
          · exact frN hbp (frN2 hbp (frN3 hbp (hall b e).2))
end
end Dk

set_option maxHeartbeats 4000000
/-! a memory is looked at -/
namespace Dk
open PySem PySem.Spec PyProof.Rows L2
abbrev sPeek : Stmt := inClass (top 23) 2
abbrev sLasting : Stmt := inClass (top 23) 3
abbrev sTrail : Stmt := inClass (top 23) 4
abbrev sAsk : Stmt := inClass (top 23) 8
/-- the present value of the cell i -/
def cellV (S : MS) (t i : Nat) : Option V := if i < 1 + t then S.ps[i]? else (S.tr (i - (1 + t))).getLast?
theorem inW_nat {n i : Nat} : inW 0 (((n : Nat) : Int) - 1) (.int (i : Int)) = decide (i < n) := by
  show (decide ((0 : Int) ≤ (i : Int)) && decide ((i : Int) ≤ (n : Int) - 1)) = _
  by_cases c : i < n
  · rw [decide_eq_true c, decide_eq_true (by omega), decide_eq_true (by omega)]
    rfl
  · rw [decide_eq_false c, decide_eq_false (p := (i : Int) ≤ (n : Int) - 1) (by omega)]
    exact Bool.and_false _
theorem lastB_nat {t w r i : Nat} : lastB (t : Int) w r (.int (i : Int)) = decide (1 + t ≤ i ∧ i < 1 + t + (t + w + r)) := by
  unfold lastB
  rw [cells_n, inW_nat, first_n]
  show (decide (i < 1 + t + (t + w + r)) && decide (((1 + t : Nat) : Int) ≤ (i : Int))) = _
  by_cases c : i < 1 + t + (t + w + r)
  · by_cases d : 1 + t ≤ i
    · rw [decide_eq_true c, decide_eq_true (by omega), decide_eq_true ⟨d, c⟩]
      rfl
    · rw [decide_eq_true c, decide_eq_false (p := ((1 + t : Nat) : Int) ≤ (i : Int)) (by omega), decide_eq_false (p := 1 + t ≤ i ∧ i < 1 + t + (t + w + r)) (fun z => d z.1)]
      rfl
  · rw [decide_eq_false c, decide_eq_false (p := 1 + t ≤ i ∧ i < 1 + t + (t + w + r)) (fun z => c z.2)]
    rfl
theorem recB_nat {t w r i : Nat} : recB (t : Int) w r (.int (i : Int)) = decide (1 + t + t + w ≤ i ∧ i < 1 + t + (t + w + r)) := by
  unfold recB
  rw [cells_n, inW_nat]
  show (decide (i < 1 + t + (t + w + r)) && decide (rec0 (t : Int) w + 0 ≤ (i : Int))) = _
  unfold rec0
  by_cases c : i < 1 + t + (t + w + r)
  · by_cases d : 1 + t + t + w ≤ i
    · rw [decide_eq_true c, decide_eq_true (by omega), decide_eq_true ⟨d, c⟩]
      rfl
    · rw [decide_eq_true c, decide_eq_false (p := (1 + (t : Int) + t + w + 0 ≤ (i : Int))) (by omega), decide_eq_false (p := 1 + t + t + w ≤ i ∧ i < 1 + t + (t + w + r)) (fun z => d z.1)]
      rfl
  · rw [decide_eq_false c, decide_eq_false (p := 1 + t + t + w ≤ i ∧ i < 1 + t + (t + w + r)) (fun z => c z.2)]
    rfl
theorem atI_getLast {xs : List V} {v : V} (h : xs.getLast? = some v) : atI xs (-1) = some v := by
  have : xs ≠ [] := by
    intro e
    rw [e] at h
    cases h
  have e := List.dropLast_concat_getLast this
  have h : xs.getLast this = v := by
    have e2 := List.getLast?_eq_some_getLast this
    rw [h] at e2
    exact (Option.some.inj e2).symm
  rw [h] at e
  rw [← e]
  exact atI_last _ _
def spPeek (C M : Addr) : Sp := fun vs H Q _ => ∃ (m : Addr) (t w r i : Nat) (A : Adr) (S : MS) (v : V), vs = [.ref m, .int (i : Int)] ∧ MemAt C M H m t w r A S ∧ i < 1 + t + (t + w + r) ∧ cellV S t i = some v ∧ Q v H
def spAsk (C M NV : Addr) : Sp := fun vs H Q E => ∃ (m : Addr) (t w r i : Nat) (A : Adr) (S : MS), vs = [.ref m, .int (i : Int)] ∧ MemAt C M H m t w r A S ∧
  ((1 + t ≤ i ∧ i < 1 + t + (t + w + r)) → Q .non H) ∧ (¬ (1 + t ≤ i ∧ i < 1 + t + (t + w + r)) → E (.ref NV) none H)
def spLasting (C M NV : Addr) : Sp := fun vs H Q E => ∃ (m : Addr) (t w r i : Nat) (A : Adr) (S : MS), vs = [.ref m, .int (i : Int)] ∧ MemAt C M H m t w r A S ∧
  ((1 + t ≤ i ∧ i < 1 + t + (t + w + r)) → ∃ v, (S.tr (i - (1 + t)))[0]? = some v ∧ Q v H) ∧ (¬ (1 + t ≤ i ∧ i < 1 + t + (t + w + r)) → E (.ref NV) none H)
def spTrail (C M NV : Addr) : Sp := fun vs H Q E => ∃ (m : Addr) (t w r i : Nat) (A : Adr) (S : MS), vs = [.ref m, .int (i : Int)] ∧ MemAt C M H m t w r A S ∧
  ((1 + t ≤ i ∧ i < 1 + t + (t + w + r)) → ∀ p, H p = none → Q (.ref p) (upd H p (.lst (S.tr (i - (1 + t)))))) ∧ (¬ (1 + t ≤ i ∧ i < 1 + t + (t + w + r)) → E (.ref NV) none H)
section
variable {P : Program} {w : World} {K : PySem.W.Frag} {mg : Str → Option Value} {base : Heap} {C M NV LE : Addr}
theorem scPeek : FnScope ["self", "cell"] ["self", "cell"] (defScope sPeek) := ⟨rfl, rfl, rfl, by decide +kernel, rfl, by decide +kernel, by decide +kernel⟩
theorem mo_peek (F : MT K M "peek" "Memory.peek" sPeek ["self", "cell"]) (T : LTxt K mg C) (TM : MTxt K M) (GI : MO P w K mg base CX0 C 6 "is_cell" ["self", "cell"] (spLV C fun t w r v => .bl (inW 0 (cells t w r - 1) v)))
    (GL : MO P w K mg base CX0 C 7 "is_lasting" ["self", "cell"] (spLV C fun t w r v => .bl (lastB t w r v))) : MO P w K mg base CX0 M 8 "peek" ["self", "cell"] (spPeek C M) := by
  obtain ⟨f, fd, F, hm, hb⟩ := F
  refine ⟨f, fd, ?_, hm, hb⟩
  refine F.ok scPeek (fun vs H Q E h => ?_) (fun cdv A outer s H vs Q E hr h => ?_)
  · obtain ⟨m, t, w, r, i, A, S, v, rfl, _⟩ := h
    rfl
  · obtain ⟨m, t, w, r, i, B, S, v, rfl, D, hi, hv, k⟩ := h
    obtain ⟨dx, h1⟩ := D.ob
    obtain ⟨da, ha⟩ := D.lay
    have hu := hu_of hr
    refine ⟨_, pss_cons (ps_if (pt_not (pt_val (pm_ GI T.cl (hr.mono (by decide)) (pe_fld (pv 0) rfl) (pa_cons (pv 1) pa_nil)))) (pss_one ps_never) pss_nil)
      (pss_cons (ps_if (pt_val (pm_ GL T.cl hr (pe_fld (pv 0) rfl) (pa_cons (pv 1) pa_nil))) (pss_one (ps_ret (pe_ix ix_list (pe_dget hu (pe_fld (pv 0) rfl) (pv 1) (fun _ _ => rfl)) (pe_un un_neg pe_int) (fun _ _ => rfl)))) pss_nil)
      (pss_one (ps_ret (pe_ix ix_list (pe_fld (pv 0) rfl) (pv 1) (fun _ _ => rfl))))), ?_⟩
    refine ⟨_, rfl, m, M, dx, _, _, rfl, h1, TM.cl, TM.nL, rfl, B.a, da, _, rfl, ha, rfl, _, rfl, B.a, t, w, r, _, "int", rfl, rfl, ⟨da, ha⟩, _, rfl, ?_⟩
    rw [cells_n, inW_nat, decide_eq_true hi]
    refine iteF ?_
    refine ⟨_, rfl, m, M, dx, _, _, rfl, h1, TM.cl, TM.nL, rfl, B.a, da, _, rfl, ha, rfl, _, rfl, B.a, t, w, r, _, "int", rfl, rfl, ⟨da, ha⟩, _, rfl, ?_⟩
    rw [lastB_nat]
    unfold cellV at hv
    by_cases c : i < 1 + t
    · rw [if_pos c] at hv
      rw [decide_eq_false (by omega)]
      refine iteF ?_
      exact ⟨_, rfl, m, M, dx, _, _, rfl, h1, TM.cl, TM.nP, rfl, _, rfl, B.pl, _, _, _, rfl, rfl, SqL.of D.ps, atI_nat hv, k⟩
    · rw [if_neg c] at hv
      rw [decide_eq_true (by omega)]
      refine iteT ?_
      have hj : i - (1 + t) < t + w + r := by omega
      have ei : ((1 + t : Nat) : Int) + ((i - (1 + t) : Nat) : Int) = (i : Int) := by omega
      have g : DGet H B.td (.int (i : Int)) (some (.ref (B.tl (i - (1 + t))))) := by
        have := DGet.k (k := (Sum.inl (i : Int) : Key)) D.tr.d
        rw [← ei, kv_val _ _ _ _ hj, ei] at this
        exact this
      exact ⟨_, rfl, m, M, dx, _, _, rfl, h1, TM.cl, TM.nT, rfl, _, rfl, B.td, _, rfl, g, 1, rfl, B.tl (i - (1 + t)), _, _, _, rfl, rfl, SqL.of (D.tr.l _ hj), atI_getLast hv, k⟩
theorem scAsk : FnScope ["self", "cell"] ["self", "cell"] (defScope sAsk) := ⟨rfl, rfl, rfl, by decide +kernel, rfl, by decide +kernel, by decide +kernel⟩
theorem mo_ask (F : MT K M "_ask_lasting" "Memory._ask_lasting" sAsk ["self", "cell"]) (T : LTxt K mg C) (TM : MTxt K M) (X0 : XTxt K mg NV LE)
    (GL : MO P w K mg base CX0 C 7 "is_lasting" ["self", "cell"] (spLV C fun t w r v => .bl (lastB t w r v))) : MO P w K mg base (L2.CX P w) M 8 "_ask_lasting" ["self", "cell"] (spAsk C M NV) := by
  obtain ⟨f, fd, F, hm, hb⟩ := F
  refine ⟨f, fd, ?_, hm, hb⟩
  refine F.okX scAsk (fun vs H Q E h => ?_) (fun cdv A outer s H vs Q E hr h => ?_)
  · obtain ⟨m, t, w, r, i, A, S, rfl, _⟩ := h
    rfl
  · obtain ⟨m, t, w, r, i, B, S, rfl, D, k1, k2⟩ := h
    obtain ⟨dx, h1⟩ := D.ob
    obtain ⟨da, ha⟩ := D.lay
    refine ⟨_, pss_one (ps_if (pt_not (pt_val (pm_ GL T.cl hr (pe_fld (pv 0) rfl) (pa_cons (pv 1) pa_nil))))
      (pss_one (ps_raise rfl (takes_of rfl rfl rfl rfl) (pmk_own0 PySem.F.excBase_ValueError X0.xN X0.gN X0.kN (raises_own X0.sN X0.tN) rfl))) pss_nil), ?_⟩
    refine ⟨_, rfl, m, M, dx, _, _, rfl, h1, TM.cl, TM.nL, rfl, B.a, da, _, rfl, ha, rfl, _, rfl, B.a, t, w, r, _, "int", rfl, rfl, ⟨da, ha⟩, _, rfl, ?_⟩
    rw [lastB_nat]
    by_cases c : 1 + t ≤ i ∧ i < 1 + t + (t + w + r)
    · rw [decide_eq_true c]
      exact iteF (k1 c)
    · rw [decide_eq_false c]
      exact iteT (k2 c)
theorem scLasting : FnScope ["self", "cell"] ["self", "cell"] (defScope sLasting) := ⟨rfl, rfl, rfl, by decide +kernel, rfl, by decide +kernel, by decide +kernel⟩
theorem mo_lasting (F : MT K M "lasting" "Memory.lasting" sLasting ["self", "cell"]) (TM : MTxt K M) (GA : MO P w K mg base (L2.CX P w) M 8 "_ask_lasting" ["self", "cell"] (spAsk C M NV)) :
    MO P w K mg base (L2.CX P w) M 9 "lasting" ["self", "cell"] (spLasting C M NV) := by
  obtain ⟨f, fd, F, hm, hb⟩ := F
  refine ⟨f, fd, ?_, hm, hb⟩
  refine F.okX scLasting (fun vs H Q E h => ?_) (fun cdv A outer s H vs Q E hr h => ?_)
  · obtain ⟨m, t, w, r, i, A, S, rfl, _⟩ := h
    rfl
  · obtain ⟨m, t, w, r, i, B, S, rfl, D, k1, k2⟩ := h
    obtain ⟨dx, h1⟩ := D.ob
    have hu := hu_of hr
    refine ⟨_, pss_cons (ps_expr (pmE_ (E := fun _ => E) GA TM.cl hr (fun σ => passAt (takes_of rfl rfl rfl rfl) σ) (pv 0) (pa_cons (pv 1) pa_nil)))
      (pss_one (ps_ret (pe_ix ix_list (pe_dget hu (pe_fld (pv 0) rfl) (pv 1) (fun _ _ => rfl)) pe_int (fun _ _ => rfl)))), ?_⟩
    refine ⟨_, rfl, m, dx, _, rfl, h1, rfl, _, rfl, m, t, w, r, i, B, S, rfl, D, fun c => ?_, k2⟩
    obtain ⟨v, hv, q⟩ := k1 c
    have hj : i - (1 + t) < t + w + r := by omega
    have ei : ((1 + t : Nat) : Int) + ((i - (1 + t) : Nat) : Int) = (i : Int) := by omega
    have g : DGet H B.td (.int (i : Int)) (some (.ref (B.tl (i - (1 + t))))) := by
      have := DGet.k (k := (Sum.inl (i : Int) : Key)) D.tr.d
      rw [← ei, kv_val _ _ _ _ hj, ei] at this
      exact this
    exact ⟨_, rfl, m, M, dx, _, _, rfl, h1, TM.cl, TM.nT, rfl, _, rfl, B.td, _, rfl, g, B.tl (i - (1 + t)), _, _, _, rfl, rfl, SqL.of (D.tr.l _ hj), atI_nat (j := 0) hv, q⟩
theorem scTrail : FnScope ["self", "cell"] ["self", "cell"] (defScope sTrail) := ⟨rfl, rfl, rfl, by decide +kernel, rfl, by decide +kernel, by decide +kernel⟩
theorem mo_trail (F : MT K M "trail" "Memory.trail" sTrail ["self", "cell"]) (T : LTxt K mg C) (TM : MTxt K M) (GA : MO P w K mg base (L2.CX P w) M 8 "_ask_lasting" ["self", "cell"] (spAsk C M NV)) :
    MO P w K mg base (L2.CX P w) M 9 "trail" ["self", "cell"] (spTrail C M NV) := by
  obtain ⟨f, fd, F, hm, hb⟩ := F
  refine ⟨f, fd, ?_, hm, hb⟩
  refine F.okX scTrail (fun vs H Q E h => ?_) (fun cdv A outer s H vs Q E hr h => ?_)
  · obtain ⟨m, t, w, r, i, A, S, rfl, _⟩ := h
    rfl
  · obtain ⟨m, t, w, r, i, B, S, rfl, D, k1, k2⟩ := h
    obtain ⟨dx, h1⟩ := D.ob
    have hu := hu_of hr
    refine ⟨_, pss_cons (ps_expr (pmE_ (E := fun _ => E) GA TM.cl hr (fun σ => passAt (takes_of rfl rfl rfl rfl) σ) (pv 0) (pa_cons (pv 1) pa_nil)))
      (pss_one (ps_ret (pe_callTy call_list_of (by rfl) T.bn.list (by decide +kernel) (pa_cons (pe_dget hu (pe_fld (pv 0) rfl) (pv 1) (fun _ _ => rfl)) pa_nil)))), ?_⟩
    refine ⟨_, rfl, m, dx, _, rfl, h1, rfl, _, rfl, m, t, w, r, i, B, S, rfl, D, fun c => ?_, k2⟩
    have q := k1 c
    have hj : i - (1 + t) < t + w + r := by omega
    have ei : ((1 + t : Nat) : Int) + ((i - (1 + t) : Nat) : Int) = (i : Int) := by omega
    have g : DGet H B.td (.int (i : Int)) (some (.ref (B.tl (i - (1 + t))))) := by
      have := DGet.k (k := (Sum.inl (i : Int) : Key)) D.tr.d
      rw [← ei, kv_val _ _ _ _ hj, ei] at this
      exact this
    exact ⟨_, rfl, m, M, dx, _, _, rfl, h1, TM.cl, TM.nT, rfl, _, rfl, B.td, _, rfl, g, B.tl (i - (1 + t)), _, rfl, .inl (SqL.of (D.tr.l _ hj)), q⟩
end
end Dk

set_option maxHeartbeats 4000000
/-! the tape of a law -/
namespace Dk
open PySem PySem.Spec PyProof.Rows L2
abbrev sTape : Stmt := top 31
abbrev sAt : Stmt := top 32
def Small (ms : List Int) : Prop := ∀ v, v ∈ ms → 0 ≤ v ∧ v < 1000
theorem Small.snoc {ms : List Int} {v : Int} (h : Small ms) (a : 0 ≤ v) (b : v < 1000) : Small (ms ++ [v]) := fun x hx => by
  rcases List.mem_append.mp hx with m | m
  · exact h x m
  · rw [List.mem_singleton.mp m]
    exact ⟨a, b⟩
def atD (ms : List Int) (k : Nat) : Int := (ms[k]?).getD 0
theorem atD_small {ms : List Int} {k : Nat} (h : Small ms) : 0 ≤ atD ms k ∧ atD ms k < 1000 := by
  unfold atD
  cases e : ms[k]? with
  | none => exact ⟨by decide, by decide⟩
  | some v => exact h v (List.mem_of_getElem? e)
def spTape (K : PySem.W.Frag) : Sp := fun vs H Q _ => ∃ (a : Addr) (ns : List Int), vs = [.ref a] ∧ SqL K H a (ns.map V.int) ∧ ns.length ≤ 63 ∧
  ∀ (p : Addr) (ms : List Int) (H' : Hp), H p = none → H' p = some (.lst (ms.map V.int)) → Small ms → ms.length ≤ 3780 → Same H H' → Q (.ref p) H'
def spAt (K : PySem.W.Frag) : Sp := fun vs H Q _ => ∃ (p : Addr) (ms : List Int) (k : Nat), vs = [.ref p, .int (k : Int)] ∧ SqL K H p (ms.map V.int) ∧ Q (.int (atD ms k)) H
section
variable {P : Program} {w : World} {K : PySem.W.Frag} {mg : Str → Option Value} {base : Heap}
theorem scTape : FnScope ["script", "tape", "k", "value", "step"] ["script"] (defScope sTape) := ⟨rfl, rfl, rfl, by decide +kernel, rfl, by decide +kernel, by decide +kernel⟩
theorem go_tape (F : GT K mg "_law_tape" sTape ["script"]) (T : Bn mg) : GO P w K mg base CX0 1 "_law_tape" ["script"] (spTape K) := by
  obtain ⟨f, fd, F, hm, hb⟩ := F
  refine ⟨f, fd, ?_, hm, F.kp, hb⟩
  refine F.ok scTape (fun vs H Q E h => ?_) (fun cdv A outer s H vs Q E hr h => ?_)
  · obtain ⟨a, ns, rfl, _⟩ := h
    rfl
  · obtain ⟨a, ns, rfl, hS, hlen, k⟩ := h
    have hsl : sizeLine = 16777216 := sizeLine_eq
    refine ⟨_, pss_cons (ps_set (i := 1) scTape.nd rfl (Or.inl rfl) (pe_lst pa_nil))
      (pss_cons (ps_for PassesOwn.never rfl (pi_range1 rfl T.range (pa_cons (pe_callB call_len_seq (by rfl) T.len PySem.boot_len (pa_cons (pv 0) pa_nil)) pa_nil)) (pg_name (i := 2) scTape.nd rfl (Or.inl rfl))
        (pss_cons (ps_set (i := 3) scTape.nd rfl (Or.inl rfl) (pe_callB call_abs (by rfl) T.abs (by decide +kernel) (pa_cons (pe_callTy call_int1 (by rfl) T.int (by decide +kernel) (pa_cons (pe_ix ix_list (pv 0) (pv 2) (fun _ _ => rfl)) pa_nil)) pa_nil)))
        (pss_one (ps_if (pt_cmpR op_ge (pv 3) (pe_op op_pow pe_int pe_int) (nomark _))
          (pss_one (ps_for PassesOwn.never rfl (pi_range1 rfl T.range (pa_cons pe_int pa_nil)) (pg_name (i := 4) scTape.nd rfl (Or.inl rfl))
            (pss_one (ps_if (pt_cmpR op_gt (pv 3) pe_int (nomark _))
              (pss_cons (ps_expr (pe_bm PySem.F.plainAttrs_list PySem.F.slot_list_append PySem.F.type_list_append mt_append (pv 1) (pa_cons (pe_op op_mod (pv 3) pe_int) pa_nil)))
              (pss_one (ps_set (i := 3) scTape.nd rfl (Or.inl rfl) (pe_op op_fdiv (pv 3) pe_int)))) pss_nil))))
          (pss_one (ps_for PassesOwn.never rfl (pi_range1 rfl T.range (pa_cons pe_int pa_nil)) (pg_name (i := 4) scTape.nd rfl (Or.inl rfl))
            (pss_cons (ps_set (i := 3) scTape.nd rfl (Or.inl rfl) (pe_op op_mod (pe_op op_add (pe_op op_add (pe_op op_mul (pv 3) pe_int) (pe_op op_mul pe_int (pe_op op_add (pv 2) pe_int))) (pe_op op_mul pe_int (pv 4))) pe_int))
            (pss_cons (ps_set (i := 3) scTape.nd rfl (Or.inl rfl) (pe_op op_mod (pe_op op_mul (pv 3) pe_int) pe_int))
            (pss_one (ps_expr (pe_bm PySem.F.plainAttrs_list PySem.F.slot_list_append PySem.F.type_list_append mt_append (pv 1) (pa_cons (pe_op op_mod (pe_op op_fdiv (pv 3) pe_int) pe_int) pa_nil))))))))))))
      (pss_one (ps_ret (pv 1)))), ?_⟩
    -- tape = []
    refine ⟨(by show 0 ≤ sizeLine; exact Nat.zero_le _), fun D hD => ?_⟩
    have s0 : Same H (upd H D (.lst [])) := fun b o e => by rw [upd_ne (ne_of_none e hD)]; exact e
    refine ⟨_, rfl, a, _, rfl, .inl (s0.seq hS), _, rfl, (by rw [List.length_map]; omega), (by rw [List.length_map]; omega), for_range (lo := 0) (n := ((ns.map V.int).length : Int).toNat)
      (fun i σ H2 => ∃ (x y z : Option V) (ms : List Int), σ = [some (.ref a), some (.ref D), x, y, z] ∧ H2 D = some (.lst (ms.map V.int)) ∧ Small ms ∧ ms.length ≤ 60 * i ∧ Same H H2) ⟨_, _, _, [], rfl, upd_same, fun v h => by simp at h, by simp, s0⟩ ?_ ?_⟩
    · rintro i σ H2 hi ⟨x, y, z, ms, rfl, hl, sm, len, s2⟩
      have hi' : i < ns.length := by
        rw [List.length_map] at hi
        omega
      have hv : (ns.map V.int)[i]? = some (V.int ns[i]) := by rw [List.getElem?_map, List.getElem?_eq_getElem hi']; rfl
      refine ⟨_, rfl, _, rfl, a, _, _, _, rfl, rfl, s2.seq hS, at_of (j := i) (by omega) hv, .inl ⟨_, rfl, _, rfl, ?_⟩⟩
      generalize hval : (if ns[i] < 0 then -ns[i] else ns[i]) = val
      refine ⟨_, rfl, _, _, rfl, rfl, ⟨by decide, by decide, by decide⟩, _, _, rfl, rfl, _, rfl, ite2 (fun _ => ?_) (fun _ => ?_)⟩
      · refine ⟨60, rfl, by decide, by decide, for_range (lo := 0) (n := (60 : Int).toNat)
          (fun l σ H2 => ∃ (val : Int) (z : Option V) (ms' : List Int), σ = [some (.ref a), some (.ref D), some (.int (0 + (i : Int))), some (.int val), z] ∧ H2 D = some (.lst (ms'.map V.int)) ∧ Small ms' ∧ ms'.length ≤ ms.length + l ∧ Same H H2) ⟨_, _, ms, rfl, hl, sm, by omega, s2⟩ ?_ ?_⟩
        · rintro l σ H3 hl3 ⟨val3, z3, ms3, rfl, hl3', sm3, len3, s3⟩
          refine ⟨_, rfl, _, _, rfl, rfl, _, rfl, ite2 (fun _ => ?_) (fun _ => ?_)⟩
          · refine ⟨_, rfl, .inl ⟨rfl, _, SqL.of hl3'⟩, _, rfl, _, _, rfl, rfl, (by show (0 : Int) < 1000; decide), D, _, _, rfl, rfl, hl3', ?_, ?_⟩
            · rw [List.length_map]
              have : (60 : Int).toNat = 60 := rfl
              omega
            · refine ⟨_, rfl, _, _, rfl, rfl, ⟨by decide, by decide⟩, ?_⟩
              refine ⟨_, _, ms3 ++ [val3 % 1000], rfl, ?_, sm3.snoc (Int.emod_nonneg _ (by decide)) (Int.emod_lt_of_pos _ (by decide)), ?_, fun b o e => ?_⟩
              · rw [upd_same, List.map_append]
                rfl
              · rw [List.length_append, List.length_singleton]
                omega
              · rw [upd_ne (ne_of_none e hD)]
                exact s3 b o e
          · exact ⟨_, _, ms3, rfl, hl3', sm3, by omega, s3⟩
        · rintro σ H3 ⟨val3, z3, ms3, rfl, hl3', sm3, len3, s3⟩
          exact ⟨_, _, _, ms3, rfl, hl3', sm3, (by have : (60 : Int).toNat = 60 := rfl; omega), s3⟩
      · refine ⟨4, rfl, by decide, by decide, for_range (lo := 0) (n := (4 : Int).toNat)
          (fun l σ H2 => ∃ (val : Int) (z : Option V) (ms' : List Int), σ = [some (.ref a), some (.ref D), some (.int (0 + (i : Int))), some (.int val), z] ∧ H2 D = some (.lst (ms'.map V.int)) ∧ Small ms' ∧ ms'.length ≤ ms.length + l ∧ Same H H2) ⟨_, _, ms, rfl, hl, sm, by omega, s2⟩ ?_ ?_⟩
        · rintro l σ H3 hl3 ⟨val3, z3, ms3, rfl, hl3', sm3, len3, s3⟩
          refine ⟨_, rfl, _, _, rfl, rfl, .inr ⟨by decide, by decide⟩, _, rfl, _, _, rfl, rfl, _, _, rfl, rfl, .inl ⟨by decide, by decide⟩, _, _, rfl, rfl, _, rfl, _, _, rfl, rfl, .inl ⟨by decide, by decide⟩, _, _, rfl, rfl, _, _, rfl, rfl, (by show (0 : Int) < 2147483647; decide), ?_⟩
          refine ⟨_, rfl, _, _, rfl, rfl, .inr ⟨by decide, by decide⟩, _, _, rfl, rfl, (by show (0 : Int) < 2147483647; decide), ?_⟩
          refine ⟨_, rfl, .inl ⟨rfl, _, SqL.of hl3'⟩, _, rfl, _, _, rfl, rfl, ⟨by decide, by decide⟩, _, _, rfl, rfl, (by show (0 : Int) < 1000; decide), D, _, _, rfl, rfl, hl3', ?_, ?_⟩
          · rw [List.length_map]
            have : (4 : Int).toNat = 4 := rfl
            omega
          · refine ⟨_, _, ms3 ++ [((val3 * 48271 + 69621 * (0 + (i : Int) + 1) + 7 * (0 + (l : Int))) % 2147483647 * 16807 % 2147483647 / 1000) % 1000], rfl, ?_, sm3.snoc (Int.emod_nonneg _ (by decide)) (Int.emod_lt_of_pos _ (by decide)), ?_, fun b o e => ?_⟩
            · rw [upd_same, List.map_append]
              rfl
            · rw [List.length_append, List.length_singleton]
              omega
            · rw [upd_ne (ne_of_none e hD)]
              exact s3 b o e
        · rintro σ H3 ⟨val3, z3, ms3, rfl, hl3', sm3, len3, s3⟩
          exact ⟨_, _, _, ms3, rfl, hl3', sm3, (by have : (4 : Int).toNat = 4 := rfl; omega), s3⟩
    · rintro σ H2 ⟨x, y, z, ms, rfl, hl, sm, len, s2⟩
      exact ⟨_, rfl, k D ms H2 hD hl sm (by rw [List.length_map] at len; omega) s2⟩
theorem scAt : FnScope ["tape", "k"] ["tape", "k"] (defScope sAt) := ⟨rfl, rfl, rfl, by decide +kernel, rfl, by decide +kernel, by decide +kernel⟩
theorem go_at (F : GT K mg "_law_at" sAt ["tape", "k"]) (T : Bn mg) : GO P w K mg base CX0 1 "_law_at" ["tape", "k"] (spAt K) := by
  obtain ⟨f, fd, F, hm, hb⟩ := F
  refine ⟨f, fd, ?_, hm, F.kp, hb⟩
  refine F.ok scAt (fun vs H Q E h => ?_) (fun cdv A outer s H vs Q E hr h => ?_)
  · obtain ⟨p, ms, k, rfl, _⟩ := h
    rfl
  · obtain ⟨p, ms, i, rfl, hS, k⟩ := h
    refine ⟨_, pss_cons (ps_if (pt_cmpR op_lt (pv 1) (pe_callB call_len_seq (by rfl) T.len PySem.boot_len (pa_cons (pv 0) pa_nil)) (nomark _)) (pss_one (ps_ret (pe_ix ix_list (pv 0) (pv 1) (fun _ _ => rfl)))) pss_nil)
      (pss_one (ps_ret pe_int)), ?_⟩
    refine ⟨_, rfl, _, rfl, p, _, rfl, .inl hS, _, _, rfl, rfl, _, rfl, ite2 (fun c => ?_) (fun c => ?_)⟩
    · have hi : i < ms.length := by
        have c := of_decide_eq_true c
        rw [List.length_map] at c
        omega
      have hv : (ms.map V.int)[i]? = some (V.int ms[i]) := by rw [List.getElem?_map, List.getElem?_eq_getElem hi]; rfl
      have ea : atD ms i = ms[i] := by unfold atD; rw [List.getElem?_eq_getElem hi]; rfl
      rw [ea] at k
      exact ⟨_, rfl, _, rfl, p, _, _, _, rfl, rfl, hS, atI_nat hv, k⟩
    · have hi : ¬ i < ms.length := fun h => c (decide_eq_true (by rw [List.length_map]; omega))
      have ea : atD ms i = 0 := by unfold atD; rw [List.getElem?_eq_none (by omega)]; rfl
      rw [ea] at k
      exact k
end
end Dk

set_option maxHeartbeats 4000000
/-! match over a tuple whose first item is a text -/
namespace Dk
open PySem PySem.Spec PyProof.Rows L2
/-- the captures of a pattern: names, each in its slot -/
inductive Caps (X : Cx) : List Pattern → List Str → List Nat → Prop where
  | nil : Caps X [] [] []
  | cons {n : Str} {i : Nat} {pos : Pos} {ps : List Pattern} {ns : List Str} {is : List Nat} (hi : X.N[i]? = some n) (hl : X.env.scope.names.lookup n = some .local) (h : Caps X ps ns is) : Caps X (.MatchAs none (some n) pos :: ps) (n :: ns) (i :: is)
theorem Caps.len {X : Cx} {ps : List Pattern} {ns : List Str} {is : List Nat} (h : Caps X ps ns is) : ns.length = ps.length ∧ is.length = ps.length := by
  induction h with
  | nil => exact ⟨rfl, rfl⟩
  | cons _ _ _ ih => exact ⟨by simp [ih.1], by simp [ih.2]⟩
theorem Caps.noStar {X : Cx} {ps : List Pattern} {ns : List Str} {is : List Nat} (h : Caps X ps ns is) : ∀ p, p ∈ ps → p.isStar = false := by
  induction h with
  | nil => intro p hp; cases hp
  | cons _ _ _ ih =>
    intro p hp
    rcases List.mem_cons.mp hp with e | m
    · subst e
      rfl
    · exact ih p m
/-- the slots stored one after the other -/
def setAll : L2.St → List Nat → List V → L2.St
  | σ, i :: is, v :: vs => setAll (σ.set i (some v)) is vs
  | σ, _, _ => σ
section
variable {X : Cx}
theorem caps_match {A : Around} {E : Value → Shared → Prop} {s : Shared} {Q : Option (List (Str × Value)) → Shared → Prop} {ps : List Pattern} {ns : List Str} {is : List Nat} (h : Caps X ps ns is) :
    ∀ {us : List Value}, us.length = ps.length → Q (some (ns.zip us)) s → wpAny (model X.prog X.w) A (matchEach ps X.env us) Q E s := by
  induction h generalizing Q with
  | nil =>
    intro us hl q
    cases us with
    | nil => exact wpAny_matchEach_nil q
    | cons _ _ => cases hl
  | @cons n i pos ps ns is hi hl h ih =>
    intro us hlen q
    cases us with
    | nil => cases hlen
    | cons u us =>
      refine wpAny_matchEach_cons (wpAny_matchPattern_Capture ?_)
      exact ih (by simpa using hlen) q
theorem caps_assign {ps : List Pattern} {ns : List Str} {is : List Nat} (h : Caps X ps ns is) (hN : X.N.Nodup) : ∀ {pins : List (Addr × Obj)} {s : Shared} {σ : L2.St} {H : Hp} {E : Value → Shared → Prop} {Q : Unit → Shared → Prop} {vs : List V} {us : List Value}, Inv X pins σ H s → Vals vs us → us.length = ns.length →
    (∀ s', Inv X pins (setAll σ is vs) H s' → Q () s') → wpAny (model X.prog X.w) X.A (assignInOrder ((ns.zip us).map fun (n, _) => bindName X.env n) ((ns.zip us).map (·.2))) Q E s := by
  induction h with
  | nil =>
    intro pins s σ H E Q vs us I r hl q
    refine wpAny_assignInOrder_none (q s ?_)
    cases vs <;> exact I
  | @cons n i pos ps ns is hi hl h ih =>
    intro pins s σ H E Q vs us I r hlen q
    cases r with
    | nil => cases hlen
    | @cons v u vs us rv rs =>
      show wpAny _ _ (assignInOrder ((fun (n, _) => bindName X.env n) (n, u) :: (ns.zip us).map fun (n, _) => bindName X.env n) (u :: (ns.zip us).map (·.2))) _ _ _
      refine wpAny_assignInOrder_more ?_
      show wpAny _ _ (bindName X.env n u) _ _ _
      refine wpAny_bindName (store_ok I hN hi (.inl hl) rv (fun s1 I1 => ?_) (.inr hl))
      exact ih I1 rs (by simpa using hlen) q
/-- the cases of a match whose subject is a tuple -/
structure PMs (X : Cx) (cs : List MatchCase) (t : Addr → List V → TS) : Prop where
  run : ∀ (fst : Bool) (pins : List (Addr × Obj)) (s : Shared) (σ : L2.St) (H : Hp) (D : Ends) (a : Addr) (xs : List V), Inv X pins σ H s → SqT X.K H a xs → t a xs D σ H → wpAny (model X.prog X.w) X.A (matchCases cs X.env (.ref a) fst) (SP X pins D) X.xe s
def mNil : Addr → List V → TS := fun _ _ D σ H => D.nx σ H
theorem pms_nil : PMs X [] mNil := ⟨fun fst pins s σ H D a xs I q h => wpAny_matchCases_nil ⟨σ, H, I, h⟩⟩
/-- case ("kind", a, b, ..) -/
def mCase (kind : Str) (is : List Nat) (tb : TS) (tr : Addr → List V → TS) : Addr → List V → TS := fun a xs D σ H =>
  if xs.length = is.length + 1 then ∃ z ys, xs = .str z :: ys ∧ (if z = kind then tb D (setAll σ is ys) H else tr a xs D σ H) else tr a xs D σ H
theorem pms_case {kind : Str} {j : Nat} {p1 p2 pos : Pos} {ps : List Pattern} {ns : List Str} {is : List Nat} {body : List Stmt} {rest : List MatchCase} {tb : TS} {tr : Addr → List V → TS} (hc : X.calm = true) (hN : X.N.Nodup) (h : Caps X ps ns is) (hb : PSs X body tb) (hr : PMs X rest tr) :
    PMs X (⟨.MatchSequence (.MatchValue (.Constant (.str kind) j p1) p2 :: ps) pos, none, body⟩ :: rest) (mCase kind is tb tr) := by
  refine ⟨fun fst pins s σ H D a xs I q hw => ?_⟩
  obtain ⟨its, rv, ht, hz⟩ := I.tuple q
  have hsl : sizeLine = 16777216 := sizeLine_eq
  have hfit : ((its.toArray.size : Nat) : Int) < 2 ^ 63 := by
    rw [List.size_toArray, ← rv.length]
    omega
  have hstar : (Pattern.MatchValue (.Constant (.str kind) j p1) p2 :: ps).findIdx? (·.isStar) = none := by
    refine List.findIdx?_eq_none_iff.mpr fun p hp => ?_
    rcases List.mem_cons.mp hp with e | m
    · subst e
      rfl
    · exact h.noStar p m
  have hwild : ((Pattern.MatchValue (.Constant (.str kind) j p1) p2 :: ps).all fun p => p.isWildcard || (p.isStar && p.names.isEmpty)) = false := by
    rw [List.all_cons]
    rfl
  unfold mCase at hw
  refine wpAny_matchCases_cons ?_
  by_cases hlen : xs.length = is.length + 1
  · rw [if_pos hlen] at hw
    obtain ⟨z, ys, rfl, hw⟩ := hw
    have hsz : its.toArray.size = (Pattern.MatchValue (.Constant (.str kind) j p1) p2 :: ps).length := by
      rw [List.size_toArray, ← rv.length, hlen, h.len.2]
      rfl
    refine matchSeq_tuple_hit ht hfit hsz ?_ hstar hwild
    have ht' : IsTup (({ s with toks := s.toks + 1 + 1 } : Shared)).heap a its.toArray := ht
    rw [← hsz]
    refine unpackItems_tuple (I.ok.hd hc) ht' fun h' hx => ?_
    have I1 : Inv X pins σ H { s with heap := h', toks := s.toks + 1 + 1 } := I.kept (t' := s.toks + 1 + 1) fun b o e => hx b o (Nat.ne_of_lt (Heap.lt_size e)) e
    show wpAny _ _ (matchEach _ _ its.toArray.toList) _ _ _
    rw [List.toList_toArray]
    cases rv with
    | @cons _ u _ us ru rs =>
      refine wpAny_matchEach_cons ?_
      refine wpAny_matchPattern_Value ?_
      refine thn ((pe_str (X := X) (x := kind) (j := j) (pos := p1)).run pins _ σ H (fun y H1 => y = .str kind ∧ H1 = H) I1 ⟨rfl, rfl⟩) fun ku s2 ⟨y, H2, I2, r2, ey, eH⟩ => ?_
      subst ey
      subst eH
      refine thn (op_eq pins s2 σ H2 (.str z) (.str kind) u ku (fun c H3 => c = .bl (decide (V.str z = V.str kind)) ∧ H3 = H2) I2 ru r2 ⟨rfl, rfl, rfl⟩) fun cv s3 ⟨c, H3, I3, r3, ec, eH⟩ => ?_
      subst ec
      subst eH
      cases r3
      refine wpAny_truthy_bool ?_
      have hus : us.length = ps.length := by
        have := rs.length
        have := h.len.2
        simp only [List.length_cons] at hlen
        omega
      by_cases hk : z = kind
      · rw [if_pos hk] at hw
        subst hk
        have et : decide (V.str z = V.str z) = true := decide_eq_true rfl
        rw [if_pos et]
        refine caps_match h hus ?_
        show wpAny _ _ (assignInOrder (((ns.zip us)).map fun (n, _) => bindName X.env n) ((ns.zip us).map (·.2))) _ _ _
        refine caps_assign h hN I3 rs (by rw [hus, h.len.1]) fun s4 I4 => ?_
        exact hb.run pins s4 _ _ D I4 hw
      · rw [if_neg hk] at hw
        have et : decide (V.str z = V.str kind) = false := decide_eq_false fun e => hk (V.str.inj e)
        rw [if_neg (by rw [et]; exact Bool.false_ne_true)]
        exact hr.run false pins s3 σ _ D a _ I3 q hw
  · rw [if_neg hlen] at hw
    have hsz : its.toArray.size ≠ (Pattern.MatchValue (.Constant (.str kind) j p1) p2 :: ps).length := by
      rw [List.size_toArray, ← rv.length]
      have := h.len.2
      simp only [List.length_cons]
      omega
    exact matchSeq_tuple_miss ht hfit hsz (hr.run false pins _ σ H D a xs (I.tok _) q hw) hstar hwild
/-- match e: .. -/
def tMatch (K : PySem.W.Frag) (te : TE) (tm : Addr → List V → TS) : TS := fun D σ H => te σ H fun x H1 => ∃ a xs, x = .ref a ∧ SqT K H1 a xs ∧ tm a xs D σ H1
theorem ps_match {e : Expr} {te : TE} {cs : List MatchCase} {tm : Addr → List V → TS} {pos : Pos} (he : PE X e te) (hm : PMs X cs tm) : PS X (.Match e cs pos) (tMatch X.K te tm) := by
  refine ⟨fun pins s σ H D I h => ?_⟩
  refine wpAny_Match (thn (he.run pins s σ H _ I h) fun u s1 ⟨x, H1, I1, r1, a, xs, ex, q, hw⟩ => ?_)
  subst ex
  cases r1
  exact hm.run true pins s1 σ H1 D a xs I1 q hw
end
end Dk

set_option maxHeartbeats 4000000
/-! del xs[a:c] -/
namespace Dk
open PySem PySem.Spec PyProof.Rows L2
def mySel (start stop step : Int) (i : Nat) : Bool :=
  if step > 0 then decide (start ≤ i) && decide ((i : Int) < stop) && ((i : Int) - start) % step == 0
  else decide (stop < i) && decide ((i : Int) ≤ start) && (start - (i : Int)) % (-step) == 0
theorem mySel_one {a c k : Nat} : mySel (a : Int) (c : Int) 1 k = (decide (a ≤ k) && decide (k < c)) := by
  unfold mySel
  rw [if_pos (by decide), Int.emod_one]
  have e1 : decide ((a : Int) ≤ (k : Int)) = decide (a ≤ k) := decide_eq_decide.mpr (by omega)
  have e2 : decide ((k : Int) < (c : Int)) = decide (k < c) := decide_eq_decide.mpr (by omega)
  rw [e1, e2]
  simp
def keepF (a c : Nat) : Value × Nat → Option Value := fun p => if mySel (a : Int) (c : Int) 1 p.2 = true then none else some p.1
theorem kept_eq {a c : Nat} (hac : a ≤ c) : ∀ (l : List Value) (m : Nat), (l.zipIdx m).filterMap (keepF a c) = l.take (a - m) ++ l.drop (c - m)
  | [], m => by simp
  | x :: l, m => by
    have ih := kept_eq hac l (m + 1)
    rw [List.zipIdx_cons, List.filterMap_cons]
    by_cases h1 : m < a
    · have e : keepF a c (x, m) = some x := by
        unfold keepF
        rw [mySel_one, decide_eq_false (by omega)]
        rfl
      rw [e, show a - m = (a - (m + 1)) + 1 by omega, show c - m = (c - (m + 1)) + 1 by omega]
      show x :: (l.zipIdx (m + 1)).filterMap (keepF a c) = _
      rw [ih]
      rfl
    · by_cases h2 : m < c
      · have e : keepF a c (x, m) = none := by
          unfold keepF
          rw [mySel_one, decide_eq_true (by omega), decide_eq_true h2]
          rfl
        rw [e, show a - m = 0 by omega, show c - m = (c - (m + 1)) + 1 by omega]
        show (l.zipIdx (m + 1)).filterMap (keepF a c) = _
        rw [ih, show a - (m + 1) = 0 by omega]
        rfl
      · have e : keepF a c (x, m) = some x := by
          unfold keepF
          rw [mySel_one, decide_eq_false (p := m < c) h2, Bool.and_false]
          rfl
        rw [e, show a - m = 0 by omega, show c - m = 0 by omega]
        show x :: (l.zipIdx (m + 1)).filterMap (keepF a c) = _
        rw [ih, show a - (m + 1) = 0 by omega, show c - (m + 1) = 0 by omega]
        rfl
section
variable {prog : Program} {w : World} {A : Around} {E : Value → Shared → Prop} {s : Shared}
theorem delItem_slice {l sl : Addr} {items : Array Value} {n : Nat} {vl vu : Value} {lo hi : Option Int} {a c : Nat} {Q : Unit → Shared → Prop}
    (e : s.heap.get? l = some { cls := .type "list", data := .seq items n }) (hs : s.heap.IsSliceOf sl vl vu .none) (pl : IsPart vl lo) (pu : IsPart vu hi) (hb : sliceBounds lo hi none items.size = ((a : Int), (c : Int), 1)) (hac : a ≤ c)
    (hsz : items.size ≤ sizeLine) (h : ∀ f : Array Value → Array Value, f items = (items.toList.take a ++ items.toList.drop c).toArray → Q () { s with heap := s.heap.update l (Obj.mapSeq f) }) :
    wpAny (model prog w) A (delItem (.ref l) (.ref sl)) Q E s := by
  have hl : s.heap.IsList l items := PySem.IsL.isList e
  obtain ⟨os, hos, hcs, hds⟩ := id hs
  have hTs : s.TypeIs (.ref sl) "slice" := ⟨os, hos, hcs⟩
  have hstep : ¬ ((rawPart none == rawInt 0) = true) := Bool.false_ne_true
  refine PySem.wpAny_delItem_slot hl.typeIs (by decide) PySem.F.slot_list_delitem ?_
  refine wpAny_call_entry PySem.F.slot_list_delitem hl.typeIs PySem.F.entry_list_delitem ?_ (PySem.F.args_list_delitem_2 _ _)
  show wpAny _ _ (Builtin.List.listSubscript? (.ref sl) >>= _) _ _ s
  refine wpAny_bind ?_
  unfold Builtin.List.listSubscript?
  refine wpAny_bind (wpAny_specialOf hTs slice_no_index ?_)
  simp only [Option.isNone_none, if_true]
  refine wpAny_pure ?_
  show wpAny _ _ (typeOf (.ref sl) >>= _) _ _ s
  refine wpAny_bind (wpAny_typeOf hTs ?_)
  first
    | rw [if_neg (by decide)]
    | refine PySem.W.KFB.if_not (by decide) ?_
  rw [listSliceParts_eq]
  refine wpAny_bind (wpAny_bind (wpAny_field hos hds (x := .none) rfl (wpAny_bind (wpAny_listPart .none ?_))))
  rw [if_neg hstep]
  refine wpAny_bind (wpAny_field hos hds (x := vl) rfl (wpAny_bind (wpAny_listPart pl ?_)))
  refine wpAny_bind (wpAny_field hos hds (x := vu) rfl (wpAny_bind (wpAny_listPart pu (wpAny_pure ?_))))
  refine wpAny_bind (m := Builtin.List.listItems (.ref l)) ?_
  unfold Builtin.List.listItems
  refine wpAny_bind (wpAny_seqItems e rfl (wpAny_pure ?_))
  refine wpAny_bind (wpAny_of_eq ((sliceIndices_raw lo hi none items.size (by simp)).trans (congrArg (pure : Int × Int × Int → Sem (Int × Int × Int)) hb)) ?_)
  refine wpAny_bind (wpAny_rule ?_)
  have hf : (fun xs : Array Value => (xs.toList.zipIdx.filterMap (keepF a c)).toArray) items = (items.toList.take a ++ items.toList.drop c).toArray := by
    show (items.toList.zipIdx.filterMap (keepF a c)).toArray = _
    rw [kept_eq hac]
    rfl
  have hz' : ((fun xs : Array Value => (xs.toList.zipIdx.filterMap (keepF a c)).toArray) items).size ≤ sizeLine + 1 := by
    rw [hf, List.size_toArray, List.length_append, List.length_take, List.length_drop, Array.length_toList]
    omega
  show wpAny _ _ (updateSeq l (fun xs => (xs.toList.zipIdx.filterMap (keepF a c)).toArray) >>= _) _ _ s
  refine wpAny_bind (wpAny_updateSeq (hz := hsz) (_hz' := hz') e rfl ?_)
  refine wpAny_bind (wpAny_letGo ?_)
  first
    | exact wpAny_pure ⟨_, rfl, h _ hf⟩
    | exact wpAny_pure ⟨.none, rfl, wpAny_pure (h _ hf)⟩
    | exact wpAny_bind (wpAny_pure (wpAny_pure ⟨.none, rfl, h _ hf⟩))
end
theorem bounds_head {c n : Nat} (hc : c ≤ n) : sliceBounds none (some (c : Int)) none n = (((0 : Nat) : Int), (c : Int), 1) := by
  simp only [sliceBounds, Option.getD_none]
  have h2 : ¬ ((c : Int) < 0) := by omega
  simp only [h2, if_false, show (1 : Int) > 0 by decide, if_true]
  congr 1
  congr 1; omega
theorem bounds_tail {a n : Nat} (ha : a ≤ n) : sliceBounds (some (a : Int)) none none n = ((a : Int), (n : Int), 1) := by
  simp only [sliceBounds, Option.getD_none]
  have h1 : ¬ ((a : Int) < 0) := by omega
  simp only [h1, if_false, show (1 : Int) > 0 by decide, if_true]
  congr 1
  omega
section
variable {X : Cx}
/-- del xs[lo:hi] -/
def tDelSl (to : TE) (tl th : TO) : TS := fun D σ H => to σ H fun x H1 => tl σ H1 fun lo H2 => th σ H2 fun hi H3 => ∃ (l : Addr) (xs : List V) (a c : Nat), x = .ref l ∧ H3 l = some (.lst xs) ∧ sliceBounds lo hi none xs.length = ((a : Int), (c : Int), 1) ∧ a ≤ c ∧
  D.nx σ (upd H3 l (.lst (xs.take a ++ xs.drop c)))
theorem ps_delSl {o : Expr} {lo hi : Option Expr} {to : TE} {tl th : TO} {p2 tpos pos : Pos} (ho : PE X o to) (hl : PO X lo tl) (hu : PO X hi th) : PS X (.Delete [.Subscript o (.Slice lo hi none p2) tpos] pos) (tDelSl to tl th) := by
  refine ⟨fun pins s σ H D I h => ?_⟩
  refine wpAny_Delete (wpAny_deleteEach_cons (wpAny_delete_Subscript (thn (ho.run pins s σ H _ I h) fun u s1 ⟨x, H1, I1, rx, q1⟩ => ?_)))
  refine wpAny_Slice (thn (hl.run pins s1 σ H1 _ I1 q1) fun vl s2 ⟨lo', H2, I2, pl, q2⟩ => thn (hu.run pins s2 σ H2 _ I2 q2) fun vu s3 ⟨hi', H3, I3, pu, q3⟩ => ?_)
  rw [evalPart_none]
  refine wpAny_pure ?_
  have I4 : Inv X pins σ H3 { s3 with heap := s3.heap.push { cls := .type "slice", data := .fields #[vl, vu, .none] } } := I3.kept (t' := s3.toks) fun b ob q => Heap.get?_push_of_some _ q
  obtain ⟨l, xs, a, c, rfl, hH, hb, hac, q⟩ := q3
  cases rx
  obtain ⟨z, its, n, r, hlen, e⟩ := I4.lstM hH
  show wpAny (model X.prog X.w) X.A (delItem (.ref l) (.ref s3.heap.objs.size)) _ _ _
  refine delItem_slice (a := a) (c := c) e (Heap.IsSliceOf.new ..) pl pu (by rw [List.size_toArray, ← hlen]; exact hb) hac (by rw [List.size_toArray]; omega) fun f hf => ?_
  refine wpAny_deleteEach_nil ⟨σ, _, I4.lset (its' := its.take a ++ its.drop c) (t' := s3.toks) hH e ?_ (Vals.append (r.take _) (r.drop _)) ?_, q⟩
  · exact hf
  · rw [List.length_append, List.length_take, List.length_drop]
    omega
end
end Dk

set_option maxHeartbeats 4000000
/-! values that are no tuples; what an access may be -/
namespace Dk
open PySem PySem.Spec PyProof.Rows L2
abbrev sIsValue : Stmt := top 12
abbrev sIsSame : Stmt := top 13
abbrev sIsAcc : Stmt := top 18
theorem iteD {c A B : Prop} [Decidable c] (hc : c) (h : A) : if decide c = true then A else B := by
  rw [decide_eq_true hc]
  exact iteT h
theorem iteND {c A B : Prop} [Decidable c] (hc : ¬ c) (h : B) : if decide c = true then A else B := by
  rw [decide_eq_false hc]
  exact iteF h
theorem iteNT {c A B : Prop} [Decidable c] (hc : ¬ c) (h : A) : if (!decide c) = true then A else B := by
  rw [decide_eq_false hc]
  exact iteT h
def manyB : V → Bool
  | .int i => decide (0 ≤ i)
  | _ => false
theorem notTup {x : V} {t : String} (h : vty x = some t) : kitB t "tuple" = some false := by
  cases x <;> cases h <;> decide +kernel
def isB : V → Bool
  | .bl _ => true
  | _ => false
theorem kit_bool {x : V} {t : String} (h : vty x = some t) : kitB t "bool" = some (isB x) := by
  cases x with
  | non => cases h; show kitB "NoneType" "bool" = some false; decide +kernel
  | bl b => cases h; show kitB "bool" "bool" = some true; decide +kernel
  | int i => cases h; show kitB "int" "bool" = some false; decide +kernel
  | str y => cases h; show kitB "str" "bool" = some false; decide +kernel
  | _ => cases h
theorem kit_ok {x : V} {t : String} (h : vty x = some t) (hx : x ≠ .non) (K : PySem.W.Frag) : PySem.W.kitAny K (.type t) [.type "bool", .type "int", .type "str"] = some true := by
  cases x with
  | non => exact absurd rfl hx
  | bl b =>
    cases h
    exact kitAny_cons (b := true) (kit_ty (by decide +kernel)) (fun z => nomatch z) fun _ => rfl
  | int i =>
    cases h
    exact kitAny_cons (b := false) (kit_ty (by decide +kernel)) (fun _ => kitAny_cons (b := true) (kit_ty (by decide +kernel)) (fun z => nomatch z) fun _ => rfl) fun z => nomatch z
  | str y =>
    cases h
    exact kitAny_cons (b := false) (kit_ty (by decide +kernel)) (fun _ => kitAny_cons (b := false) (kit_ty (by decide +kernel)) (fun _ => kitAny_cons (b := true) (kit_ty (by decide +kernel)) (fun z => nomatch z) fun _ => rfl) fun z => nomatch z) fun z => nomatch z
  | _ => cases h
section
variable {P : Program} {w : World} {K : PySem.W.Frag} {mg : Str → Option Value} {base : Heap} {C M NV LE : Addr}
theorem scIsValue : FnScope ["value", "waiting", "part"] ["value"] (defScope sIsValue) := ⟨rfl, rfl, rfl, by decide +kernel, rfl, by decide +kernel, by decide +kernel⟩
theorem scIsSame : FnScope ["one", "other", "waiting", "left", "right"] ["one", "other"] (defScope sIsSame) := ⟨rfl, rfl, rfl, by decide +kernel, rfl, by decide +kernel, by decide +kernel⟩
theorem scal_flat {x y : V} {t u : String} (hx : vty x = some t) (hy : vty y = some u) (hb : isB x = isB y) : scal x y = true := by
  cases x <;> cases hx <;> cases y <;> cases hy <;> first | rfl | cases hb
end
end Dk

set_option maxHeartbeats 4000000
/-! is_value of nested tuples -/
namespace Dk
open PySem PySem.Spec PyProof.Rows L2
/-- the shape of a value of a cell -/
inductive Tr where
  | sc (v : V)
  | tup (l : List Tr)
mutual
def Tr.sz : Tr → Nat
  | .sc _ => 1
  | .tup l => 1 + szs l
def szs : List Tr → Nat
  | [] => 0
  | t :: l => t.sz + szs l
end
theorem _root_.L2.SqT.same {K : PySem.W.Frag} {H H' : Hp} {a : Addr} {xs : List V} (h : SqT K H a xs) (s : Same H H') : SqT K H' a xs :=
  h.elim (fun h => .inl (h.elim (fun h => .inl (s _ _ h)) fun ⟨o, h⟩ => .inr ⟨o, s _ _ h⟩)) fun h => .inr h
theorem tyT {K : PySem.W.Frag} {H : Hp} {a : Addr} {xs : List V} (h : SqT K H a xs) : TyX K H (.ref a) (.type "tuple") := by
  rcases h with (h | ⟨o, h⟩) | ⟨o, its, n, h, c, _⟩
  · exact .base (.tup h)
  · exact .fTuple h
  · exact .kTuple h c
mutual
inductive DV (K : PySem.W.Frag) (H : Hp) : V → Tr → Prop
  | sc {v : V} {t : String} : vty v = some t → DV K H v (.sc v)
  | tup {a : Addr} {xs : List V} {l : List Tr} : SqT K H a xs → DVs K H xs l → DV K H (.ref a) (.tup l)
inductive DVs (K : PySem.W.Frag) (H : Hp) : List V → List Tr → Prop
  | nil : DVs K H [] []
  | cons {x : V} {xs : List V} {t : Tr} {l : List Tr} : DV K H x t → DVs K H xs l → DVs K H (x :: xs) (t :: l)
end
mutual
theorem DV.ext {K : PySem.W.Frag} {H H' : Hp} (s : Same H H') : ∀ (t : Tr) (v : V), DV K H v t → DV K H' v t
  | .sc _, _, h => by
    cases h with
    | sc e => exact .sc e
  | .tup l, _, h => by
    cases h with
    | tup e d => exact .tup (e.same s) (DVs.ext s l _ d)
theorem DVs.ext {K : PySem.W.Frag} {H H' : Hp} (s : Same H H') : ∀ (l : List Tr) (xs : List V), DVs K H xs l → DVs K H' xs l
  | [], _, h => by
    cases h
    exact .nil
  | t :: l, _, h => by
    cases h with
    | cons d e => exact .cons (DV.ext s t _ d) (DVs.ext s l _ e)
end
theorem sz_pos (t : Tr) : 0 < t.sz := by
  cases t with
  | sc v => show 0 < 1; decide
  | tup l => show 0 < 1 + szs l; omega
theorem DVs.len {K : PySem.W.Frag} {H : Hp} : ∀ {xs : List V} {l : List Tr}, DVs K H xs l → xs.length = l.length ∧ xs.length ≤ szs l
  | _, _, .nil => ⟨rfl, Nat.le_refl _⟩
  | _, _, .cons (t := t) (l := l) d e => by
    have h := DVs.len e
    have p := sz_pos t
    refine ⟨by rw [List.length_cons, List.length_cons, h.1], ?_⟩
    show _ + 1 ≤ t.sz + szs l
    omega
theorem szs_app : ∀ (a b : List Tr), szs (a ++ b) = szs a + szs b
  | [], b => by show szs b = 0 + szs b; omega
  | t :: a, b => by
    show t.sz + szs (a ++ b) = t.sz + szs a + szs b
    rw [szs_app a b]
    omega
theorem DVs.app {K : PySem.W.Frag} {H : Hp} : ∀ {xs ys : List V} {l m : List Tr}, DVs K H xs l → DVs K H ys m → DVs K H (xs ++ ys) (l ++ m)
  | _, _, _, _, .nil, e => e
  | _, _, _, _, .cons d f, e => .cons d (DVs.app f e)
theorem DVs.last {K : PySem.W.Frag} {H : Hp} : ∀ {xs : List V} {l : List Tr} {y : V}, DVs K H xs l → xs[xs.length - 1]? = some y → ∃ m t, DVs K H xs.dropLast m ∧ DV K H y t ∧ szs l = szs m + t.sz
  | _, _, _, .nil, h => by simp at h
  | _, _, y, .cons (x := x) (xs := []) (t := t) d .nil, h => by
    have h : some x = some y := h
    cases h
    exact ⟨[], t, .nil, d, by show t.sz + 0 = 0 + t.sz; omega⟩
  | _, _, y, .cons (x := x) (xs := x2 :: xs) (t := t) (l := l) d e, h => by
    have h' : (x2 :: xs)[(x2 :: xs).length - 1]? = some y := h
    obtain ⟨m, t2, q1, q2, q3⟩ := DVs.last e h'
    exact ⟨t :: m, t2, .cons d q1, q2, by show t.sz + szs l = t.sz + szs m + t2.sz; omega⟩
theorem while_rel {c : TT} {tb : TS} {D : Ends} {σ : L2.St} {H : Hp} (W : Nat → L2.St → Hp → Prop) (h0 : ∃ m, W m σ H)
    (hs : ∀ m σ H, W m σ H → c σ H fun b H1 => if b = true then tb { D with nx := fun σ' H' => ∃ m', m' < m ∧ W m' σ' H', ct := fun σ' H' => ∃ m', m' < m ∧ W m' σ' H', bk := D.nx } σ H1 else D.nx σ H1)
    (mono : ∀ σ H Q Q', (∀ b H1, Q b H1 → Q' b H1) → c σ H Q → c σ H Q') : tWhile c tb D σ H := by
  refine ⟨W, h0, fun m σ H w => mono σ H _ _ (fun b H1 q => ?_) (hs m σ H w)⟩
  cases b with
  | true => exact ⟨_, fun σ' H' h => h, q⟩
  | false => exact q
/-- any value of a cell -/
def spIsValueD (K : PySem.W.Frag) : Sp := fun vs H Q _ => ∃ v t, vs = [v] ∧ DV K H v t ∧ t.sz < sizeLine ∧ ∀ H', Same H H' → Q (.bl true) H'
section
variable {P : Program} {w : World} {K : PySem.W.Frag} {mg : Str → Option Value} {base : Heap} {C M NV LE : Addr}
theorem go_isvalueD (F : GT K mg "is_value" sIsValue ["value"]) (T : Bn mg) : GO P w K mg base CX0 1 "is_value" ["value"] (spIsValueD K) := by
  obtain ⟨f, fd, F, hm, hb⟩ := F
  refine ⟨f, fd, ?_, hm, F.kp, hb⟩
  refine F.ok scIsValue (fun vs H Q E h => ?_) (fun cdv A outer s H vs Q E hr h => ?_)
  · obtain ⟨v, t, rfl, _⟩ := h
    rfl
  · obtain ⟨v, t, rfl, hd, hz, k⟩ := h
    refine ⟨_, pss_cons (ps_set (i := 1) scIsValue.nd rfl (Or.inl rfl) (pe_lst (pa_cons (pv 0) pa_nil)))
      (pss_cons (ps_while PassesOwn.never (pt_truth (pv 1) (by intro _; rfl))
        (pss_cons (ps_set (i := 2) scIsValue.nd rfl (Or.inl rfl) (pe_bm0 PySem.F.plainAttrs_list PySem.F.slot_list_pop PySem.F.type_list_pop mt_pop (pv 1)))
        (pss_one (ps_if (pt_val (pe_callB call_isi (by rfl) T.isi (by decide +kernel) (pa_cons (pv 2) (pa_cons (pe_bltn (v := .ty "tuple") (by rfl) T.tuple (by decide +kernel) rfl) pa_nil))))
          (pss_one (ps_expr (pe_bm PySem.F.plainAttrs_list PySem.F.slot_list_extend PySem.F.type_list_extend mt_extend (pv 1) (pa_cons (pe_callTy call_list_of (by rfl) T.list (by decide +kernel) (pa_cons (pv 2) pa_nil)) pa_nil))))
          (pss_one (ps_if (PW.pt (pw_and (pt_cmpR op_notN (pv 2) pe_non (nomark _)) (pw_and1 (pt_not (pt_val (pe_callB call_isiT (by rfl) T.isi (by decide +kernel) (pa_cons (pv 2) (pa_cons (pe_tup (pa_cons (pe_bltn (v := .ty "bool") (by rfl) T.bool (by decide +kernel) rfl)
            (pa_cons (pe_bltn (v := .ty "int") (by rfl) T.int (by decide +kernel) rfl) (pa_cons (pe_bltn (v := .ty "str") (by rfl) T.str (by decide +kernel) rfl) pa_nil)))) pa_nil))))))))
            (pss_one (ps_ret pe_bl)) pss_nil))))))
      (pss_one (ps_ret pe_bl))), ?_⟩
    refine ⟨_, rfl, (by show 1 ≤ sizeLine; decide), fun D hD => ?_⟩
    have s0 : Same H (upd H D (.lst [v])) := fun b o e => by rw [upd_ne (ne_of_none e hD)]; exact e
    dsimp only [gName, tSeq]
    refine while_rel (fun m σ H2 => Same H H2 ∧ ∃ (p : Option V) (xs : List V) (ts : List Tr), σ = [some v, some (.ref D), p] ∧ H2 D = some (.lst xs) ∧ DVs K H xs ts ∧ m = szs ts ∧ szs ts ≤ t.sz)
      ⟨_, s0, _, [v], [t], rfl, upd_same, .cons hd .nil, rfl, by show t.sz + 0 ≤ t.sz; omega⟩ ?_ ?_
    · rintro m σ H2 ⟨sm, p, xs, ts, rfl, hx, dv, rfl, hle⟩
      cases xs with
      | nil => exact ⟨_, rfl, false, .inl ⟨_, SqL.of hx, rfl⟩, iteF (k _ sm)⟩
      | cons x0 xr =>
        obtain ⟨y, hy⟩ : ∃ y, (x0 :: xr)[(x0 :: xr).length - 1]? = some y := ⟨_, List.getElem?_eq_getElem (by simp)⟩
        obtain ⟨ms, ty, q1, q2, q3⟩ := dv.last hy
        refine ⟨_, rfl, true, .inl ⟨_, SqL.of hx, rfl⟩, iteT ?_⟩
        refine ⟨_, rfl, .inl ⟨rfl, _, SqL.of hx⟩, D, _, y, rfl, rfl, hx, hy, ?_⟩
        have sp : ∀ {H3 : Hp} (l : List V), Same H H3 → Same H (upd H3 D (.lst l)) := fun {H3} l sm b o e => by rw [upd_ne (ne_of_none e hD)]; exact sm b o e
        have sm3 := sp (x0 :: xr).dropLast sm
        have pz := sz_pos ty
        generalize hH3 : upd H2 D (.lst (x0 :: xr).dropLast) = H3 at sm3 ⊢
        have hx3 : H3 D = some (.lst (x0 :: xr).dropLast) := by rw [← hH3]; exact upd_same
        cases q2 with
        | sc ht =>
          refine ⟨_, rfl, _, _, _, _, false, rfl, .ty "tuple", ty_of ht, kit_ty (notTup ht), _, rfl, iteF ?_⟩
          by_cases hn : y = .non
          · refine ⟨_, rfl, rfl, _, rfl, iteNS hn ?_⟩
            exact iteF ⟨_, by omega, sm3, _, _, ms, rfl, hx3, q1, rfl, by omega⟩
          · refine ⟨_, rfl, rfl, _, rfl, ?_⟩
            rw [decide_eq_false hn]
            refine iteT ⟨_, rfl, (by show 3 ≤ sizeLine; decide), fun q hq => ?_⟩
            have qD : D ≠ q := ne_of_none hx3 hq
            refine ⟨_, q, _, _, [.type "bool", .type "int", .type "str"], true, rfl, upd_same, .cons (.ty _) (.cons (.ty _) (.cons (.ty _) .nil)), ty_of ht, kit_ok ht hn K, _, rfl, iteF ?_⟩
            exact ⟨_, by omega, fun b o e => by rw [upd_ne (ne_of_none (sm3 b o e) hq)]; exact sm3 b o e, _, _, ms, rfl, by rw [upd_ne qD]; exact hx3, q1, rfl, by omega⟩
        | tup hq dl =>
          rename_i a ys l
          have ell := dl.len
          have em := q1.len
          have e3 : (Tr.tup l).sz = 1 + szs l := rfl
          refine ⟨_, rfl, _, _, _, _, true, rfl, .ty "tuple", tyT (hq.same sm3), kit_ty (by decide +kernel), _, rfl, iteT ?_⟩
          refine ⟨_, rfl, .inl ⟨rfl, _, SqL.of hx3⟩, _, rfl, a, ys, rfl, .inr (hq.same sm3), fun b hb => ?_⟩
          have bD : D ≠ b := ne_of_none hx3 hb
          have sb : Same H (upd H3 b (.lst ys)) := fun c o e => by rw [upd_ne (ne_of_none (sm3 c o e) hb)]; exact sm3 c o e
          refine ⟨D, b, _, ys, rfl, rfl, by rw [upd_ne bD]; exact hx3, upd_same, by omega, ?_⟩
          exact ⟨szs (ms ++ l), by rw [szs_app]; omega, sp _ sb, _, _, ms ++ l, rfl, upd_same, q1.app dl, rfl, by rw [szs_app]; omega⟩
    · rintro σ H2 Q1 Q2 imp ⟨x, e, kk, t, q⟩
      exact ⟨x, e, kk, t, imp _ _ q⟩
end
end Dk

set_option maxHeartbeats 4000000
/-! list(zip(a, b)) of two tuples: every pair is kept, so the zip makes a new one each time -/
namespace Lz
open PySem PySem.Spec PyProof.Rows L2
/-- a zip that has handed out the pair at T, which is still held -/
abbrev ZH (h : Heap) (z TI TO T : Addr) (b : Bool) : Prop :=
  h.get? z = some { cls := .type "zip", dict := none, data := .fields #[rawInt T, .bool b, .bool false, .ref TI, .ref TO], slots := #[] }
section
variable {prog : Program} {w : World} {A : Around} {E : Value → Shared → Prop} {s : Shared}
theorem alive {M : Model} {a : Addr} {o : Obj} {Q : Option Obj → Shared → Prop} (ho : s.heap.get? a = some o) (h : Q (some o) s) : wpAny M A (loadIfAlive a) Q E s := fun Γ p _ => by
  unfold loadIfAlive
  rw [Sem.wp_loadIfAlive, ho]
  exact h
theorem held {z TI TO T : Addr} {b : Bool} {o : Obj} {Q : Bool → Shared → Prop} (hz : ZH s.heap z TI TO T b) (hT : s.heap.get? T = some o)
    (h : ∀ h', ZH h' z TI TO T true → Heap.SameBut z s.heap h' → Q false { s with heap := h' }) : wpAny (model prog w) A (Builtin.SmallTypes.ownedTupleIsFree (.ref z)) Q E s := by
  unfold Builtin.SmallTypes.ownedTupleIsFree
  refine wpAny_bind (wpAny_field hz rfl (x := rawInt T) rfl ?_)
  show wpAny _ _ (loadIfAlive ((T : Int).toNat) >>= _) _ _ _
  rw [Int.toNat_natCast]
  refine wpAny_bind (alive hT ?_)
  show wpAny _ _ (field (.ref z) 1 >>= _) _ _ _
  refine wpAny_bind (wpAny_field hz rfl (x := .bool b) rfl ?_)
  cases b with
  | true =>
    show wpAny _ _ (pure false) _ _ _
    exact wpAny_pure (h s.heap hz ⟨rfl, fun _ _ => rfl⟩)
  | false =>
    show wpAny _ _ (setField (.ref z) 1 (.bool true) >>= fun _ => pure false) _ _ _
    refine wpAny_bind (wpAny_setField_rec hz (by simp) fun h1 hz1 hs1 => wpAny_pure (h h1 hz1 hs1))
/-- the next pair, while an elder one is held -/
theorem next {z TI TO T i1 i2 l1 l2 : Addr} {k1 k2 : Nat} {xs ys : Array Value} {x y : Value} {b : Bool} {o : Obj} {Q : Value → Shared → Prop} (D : ZipApart z TI TO i1 i2 l1 l2)
    (hz : ZH s.heap z TI TO T b) (hT : s.heap.get? T = some o) (hTI : IsPair s.heap TI (.ref i1) (.ref i2))
    (h1 : s.heap.IsTupleIter i1 l1 k1) (h2 : s.heap.IsTupleIter i2 l2 k2) (hl1 : s.heap.IsTuple l1 xs) (hl2 : s.heap.IsTuple l2 ys) (hx : xs[k1]? = some x) (hy : ys[k2]? = some y)
    (hQ : ∀ h', ZH h' z TI TO T true → h'.IsTupleIter i1 l1 (k1 + 1) → h'.IsTupleIter i2 l2 (k2 + 1) → IsPair h' s.heap.objs.size x y → h'.objs.size = s.heap.objs.size + 1 →
      (∀ c u, c ≠ z → c ≠ i1 → c ≠ i2 → s.heap.get? c = some u → h'.get? c = some u) → Q (.ref s.heap.objs.size) { s with heap := h' }) :
    wpAny (model prog w) A (Builtin.«zip.__next__» ⟨[.ref z], []⟩) (fun fin s' => ∃ v, fin = .done (.ret v) ∧ Q v s') E s := by
  show wpAny _ _ (field (.ref z) 2 >>= _) _ _ _
  refine wpAny_bind (wpAny_field hz rfl (x := .bool false) rfl ?_)
  show wpAny _ _ (field (.ref z) 3 >>= _) _ _ _
  refine wpAny_bind (wpAny_field hz rfl (x := .ref TI) rfl ?_)
  refine wpAny_bind (wpAny_seqItems hTI rfl ?_)
  show wpAny _ _ (Builtin.SmallTypes.ownedTupleIsFree (.ref z) >>= _) _ _ _
  refine wpAny_bind (held hz hT fun ha hza hsa => ?_)
  simp only [Bool.false_eq_true, if_false]
  have a1 := h1.extBut hsa.extBut D.i1z
  have a2 := h2.extBut hsa.extBut D.i2z
  have b1 := hl1.extBut hsa.extBut D.l1z
  have b2 := hl2.extBut hsa.extBut D.l2z
  refine wpAny_bind ?_
  simp only [List.forIn_toArray, List.forIn_cons, List.forIn_nil]
  refine wpAny_bind (wpAny_bind (wpAny_holding ?_))
  show wpAny _ _ (Builtin.SmallTypes.nextOf (.ref i1) >>= fun v => pure (some v)) _ _ _
  refine wpAny_bind (RZ.nextOf_tuple_item a1 b1 hx fun hb c1 sb => wpAny_pure ?_)
  refine wpAny_pure ?_
  refine wpAny_bind (wpAny_bind (wpAny_holding ?_))
  show wpAny _ _ (Builtin.SmallTypes.nextOf (.ref i2) >>= fun v => pure (some v)) _ _ _
  refine wpAny_bind (RZ.nextOf_tuple_item (a2.extBut sb.extBut D.i12.symm) (b2.extBut sb.extBut D.l2i1) hy fun hc c2 sc => wpAny_pure ?_)
  refine wpAny_pure ?_
  refine wpAny_pure ?_
  refine wpAny_bind (wpAny_newTuple ?_ (by show 2 ≤ sizeLine; decide))
  have sz : hc.objs.size = s.heap.objs.size := (sc.1.trans sb.1).trans hsa.1
  have up : ∀ {c : Addr} {u : Obj}, hc.get? c = some u → (hc.push { cls := .type "tuple", data := .seq [x, y].toArray }).get? c = some u := fun e => Heap.get?_push_of_some _ e
  refine wpAny_pure ⟨_, rfl, ?_⟩
  show Q (.ref hc.objs.size) _
  rw [sz]
  refine hQ _ (up (sc.extBut _ _ D.i2z.symm (sb.extBut _ _ D.i1z.symm hza))) ((c1.extBut sc.extBut D.i12).at fun u e => up e) (c2.at fun u e => up e) ?_ ?_ fun c u h1 h2 h3 e => up (sc.extBut _ _ h3 (sb.extBut _ _ h2 (hsa.extBut _ _ h1 e)))
  · rw [← sz]
    exact Heap.get?_push_size _ rfl
  · show (hc.push _).objs.size = _
    rw [Heap.size_push, sz]
/-- no pair is left -/
theorem last {z TI TO T i1 i2 l1 l2 : Addr} {k1 : Nat} {xs : Array Value} {b : Bool} {o : Obj} {Q : Fin → Shared → Prop} (hh : A.handled = none) (D : ZipApart z TI TO i1 i2 l1 l2)
    (hz : ZH s.heap z TI TO T b) (hT : s.heap.get? T = some o) (hTI : IsPair s.heap TI (.ref i1) (.ref i2)) (h1 : s.heap.IsTupleIter i1 l1 k1) (hl1 : s.heap.IsTuple l1 xs) (hx : xs[k1]? = none)
    (hE : ∀ h' e, (∀ c u, c ≠ z → c ≠ i1 → s.heap.get? c = some u → h'.get? c = some u) → (∃ u, h'.get? e = some u ∧ u.cls = .type "StopIteration") → E (.ref e) { s with heap := h' }) :
    wpAny (model prog w) A (Builtin.«zip.__next__» ⟨[.ref z], []⟩) Q E s := by
  show wpAny _ _ (field (.ref z) 2 >>= _) _ _ _
  refine wpAny_bind (wpAny_field hz rfl (x := .bool false) rfl ?_)
  show wpAny _ _ (field (.ref z) 3 >>= _) _ _ _
  refine wpAny_bind (wpAny_field hz rfl (x := .ref TI) rfl ?_)
  refine wpAny_bind (wpAny_seqItems hTI rfl ?_)
  show wpAny _ _ (Builtin.SmallTypes.ownedTupleIsFree (.ref z) >>= _) _ _ _
  refine wpAny_bind (held hz hT fun ha hza hsa => ?_)
  simp only [Bool.false_eq_true, if_false]
  refine wpAny_bind ?_
  simp only [List.forIn_toArray, List.forIn_cons, List.forIn_nil]
  refine wpAny_bind (wpAny_bind (wpAny_holding ?_))
  show wpAny _ _ (Builtin.SmallTypes.nextOf (.ref i1) >>= fun v => pure (some v)) _ _ _
  exact wpAny_bind (RZ.nextOf_tuple_end hh (h1.extBut hsa.extBut D.i1z) (hl1.extBut hsa.extBut D.l1z) hx fun h' e hk he => hE h' e (fun c u q1 q2 q => hk _ _ q2 (hsa.extBut _ _ q1 q)) he)
theorem pyNext_held {z TI TO T i1 i2 l1 l2 : Addr} {k1 k2 : Nat} {xs ys : Array Value} {x y : Value} {b : Bool} {o : Obj} {Q : Option Value → Shared → Prop} (D : ZipApart z TI TO i1 i2 l1 l2)
    (hz : ZH s.heap z TI TO T b) (hT : s.heap.get? T = some o) (hTI : IsPair s.heap TI (.ref i1) (.ref i2))
    (h1 : s.heap.IsTupleIter i1 l1 k1) (h2 : s.heap.IsTupleIter i2 l2 k2) (hl1 : s.heap.IsTuple l1 xs) (hl2 : s.heap.IsTuple l2 ys) (hx : xs[k1]? = some x) (hy : ys[k2]? = some y)
    (hQ : ∀ h', ZH h' z TI TO T true → h'.IsTupleIter i1 l1 (k1 + 1) → h'.IsTupleIter i2 l2 (k2 + 1) → IsPair h' s.heap.objs.size x y → h'.objs.size = s.heap.objs.size + 1 →
      (∀ c u, c ≠ z → c ≠ i1 → c ≠ i2 → s.heap.get? c = some u → h'.get? c = some u) → Q (some (.ref s.heap.objs.size)) { s with heap := h' }) :
    wpAny (model prog w) A (pyNext (.ref z)) Q E s := by
  have ty : s.TypeIs (.ref z) "zip" := ⟨_, hz, rfl⟩
  unfold pyNext
  exact wpAny_bind (wpAny_attempt (wpAny_callSpecial?_slot (name := Str.ofString "__next__") ty PySem.F.slot_zip_next (wpAny_call_entry PySem.F.slot_zip_next ty PySem.F.entry_zip_next
    (next D hz hT hTI h1 h2 hl1 hl2 hx hy fun h' q1 q2 q3 q4 q5 q6 => wpAny_pure (hQ h' q1 q2 q3 q4 q5 q6)) (PySem.F.args_zip_next_1 _))))
theorem pyNext_last {z TI TO T i1 i2 l1 l2 : Addr} {k1 : Nat} {xs : Array Value} {b : Bool} {o : Obj} {Q : Option Value → Shared → Prop} (hh : A.handled = none) (D : ZipApart z TI TO i1 i2 l1 l2)
    (hz : ZH s.heap z TI TO T b) (hT : s.heap.get? T = some o) (hTI : IsPair s.heap TI (.ref i1) (.ref i2)) (h1 : s.heap.IsTupleIter i1 l1 k1) (hl1 : s.heap.IsTuple l1 xs) (hx : xs[k1]? = none)
    (hQ : ∀ h', (∀ c u, c ≠ z → c ≠ i1 → s.heap.get? c = some u → h'.get? c = some u) → Q none { s with heap := h' }) : wpAny (model prog w) A (pyNext (.ref z)) Q E s := by
  have ty : s.TypeIs (.ref z) "zip" := ⟨_, hz, rfl⟩
  unfold pyNext
  refine wpAny_bind (wpAny_attempt (wpAny_callSpecial?_slot (name := Str.ofString "__next__") ty PySem.F.slot_zip_next (wpAny_call_entry PySem.F.slot_zip_next ty PySem.F.entry_zip_next
    (last hh D hz hT hTI h1 hl1 hx fun h' e hk he => ?_) (PySem.F.args_zip_next_1 _))))
  obtain ⟨u, hu, hcu⟩ := he
  exact wpAny_bind (wpAny_isInstance (T := "StopIteration") (b := true) ⟨u, hu, hcu⟩ isSubtype_stop (wpAny_pure (hQ _ hk)))
end
end Lz

set_option maxHeartbeats 4000000
/-! list(zip(a, b)) of two tuples of one length -/
namespace Lz
open PySem PySem.Spec PyProof.Rows L2
theorem zip_no_len : typeLookup (.type "zip") "__len__" = pure none := by rw [typeLookup_type, builtinLookup_eq_fast]; kernel_rfl
theorem zip_no_hint : typeLookup (.type "zip") "__length_hint__" = pure none := by rw [typeLookup_type, builtinLookup_eq_fast]; kernel_rfl
/-- the zip z at its i-th turn; S is the list that grows -/
def ZS (h : Heap) (S z TI TO i1 i2 a b : Addr) (i : Nat) : Prop := TO < h.objs.size ∧ IsPair h TI (.ref i1) (.ref i2) ∧ h.IsTupleIter i1 a i ∧ h.IsTupleIter i2 b i ∧
  ((IsZip h z TI TO .none ∧ ∃ x y, IsPair h TO x y) ∨ ∃ T o k, ZH h z TI TO T k ∧ h.get? T = some o ∧ T ≠ S)
section
variable {X : Cx} {pins : List (Addr × Obj)} {σ : L2.St} {H : Hp} {s : Shared} {A : Around} {E : Value → Shared → Prop}
theorem turn {S z TI TO i1 i2 a b : Addr} {i : Nat} {xs ys : List V} {x y : V} {Q : Option Value → Shared → Prop} (D : ZipApart z TI TO i1 i2 a b) (I : Inv X pins σ H s) (hf : ∀ c ∈ [z, TI, TO, i1, i2], FpOk X pins H c) (st : ZS s.heap S z TI TO i1 i2 a b i)
    (hS : S < s.heap.objs.size) (qx : SqT X.K H a xs) (qy : SqT X.K H b ys) (hx : xs[i]? = some x) (hy : ys[i]? = some y)
    (hQ : ∀ (T : Addr) (s' : Shared), H T = none → Inv X pins σ (upd H T (.tup [x, y])) s' → (∀ c ∈ [z, TI, TO, i1, i2], FpOk X pins (upd H T (.tup [x, y])) c) → ZS s'.heap S z TI TO i1 i2 a b (i + 1) → S < s'.heap.objs.size → Q (some (.ref T)) s') :
    wpAny (model X.prog X.w) A (pyNext (.ref z)) Q E s := by
  obtain ⟨its, rv, p, _⟩ := I.tuple qx
  obtain ⟨its2, rv2, p2, _⟩ := I.tuple qy
  obtain ⟨u, hu, ru⟩ := rv.get hx
  obtain ⟨u2, hu2, ru2⟩ := rv2.get hy
  obtain ⟨hO, hTI, h1, h2, hz⟩ := st
  have new : ∀ (h' : Heap), h'.get? s.heap.objs.size = some { cls := .type "tuple", data := .seq #[u, u2] } → ObjOk X.prog X.w (upd H s.heap.objs.size (.tup [x, y])) h' s.heap.objs.size (.tup [x, y]) := fun h' e =>
    ⟨by show 2 ≤ sizeLine; decide, [u, u2], .cons ru (.cons ru2 .nil), ⟨_, e, rfl, _, rfl⟩⟩
  have lt : ∀ c ∈ [z, TI, TO, i1, i2], H c = none ∧ (c < s.heap.objs.size → FpOk X pins (upd H s.heap.objs.size (.tup [x, y])) c) := fun c hc => by
    obtain ⟨e1, e2⟩ := hf c hc
    refine ⟨e1, fun hl => ⟨?_, e2⟩⟩
    rw [upd_ne (Nat.ne_of_lt hl)]
    exact e1
  have hn : H s.heap.objs.size = none := I.hok.fresh (Nat.le_refl _)
  have l1 : i1 < s.heap.objs.size := by obtain ⟨_, e, _⟩ := h1; exact Heap.lt_size e
  have l2 : i2 < s.heap.objs.size := by obtain ⟨_, e, _⟩ := h2; exact Heap.lt_size e
  have hzl : z < s.heap.objs.size := by
    rcases hz with ⟨e, _⟩ | ⟨_, _, _, e, _⟩
    · exact Heap.lt_size e
    · exact Heap.lt_size e
  have fp : ∀ c ∈ [z, TI, TO, i1, i2], FpOk X pins (upd H s.heap.objs.size (.tup [x, y])) c := fun c hc => by
    refine (lt c hc).2 ?_
    have e' : c = z ∨ c = TI ∨ c = TO ∨ c = i1 ∨ c = i2 := by simpa using hc
    rcases e' with e | e | e | e | e <;> rw [e]
    · exact hzl
    · exact Heap.lt_size hTI
    · exact hO
    · exact l1
    · exact l2
  have gr : ∀ {h' : Heap} {c : Addr}, h'.objs.size = s.heap.objs.size + 1 → c < s.heap.objs.size → c < h'.objs.size := fun {h' c} e q => by
    rw [e]
    exact Nat.lt_succ_of_lt q
  rcases hz with ⟨hz, x0, y0, hTO⟩ | ⟨T, o, k, hz, hT, hTS⟩
  · refine RZ.pyNext_zipT_item D hz hTI hTO h1 h2 p p2 (x := u) (y := u2) (by simpa using hu) (by simpa using hu2) fun h' z' TO' h1' h2' hT' hsz hk => ?_
    exact hQ _ _ hn (I.turnedNew (t' := s.toks) (ch := [z, TI, TO, i1, i2]) (fun c o hb q => hk c o (fun q' => hb (by simp [q'])) (fun q' => hb (by simp [q'])) (fun q' => hb (by simp [q'])) (fun q' => hb (by simp [q'])) q) hf (Nat.le_refl _) (new h' hT')) fp
      ⟨gr hsz hO, hk _ _ D.TIz D.TITO D.TIi1 D.TIi2 hTI, h1', h2', .inr ⟨_, _, _, z', hT', (Nat.ne_of_lt hS).symm⟩⟩ (gr hsz hS)
  · have Tz : T ≠ z ∧ T ≠ i1 ∧ T ≠ i2 ∨ ∃ o', s.heap.get? T = some o' := .inr ⟨o, hT⟩
    refine pyNext_held D hz hT hTI h1 h2 p p2 (x := u) (y := u2) (by simpa using hu) (by simpa using hu2) fun h' z' h1' h2' hT' hsz hk => ?_
    obtain ⟨o', ho'⟩ : ∃ o', h'.get? T = some o' := by
      by_cases e1 : T = z
      · rw [e1]
        exact ⟨_, z'⟩
      · by_cases e2 : T = i1
        · obtain ⟨o1, e, _⟩ := h1'
          rw [e2]
          exact ⟨o1, e⟩
        · by_cases e3 : T = i2
          · obtain ⟨o1, e, _⟩ := h2'
            rw [e3]
            exact ⟨o1, e⟩
          · exact ⟨o, hk _ _ e1 e2 e3 hT⟩
    exact hQ _ _ hn (I.turnedNew (t' := s.toks) (ch := [z, TI, TO, i1, i2]) (fun c o hb q => hk c o (fun q' => hb (by simp [q'])) (fun q' => hb (by simp [q'])) (fun q' => hb (by simp [q'])) q) hf (Nat.le_refl _) (new h' hT')) fp
      ⟨gr hsz hO, hk _ _ D.TIz D.TIi1 D.TIi2 hTI, h1', h2', .inr ⟨T, o', _, z', ho', hTS⟩⟩ (gr hsz hS)
/-- the zip has ended -/
theorem stop {S z TI TO i1 i2 a b : Addr} {i : Nat} {xs ys : List V} {Q : Option Value → Shared → Prop} (hh : A.handled = none) (D : ZipApart z TI TO i1 i2 a b) (I : Inv X pins σ H s) (hf : ∀ c ∈ [z, TI, TO, i1, i2], FpOk X pins H c) (st : ZS s.heap S z TI TO i1 i2 a b i)
    (qx : SqT X.K H a xs) (qy : SqT X.K H b ys) (hx : xs.length ≤ i) (hQ : ∀ s', Inv X pins σ H s' → Q none s') : wpAny (model X.prog X.w) A (pyNext (.ref z)) Q E s := by
  obtain ⟨its, rv, p, _⟩ := I.tuple qx
  obtain ⟨its2, rv2, p2, _⟩ := I.tuple qy
  have hl := rv.length
  have hn : its.toArray[i]? = none := by simp; omega
  obtain ⟨hO, hTI, h1, h2, ⟨hz, x0, y0, hTO⟩ | ⟨T, o, k, hz, hT, hTS⟩⟩ := st
  · exact RZ.pyNext_zipT_end hh D hz hTI hTO h1 h2 p p2 (.inl hn) fun h' hk => hQ _ (I.turnedL (t' := s.toks) (ch := [z, TI, TO, i1, i2]) (fun c o hb q => hk c o (fun q' => hb (by simp [q'])) (fun q' => hb (by simp [q'])) (fun q' => hb (by simp [q'])) (fun q' => hb (by simp [q'])) q) hf)
  · exact pyNext_last hh D hz hT hTI h1 p hn fun h' hk => hQ _ (I.turnedL (t' := s.toks) (ch := [z, TI, TO, i1, i2]) (fun c o hb q => hk c o (fun q' => hb (by simp [q'])) (fun q' => hb (by simp [q'])) q) hf)
end
end Lz

set_option maxHeartbeats 4000000
/-! list(zip(a, b)): the loop, the call -/
namespace Lz
open PySem PySem.Spec PyProof.Rows L2
def Prs (H0 H : Hp) (S : Addr) (qs : List Addr) (xs ys : List V) : Prop := ∀ (j : Nat) (q : Addr), qs[j]? = some q → H0 q = none ∧ q ≠ S ∧ ∃ x y, xs[j]? = some x ∧ ys[j]? = some y ∧ H q = some (.tup [x, y])
theorem ZS.upd {h : Heap} {S z TI TO i1 i2 a b : Addr} {i : Nat} {f : Obj → Obj} (st : ZS h S z TI TO i1 i2 a b i) (hz : z ≠ S) (hTI : TI ≠ S) (h1 : i1 ≠ S) (h2 : i2 ≠ S) (hTO : TO ≠ S) : ZS (h.update S f) S z TI TO i1 i2 a b i := by
  have o : ∀ {c : Addr} {u : Obj}, c ≠ S → h.get? c = some u → (h.update S f).get? c = some u := fun {c u} n e => (Heap.get?_update_other h f (Ne.symm n)).trans e
  obtain ⟨q1, q2, q3, q4, q5⟩ := st
  refine ⟨?_, o hTI q2, q3.at fun u e => o h1 e, q4.at fun u e => o h2 e, ?_⟩
  · rw [Heap.size_after_update]
    exact q1
  · rcases q5 with ⟨e1, x, y, e2⟩ | ⟨T, u, k, e1, e2, e3⟩
    · exact .inl ⟨o hz e1, x, y, o hTO e2⟩
    · exact .inr ⟨T, u, k, o hz e1, o e3 e2, e3⟩
section
variable {X : Cx} {pins : List (Addr × Obj)} {σ : L2.St}
theorem grow {A1 : Around} {Rs : Result → Shared → Prop} {S z TI TO i1 i2 a b : Addr} {xs ys : List V} {H0 : Hp} (hh : A1.in1.handled = none) (D : ZipApart z TI TO i1 i2 a b) (hl : xs.length = ys.length) (hz : xs.length < sizeLine) (h0 : H0 S = none) (qx : SqT X.K H0 a xs) (qy : SqT X.K H0 b ys)
    (done : ∀ (qs : List Addr) (H : Hp) (s : Shared), Inv X pins σ H s → H S = some (.lst (qs.map V.ref)) → qs.length = xs.length → Prs H0 H S qs xs ys → (∀ c o, H0 c = some o → H c = some o) → Rs (.ok (.ret .none)) s) :
    ∀ (m i : Nat) (qs : List Addr) (H : Hp) (s : Shared), i + m = xs.length → qs.length = i → Inv X pins σ H s → H S = some (.lst (qs.map V.ref)) → S < s.heap.objs.size → (∀ c ∈ [z, TI, TO, i1, i2], FpOk X pins H c) → ZS s.heap S z TI TO i1 i2 a b i →
      Prs H0 H S qs xs ys → (∀ c o, H0 c = some o → H c = some o) → codeAny (model X.prog X.w) A1 (.builtin "list.extend.loop" ⟨[.ref S, .ref z, .none], []⟩) Rs s
  | 0, i, qs, H, s, hi, hq, I, hS, lt, fp, st, pr, ex => by
    refine codeAny_builtin PySem.F.entry_extend_loop ?_
    rw [Around.under_plainId PySem.F.plain_extend_loop _]
    show wpAny _ A1.in1 (pyNext (.ref z) >>= _) _ _ s
    exact wpAny_bind (stop hh D I fp st (qx.ext ex) (qy.ext ex) (by omega) fun s' I' => wpAny_pure (done qs H s' I' hS (by omega) pr ex))
  | m + 1, i, qs, H, s, hi, hq, I, hS, lt, fp, st, pr, ex => by
    refine codeAny_builtin PySem.F.entry_extend_loop ?_
    rw [Around.under_plainId PySem.F.plain_extend_loop _]
    show wpAny _ A1.in1 (pyNext (.ref z) >>= _) _ _ s
    have hx : xs[i]? = some xs[i] := List.getElem?_eq_getElem (by omega)
    have hy : ys[i]? = some ys[i] := List.getElem?_eq_getElem (by omega)
    refine wpAny_bind (turn D I fp st lt (qx.ext ex) (qy.ext ex) hx hy fun T s' hT I' fp' st' lt' => ?_)
    show wpAny _ A1.in1 (updateSeq S (·.push (.ref T)) >>= _) _ _ _
    have ST : S ≠ T := ne_of_none hS hT
    have hS' : upd H T (.tup [xs[i], ys[i]]) S = some (.lst (qs.map V.ref)) := by rw [upd_ne ST]; exact hS
    obtain ⟨_, its, k, r2, hl2, e⟩ := I'.lstM hS'
    rw [List.length_map] at hl2
    have nS : ∀ c ∈ [z, TI, TO, i1, i2], c ≠ S := fun c hc q => by
      have := (fp' c hc).1
      rw [q, hS'] at this
      cases this
    refine wpAny_bind (wpAny_updateSeq e rfl (wpAny_pure ⟨plainId_quiet PySem.F.plain_extend_loop _, ?_⟩) (by rw [List.size_toArray]; omega) (by show (its.toArray.push (Value.ref T)).size ≤ sizeLine + 1; rw [Array.size_push, List.size_toArray]; omega))
    refine grow hh D hl hz h0 qx qy done m (i + 1) (qs ++ [T]) _ _ (by omega) (by rw [List.length_append, hq]; rfl) (I'.lset (its' := its ++ [.ref T]) (ys := (qs ++ [T]).map V.ref) (t' := s'.toks) hS' e (by simp) (by rw [List.map_append]; exact r2.append (.cons rfl .nil)) (by rw [List.length_map, List.length_append, List.length_singleton]; omega))
      upd_same (by show S < (s'.heap.update S _).objs.size; rw [Heap.size_after_update]; exact lt') (fun c hc => ?_) (st'.upd (nS _ (by simp)) (nS _ (by simp)) (nS _ (by simp)) (nS _ (by simp)) (nS _ (by simp))) (fun j q hj => ?_) fun c o hc => ?_
    · obtain ⟨e1, e2⟩ := fp' c hc
      exact ⟨by rw [upd_ne (nS c hc)]; exact e1, e2⟩
    · by_cases c : j < qs.length
      · rw [List.getElem?_append_left c] at hj
        obtain ⟨p1, p2, x, y, p3, p4, p5⟩ := pr j q hj
        refine ⟨p1, p2, x, y, p3, p4, ?_⟩
        rw [upd_ne p2, upd_ne (ne_of_none p5 hT)]
        exact p5
      · rw [List.getElem?_append_right (by omega)] at hj
        have hj1 : j - qs.length = 0 := by
          have := (List.getElem?_eq_some_iff.mp hj).1
          simp at this
          omega
        rw [hj1] at hj
        have hj2 : T = q := Option.some.inj hj
        subst hj2
        have hji : j = i := by omega
        subst hji
        refine ⟨?_, ST.symm, _, _, hx, hy, by rw [upd_ne ST.symm, upd_same]⟩
        cases e0 : H0 T with
        | none => rfl
        | some o =>
          rw [ex _ _ e0] at hT
          cases hT
    · have cS : c ≠ S := ne_of_none hc h0
      rw [upd_ne cS, upd_ne (ne_of_none (ex _ _ hc) hT)]
      exact ex _ _ hc
end
end Lz

set_option maxHeartbeats 4000000
/-! list(zip(a, b)): the rule -/
namespace Lz
open PySem PySem.Spec PyProof.Rows L2
section
variable {X : Cx} {pins : List (Addr × Obj)} {σ : L2.St} {H : Hp} {s : Shared}
theorem fresh_list {z TI TO i1 i2 a b : Addr} {xs ys : List V} {Q : VK} (hc : X.calm = true) (D : ZipApart z TI TO i1 i2 a b) (I : Inv X pins σ H s) (fp : ∀ c ∈ [z, TI, TO, i1, i2], FpOk X pins H c)
    (hz : IsZip s.heap z TI TO .none) (hTI : IsPair s.heap TI (.ref i1) (.ref i2)) (hTO : IsPair s.heap TO .none .none) (h1 : s.heap.IsTupleIter i1 a 0) (h2 : s.heap.IsTupleIter i2 b 0)
    (qx : SqT X.K H a xs) (qy : SqT X.K H b ys) (hl : xs.length = ys.length) (hlt : xs.length < sizeLine)
    (k : ∀ (S : Addr) (qs : List Addr) (H2 : Hp), H S = none → H2 S = some (.lst (qs.map V.ref)) → qs.length = xs.length → Prs H H2 S qs xs ys → (∀ c o, H c = some o → H2 c = some o) → Q (.ref S) H2) :
    wpAny (model X.prog X.w) X.A (call (.type "list") [.ref z]) (EP X pins σ Q) X.xe s := by
  refine callType_codes (Q₁ := fun obj s₁ => obj = .ref s.heap.objs.size ∧ s₁ = { s with heap := s.heap.push { cls := .type "list", data := .seq #[] } }) PySem.F.called_list (PySem.F.typeCall_list_1 _) PySem.F.entry_list_init (code_list_new _ ⟨rfl, rfl⟩) fun obj s₁ hob => ?_
  obtain ⟨rfl, rfl⟩ := hob
  have fr : H s.heap.objs.size = none := I.hok.fresh (Nat.le_refl _)
  have lS : ({ s with heap := s.heap.push { cls := .type "list", data := .seq #[] } } : Shared).heap.get? s.heap.objs.size = some { cls := .type "list", data := .seq #[] } := Heap.get?_push_size _ rfl
  refine ⟨⟨_, lS, rfl⟩, PySem.F.args_list_init_2 _ _, ?_⟩
  have J : Inv X pins σ (upd H s.heap.objs.size (.lst [])) { s with heap := s.heap.push { cls := .type "list", data := .seq #[] } } := I.lnew (its := []) (t' := s.toks) .nil (Nat.zero_le _)
  have zl := Heap.lt_size hz
  have tl := Heap.lt_size hTI
  have ol := Heap.lt_size hTO
  have il : i1 < s.heap.objs.size := by obtain ⟨_, e, _⟩ := h1; exact Heap.lt_size e
  have jl : i2 < s.heap.objs.size := by obtain ⟨_, e, _⟩ := h2; exact Heap.lt_size e
  have nS : ∀ c ∈ [z, TI, TO, i1, i2], c ≠ s.heap.objs.size := fun c hc => by
    have e' : c = z ∨ c = TI ∨ c = TO ∨ c = i1 ∨ c = i2 := by simpa using hc
    rcases e' with e | e | e | e | e <;> rw [e]
    · exact Nat.ne_of_lt zl
    · exact Nat.ne_of_lt tl
    · exact Nat.ne_of_lt ol
    · exact Nat.ne_of_lt il
    · exact Nat.ne_of_lt jl
  have up : ∀ {c : Addr} {u : Obj}, s.heap.get? c = some u → (s.heap.push { cls := .type "list", data := .seq #[] }).get? c = some u := fun e => Heap.get?_push_of_some _ e
  have st0 : ZS (s.heap.push { cls := .type "list", data := .seq #[] }) s.heap.objs.size z TI TO i1 i2 a b 0 :=
    ⟨by rw [Heap.size_push]; exact Nat.lt_succ_of_lt ol, up hTI, h1.at fun o e => up e, h2.at fun o e => up e, .inl ⟨up hz, _, _, up hTO⟩⟩
  generalize hSz : s.heap.objs.size = S at *
  have hh : X.A.in1.in1.handled = none := I.ok.hd hc
  show wpAny _ X.A.in1.in1 (do let old ← Builtin.List.listItems (.ref S); Builtin.List.listUpdate (.ref S) (fun _ => #[]); letGo old.toList.reverse; Builtin.List.listExtendWith (.ref S) (.ref z) .none) _ _ _
  have sz1 : S < (s.heap.push { cls := .type "list", data := .seq #[] }).objs.size := by
    rw [Heap.size_push, hSz]
    exact Nat.lt_succ_self S
  have zh := up hz
  generalize s.heap.push { cls := .type "list", data := .seq #[] } = hp at *
  refine wpAny_bind ?_
  unfold Builtin.List.listItems
  refine wpAny_bind (wpAny_seqItems lS rfl (wpAny_pure ?_))
  show wpAny _ _ (updateSeq S (fun _ => #[]) >>= fun _ => letGo (#[] : Array Value).toList.reverse >>= fun _ => Builtin.List.listExtendWith (.ref S) (.ref z) .none) _ _ _
  refine wpAny_bind (wpAny_updateSeq lS rfl ?_)
  have J1 := J.lset (f := fun _ => #[]) (its := []) (its' := []) (ys := []) (t' := s.toks) upd_same lS rfl .nil (Nat.zero_le _)
  rw [upd_upd] at J1
  have nz := nS z (by simp)
  have u1 := st0.upd (f := Obj.mapSeq (fun _ => (#[] : Array Value))) nz (nS _ (by simp)) (nS _ (by simp)) (nS _ (by simp)) (nS _ (by simp))
  have z1 : S < (hp.update S (Obj.mapSeq (fun _ => (#[] : Array Value)))).objs.size := by rw [Heap.size_after_update]; exact sz1
  have zz : IsZip (hp.update S (Obj.mapSeq (fun _ => (#[] : Array Value)))) z TI TO .none := (Heap.get?_update_other _ _ (Ne.symm nz)).trans zh
  generalize hp.update S (Obj.mapSeq (fun _ => (#[] : Array Value))) = hq at *
  refine wpAny_bind (wpAny_letGo ?_)
  unfold Builtin.List.listExtendWith
  have ty : ({ s with heap := hq } : Shared).TypeIs (.ref z) "zip" := ⟨_, zz, rfl⟩
  refine wpAny_bind (wpAny_typeOf ty ?_)
  have c1 : Builtin.List.listSameRef (.ref S) (.ref z) = false := by simp [Builtin.List.listSameRef, nz.symm]
  have c2 : (Value.type "zip" == Value.type "list") = false := by decide
  have c3 : (Value.type "zip" == Value.type "tuple") = false := by decide
  simp only [c1, c2, c3, Bool.or_false, Bool.false_eq_true, if_false]
  refine wpAny_bind (wpAny_pyIter_zip (s := { s with heap := hq }) zz ?_)
  refine wpAny_bind (wpAny_holding ?_)
  unfold Builtin.List.listLengthHint
  refine wpAny_bind (wpAny_specialOf ty zip_no_len ?_)
  show wpAny _ _ (specialOf (Value.ref z) (Str.ofString "__length_hint__") >>= _) _ _ _
  refine wpAny_bind (wpAny_specialOf ty zip_no_hint (wpAny_pure ?_))
  show wpAny _ _ (rule "list.extend.makes-room" >>= fun _ => Builtin.List.listTouch (.ref S) >>= fun _ => again (.builtin "list.extend.loop" ⟨[.ref S, .ref z, .none], []⟩)) _ _ _
  refine wpAny_bind (wpAny_rule (wpAny_bind ?_))
  show wpAny _ _ (updateSeq S (·.push .none) >>= fun _ => updateSeq S (·.pop)) _ _ _
  obtain ⟨_, its3, k3, r3, _, e3⟩ := J1.lstM upd_same
  cases r3
  refine wpAny_bind (wpAny_updateSeq e3 rfl ?_ (by show 0 ≤ sizeLine; exact Nat.zero_le _) (by show 1 ≤ sizeLine + 1; omega))
  have J2 := J1.lset (f := (·.push Value.none)) (its' := [Value.none]) (ys := [.non]) (t' := s.toks) upd_same e3 rfl (.cons rfl .nil) (by rw [List.length_singleton, sizeLine_eq]; decide)
  rw [upd_upd] at J2
  have u2 := u1.upd (f := Obj.mapSeq (·.push Value.none)) nz (nS _ (by simp)) (nS _ (by simp)) (nS _ (by simp)) (nS _ (by simp))
  have z2 : S < (hq.update S (Obj.mapSeq (·.push Value.none))).objs.size := by rw [Heap.size_after_update]; exact z1
  obtain ⟨_, its4, k4, r4, _, e4⟩ := J2.lstM upd_same
  obtain ⟨w4, rfl, _⟩ := r4.one
  refine wpAny_updateSeq e4 rfl ?_ (by show 1 ≤ sizeLine; rw [sizeLine_eq]; decide) (by show 0 ≤ sizeLine + 1; exact Nat.zero_le _)
  have J3 := J2.lset (f := (·.pop)) (its := [w4]) (its' := []) (ys := []) (t' := s.toks) upd_same e4 (by rfl) .nil (Nat.zero_le _)
  rw [upd_upd] at J3
  have u3 := u2.upd (f := Obj.mapSeq (·.pop)) nz (nS _ (by simp)) (nS _ (by simp)) (nS _ (by simp)) (nS _ (by simp))
  have z3 : S < ((hq.update S (Obj.mapSeq (·.push Value.none))).update S (Obj.mapSeq (·.pop))).objs.size := by rw [Heap.size_after_update]; exact z2
  refine wpAny_pure ⟨plainId_quiet PySem.F.plain_extend_loop _, ?_⟩
  exact grow (A1 := X.A.in1) hh D hl hlt fr qx qy (fun qs H' s' I' e1 e2 e3 e4 => ⟨rfl, .ref S, H', I', rfl, k S qs H' fr e1 e2 e3 e4⟩) xs.length 0 [] _ _ (by omega) rfl J3 upd_same z3
    (fun c hc => ⟨by rw [upd_ne (nS c hc)]; exact (fp c hc).1, (fp c hc).2⟩) u3 (fun j q hj => by simp at hj) fun c o e => by rw [upd_ne (ne_of_none e fr)]; exact e
def tLZ (K : PySem.W.Frag) (ta : TA) : TE := fun σ H Q => ta σ H fun vs H1 => ∃ (a b : Addr) (xs ys : List V), vs = [.ref a, .ref b] ∧ SqT K H1 a xs ∧ SqT K H1 b ys ∧ xs.length = ys.length ∧ xs.length < sizeLine ∧
  ∀ (S : Addr) (qs : List Addr) (H2 : Hp), H1 S = none → H2 S = some (.lst (qs.map V.ref)) → qs.length = xs.length → Prs H1 H2 S qs xs ys → (∀ c o, H1 c = some o → H2 c = some o) → Q (.ref S) H2
/-- list(zip(e, e2)) of two tuples of one length -/
theorem pe_listZip {e e2 : Expr} {ta : TA} {p p2 pos pos2 : Pos} (hc : X.calm = true) (hgl : Gl X "list") (hml : X.mg "list" = none) (hgz : Gl X "zip") (hmz : X.mg "zip" = none) (ha : PA X [e, e2] ta)
    (hs : starEach [e, e2] X.env = (false, eval e X.env) :: starEach [e2] X.env := by rfl) (hpl : (backTo pos2 (starEach [e2] X.env)).any (·.1) = false := by rfl)
    (he : starEach [.Call (.Name "zip" p2) [e, e2] [] pos2] X.env = (false, eval (.Call (.Name "zip" p2) [e, e2] [] pos2) X.env) :: starEach [] X.env := by rfl) :
    PE X (.Call (.Name "list" p) [.Call (.Name "zip" p2) [e, e2] [] pos2] [] pos) (tLZ X.K ta) := by
  refine ⟨fun pins s σ H Q I h => ?_⟩
  refine wpAny_Call_Name_kw (ld_blt I hgl hml PyProof.Rows.boot_list ?_)
  refine PyProof.Rows.callWith_type1 ?_ he rfl
  rw [he]
  show wpAny _ _ (spliced ((false, eval (.Call (.Name "zip" p2) [e, e2] [] pos2) X.env) :: backTo pos (starEach [] X.env))) _ _ s
  refine Calls.spliced_cons ?_
  refine Call_ (ld_blt I hgz hmz PyProof.Rows.boot_zip (PyProof.Rows.callWith_type1 (thn (ha.run pos2 pins s σ H _ I h) fun us s1 ⟨vs, H1, I1, r1, q1⟩ => ?_) hs hpl))
  obtain ⟨a, b, xs, ys, rfl, qx, qy, hl, hlt, k⟩ := q1
  obtain ⟨v1, v2, rfl, rr1, rr2⟩ := vals2 r1
  cases rr1
  cases rr2
  obtain ⟨its, rv, p1, _⟩ := I1.tuple qx
  obtain ⟨its2, rv2, p2, _⟩ := I1.tuple qy
  obtain ⟨o1, ho1, _⟩ := id p1
  obtain ⟨o2, ho2, _⟩ := id p2
  have fresh5 : ∀ c, c ∈ [s1.heap.objs.size + 4, s1.heap.objs.size + 2, s1.heap.objs.size + 3, s1.heap.objs.size, s1.heap.objs.size + 1] → FpOk X pins H1 c := fun c hcm => by
    have e' : c = s1.heap.objs.size + 4 ∨ c = s1.heap.objs.size + 2 ∨ c = s1.heap.objs.size + 3 ∨ c = s1.heap.objs.size ∨ c = s1.heap.objs.size + 1 := by simpa using hcm
    have hle : s1.heap.objs.size ≤ c := by
      rcases e' with q | q | q | q | q <;> rw [q]
      · exact Nat.le_add_right _ _
      · exact Nat.le_add_right _ _
      · exact Nat.le_add_right _ _
      · exact Nat.le_refl _
      · exact Nat.le_add_right _ _
    exact I1.fpOk hle (I1.hok.fresh hle)
  refine RZ.call_zipT (show s1.heap.IsTuple a its.toArray from p1) (show s1.heap.IsTuple b its2.toArray from p2) fun h' hz hTI hTO h1 h2 hsz hk => ?_
  refine Calls.spliced_nil ?_
  have I2 : Inv X pins σ H1 { s1 with heap := h' } := I1.kept (t' := s1.toks) hk
  exact fresh_list hc (PySem.W.ktu_apart s1.heap.objs.size a b (Heap.lt_size ho1) (Heap.lt_size ho2)) I2 fresh5 hz hTI hTO h1 h2 qx qy hl hlt k
end
end Lz

set_option maxHeartbeats 8000000
/-! is_same of nested tuples -/
namespace Dk
open PySem PySem.Spec PyProof.Rows L2
mutual
def Tr.data : Tr → PyData
  | .sc .non => .none
  | .sc (.bl b) => .bool b
  | .sc (.int i) => .int i
  | .sc (.str s) => .str s
  | .sc _ => .none
  | .tup l => .tuple (datas l)
def datas : List Tr → List PyData
  | [] => []
  | t :: l => t.data :: datas l
end
mutual
theorem DV.dp {K : PySem.W.Frag} {H : Hp} : ∀ (t : Tr) (v : V), DV K H v t → Dp K H v t.data
  | .sc v, _, h => by
    cases h with
    | sc e => cases v <;> cases e <;> constructor
  | .tup l, _, h => by
    cases h with
    | tup e d => exact .tup e (DVs.dp l _ d)
theorem DVs.dp {K : PySem.W.Frag} {H : Hp} : ∀ (l : List Tr) (xs : List V), DVs K H xs l → DpAll K H xs (datas l)
  | [], _, h => by
    cases h
    exact .nil
  | t :: l, _, h => by
    cases h with
    | cons d e => exact .cons (DV.dp t _ d) (DVs.dp l _ e)
end
def Tr.ok (t : Tr) : Prop := SeqAt.shaped t.data = true
theorem shaped_iff {d : PyData} : SeqAt.shaped d = true ↔ d.canLay0 = true ∧ d.depth ≤ 64 := by
  show (d.canLay0 && decide (d.depth ≤ 64)) = true ↔ _
  rw [Bool.and_eq_true, decide_eq_true_iff]
theorem oks : ∀ {l : List Tr}, PyData.canLayAll0 (datas l) = true → PyData.depthAll (datas l) ≤ 64 → ∀ t, t ∈ l → t.ok
  | [], _, _, t, h => by cases h
  | u :: l, h1, h2, t, h => by
    simp only [datas, PyData.canLayAll0, Bool.and_eq_true] at h1
    simp only [datas, PyData.depthAll] at h2
    rcases List.mem_cons.mp h with e | e
    · rw [e]
      exact shaped_iff.mpr ⟨h1.1, by omega⟩
    · exact oks h1.2 (by omega) t e
theorem ok_tup {l : List Tr} (h : (Tr.tup l).ok) : ∀ t, t ∈ l → t.ok := by
  obtain ⟨h1, h2⟩ := shaped_iff.mp h
  simp only [Tr.data, PyData.canLay0] at h1
  simp only [Tr.data, PyData.depth] at h2
  exact oks h1 (by omega)
theorem zip_all {l m : List Tr} : l.length = m.length → ((∀ p, p ∈ l.zip m → p.1 = p.2) ↔ l = m) := by
  induction l generalizing m with
  | nil =>
    intro h
    cases m with
    | nil => simp
    | cons t m => cases h
  | cons t l ih =>
    intro h
    cases m with
    | nil => cases h
    | cons u m =>
      have ih := ih (m := m) (by simpa using h)
      rw [List.zip_cons_cons]
      constructor
      · intro q
        have h1 : t = u := q (t, u) List.mem_cons_self
        rw [h1, ih.mp fun p hp => q p (List.mem_cons_of_mem _ hp)]
      · intro e
        injection e with e1 e2
        intro p hp
        rcases List.mem_cons.mp hp with z | z
        · rw [z]; exact e1
        · exact ih.mpr e2 p z
/-- what waits -/
def wt : List (Tr × Tr) → Nat
  | [] => 0
  | p :: l => p.1.sz + wt l
theorem wt_app : ∀ (a b : List (Tr × Tr)), wt (a ++ b) = wt a + wt b
  | [], b => by show wt b = 0 + wt b; omega
  | p :: a, b => by
    show p.1.sz + wt (a ++ b) = p.1.sz + wt a + wt b
    rw [wt_app a b]
    omega
theorem wt_zip : ∀ {l m : List Tr}, l.length = m.length → wt (l.zip m) = szs l
  | [], _, _ => by simp [wt, szs]
  | t :: l, [], h => by cases h
  | t :: l, u :: m, h => by
    show t.sz + wt (l.zip m) = t.sz + szs l
    rw [wt_zip (by simpa using h)]
theorem wt_len : ∀ (l : List (Tr × Tr)), l.length ≤ wt l
  | [] => Nat.le_refl _
  | p :: l => by
    have := wt_len l
    have := sz_pos p.1
    show l.length + 1 ≤ p.1.sz + wt l
    omega
def Tr.isT : Tr → Bool
  | .sc _ => false
  | .tup _ => true
theorem eqv_ne {K : PySem.W.Frag} {H : Hp} {a b : V} {t u : Tr} (ha : DV K H a t) (hb : DV K H b u) (h : ¬ (t.isT = true ∧ u.isT = true)) (hB : isB a = isB b) (ne : t ≠ u) : PyData.eqv t.data u.data = false := by
  cases ha with
  | sc e1 =>
    cases hb with
    | sc e2 =>
      cases a <;> cases e1 <;> cases b <;> cases e2 <;> first
        | exact absurd rfl ne
        | rfl
        | (exfalso; revert hB; simp [isB]; done)
        | (simp only [Tr.data, PyData.eqv]; rename_i p q; exact beq_eq_false_iff_ne.mpr fun z => ne (by rw [z]))
        | simp [Tr.data, PyData.eqv]
    | tup e2 d2 => cases a <;> cases e1 <;> simp [Tr.data, PyData.eqv]
  | tup e1 d1 =>
    cases hb with
    | sc e2 => cases b <;> cases e2 <;> simp [Tr.data, PyData.eqv]
    | tup e2 d2 => exact absurd ⟨rfl, rfl⟩ h
theorem isB_eq {K : PySem.W.Frag} {H : Hp} {a b : V} {t u : Tr} (ha : DV K H a t) (hb : DV K H b u) (e : t = u) : isB a = isB b := by
  subst e
  cases ha with
  | sc e1 =>
    cases hb with
    | sc e2 => rfl
  | tup e1 d1 =>
    cases hb with
    | tup e2 d2 => rfl
theorem ty_dv {K : PySem.W.Frag} {H : Hp} {a : V} {t : Tr} (h : DV K H a t) : ∃ ty, TyX K H a (.type ty) ∧ kitB ty "bool" = some (isB a) := by
  cases h with
  | sc e => exact ⟨_, ty_of e, kit_bool e⟩
  | tup e d => exact ⟨"tuple", tyT e, by show kitB "tuple" "bool" = some false; decide +kernel⟩
def PVs (K : PySem.W.Frag) (H H2 : Hp) (qs : List Addr) (ps : List (Tr × Tr)) : Prop := qs.length = ps.length ∧ ∀ (i : Nat) (q : Addr) (p : Tr × Tr), qs[i]? = some q → ps[i]? = some p → ∃ a b, H2 q = some (.tup [a, b]) ∧ DV K H a p.1 ∧ DV K H b p.2 ∧ p.1.ok ∧ p.2.ok
theorem PVs.keep {K : PySem.W.Frag} {H H2 H3 : Hp} {qs : List Addr} {ps : List (Tr × Tr)} (h : PVs K H H2 qs ps) (k : ∀ (q : Addr) (a b : V), H2 q = some (.tup [a, b]) → H3 q = some (.tup [a, b])) : PVs K H H3 qs ps :=
  ⟨h.1, fun i q p h1 h2 => let ⟨a, b, e1, e2⟩ := h.2 i q p h1 h2; ⟨a, b, k q a b e1, e2⟩⟩
theorem PVs.init {K : PySem.W.Frag} {H H2 : Hp} {qs : List Addr} {q : Addr} {ps : List (Tr × Tr)} {p : Tr × Tr} (h : PVs K H H2 (qs ++ [q]) (ps ++ [p])) : PVs K H H2 qs ps ∧ ∃ a b, H2 q = some (.tup [a, b]) ∧ DV K H a p.1 ∧ DV K H b p.2 ∧ p.1.ok ∧ p.2.ok := by
  obtain ⟨h1, h2⟩ := h
  have hl : qs.length = ps.length := by simpa using h1
  refine ⟨⟨hl, fun i q' p' e1 e2 => h2 i q' p' ?_ ?_⟩, h2 qs.length q p ?_ ?_⟩
  · rw [List.getElem?_append_left (List.getElem?_eq_some_iff.mp e1).1]; exact e1
  · rw [List.getElem?_append_left (List.getElem?_eq_some_iff.mp e2).1]; exact e2
  · simp
  · rw [hl]; simp
theorem PVs.app {K : PySem.W.Frag} {H H2 : Hp} {qs qt : List Addr} {ps pt : List (Tr × Tr)} (h : PVs K H H2 qs ps) (g : PVs K H H2 qt pt) : PVs K H H2 (qs ++ qt) (ps ++ pt) := by
  refine ⟨by rw [List.length_append, List.length_append, h.1, g.1], fun i q p e1 e2 => ?_⟩
  by_cases c : i < qs.length
  · rw [List.getElem?_append_left c] at e1
    rw [List.getElem?_append_left (by rw [← h.1]; exact c)] at e2
    exact h.2 i q p e1 e2
  · rw [List.getElem?_append_right (by omega)] at e1
    rw [List.getElem?_append_right (by rw [← h.1]; omega), ← h.1] at e2
    exact g.2 _ q p e1 e2
theorem DVs.get {K : PySem.W.Frag} {H : Hp} : ∀ {xs : List V} {l : List Tr} {i : Nat} {x : V} {t : Tr}, DVs K H xs l → xs[i]? = some x → l[i]? = some t → DV K H x t
  | _, _, _, _, _, .nil, h, _ => by simp at h
  | _, _, 0, _, _, .cons d e, h, g => by
    cases h
    cases g
    exact d
  | _, _, i + 1, _, _, .cons d e, h, g => DVs.get (i := i) e (by simpa using h) (by simpa using g)
def spIsSameD (K : PySem.W.Frag) : Sp := fun vs H Q _ => ∃ x y t u, vs = [x, y] ∧ DV K H x t ∧ DV K H y u ∧ t.ok ∧ u.ok ∧ t.sz < sizeLine ∧ ∀ (b : Bool) H', Same H H' → (b = true ↔ t = u) → Q (.bl b) H'
section
variable {P : Program} {w : World} {K : PySem.W.Frag} {mg : Str → Option Value} {base : Heap} {C M NV LE : Addr}
theorem go_issameD (F : GT K mg "is_same" sIsSame ["one", "other"]) (T : Bn mg) (zz : mg "zip" = none) : GO P w K mg base CX0 1 "is_same" ["one", "other"] (spIsSameD K) := by
  obtain ⟨f, fd, F, hm, hb⟩ := F
  refine ⟨f, fd, ?_, hm, F.kp, hb⟩
  refine F.ok scIsSame (fun vs H Q E h => ?_) (fun cdv A outer s H vs Q E hr h => ?_)
  · obtain ⟨x, y, t, u, rfl, _⟩ := h
    rfl
  · obtain ⟨x, y, t, u, rfl, hx, hy, ox, oy, hz, k⟩ := h
    refine ⟨_, pss_cons (ps_set (i := 2) scIsSame.nd rfl (Or.inl rfl) (pe_lst (pa_cons (pe_tup (pa_cons (pv 0) (pa_cons (pv 1) pa_nil))) pa_nil)))
      (pss_cons (ps_while PassesOwn.never (pt_truth (pv 2) (by intro _; rfl))
        (pss_cons (ps_asg (pe_bm0 PySem.F.plainAttrs_list PySem.F.slot_list_pop PySem.F.type_list_pop mt_pop (pv 2)) (pg_tup (by rfl) (pgs_cons (pg_name (i := 3) scIsSame.nd rfl (Or.inl rfl)) (pgs_cons (pg_name (i := 4) scIsSame.nd rfl (Or.inl rfl)) pgs_nil))))
        (pss_one (ps_if (PW.pt (pw_and (pt_val (pe_callB call_isi (by rfl) T.isi (by decide +kernel) (pa_cons (pv 3) (pa_cons (pe_bltn (v := .ty "tuple") (by rfl) T.tuple (by decide +kernel) rfl) pa_nil)))) (pw_and1 (pt_val (pe_callB call_isi (by rfl) T.isi (by decide +kernel) (pa_cons (pv 4) (pa_cons (pe_bltn (v := .ty "tuple") (by rfl) T.tuple (by decide +kernel) rfl) pa_nil)))))))
          (pss_cons (ps_if (pt_cmpR op_ne (pe_callB call_len_seq (by rfl) T.len PySem.boot_len (pa_cons (pv 3) pa_nil)) (pe_callB call_len_seq (by rfl) T.len PySem.boot_len (pa_cons (pv 4) pa_nil)) (nomark _)) (pss_one (ps_ret pe_bl)) pss_nil)
          (pss_one (ps_expr (pe_bm PySem.F.plainAttrs_list PySem.F.slot_list_extend PySem.F.type_list_extend mt_extend (pv 2) (pa_cons (Lz.pe_listZip rfl (by rfl) T.list (by rfl) zz (pa_cons (pv 3) (pa_cons (pv 4) pa_nil))) pa_nil)))))
          (pss_one (ps_if (PW.pt (pw_or (pt_cmpR op_ne (pe_callB call_isi (by rfl) T.isi (by decide +kernel) (pa_cons (pv 3) (pa_cons (pe_bltn (v := .ty "bool") (by rfl) T.bool (by decide +kernel) rfl) pa_nil))) (pe_callB call_isi (by rfl) T.isi (by decide +kernel) (pa_cons (pv 4) (pa_cons (pe_bltn (v := .ty "bool") (by rfl) T.bool (by decide +kernel) rfl) pa_nil))) (nomark _))
              (pw_or1 (pt_cmpR (op_neD hr.units) (pv 3) (pv 4) (nomark _)))))
            (pss_one (ps_ret pe_bl)) pss_nil))))))
      (pss_one (ps_ret pe_bl))), ?_⟩
    refine ⟨_, rfl, _, rfl, (by show 2 ≤ sizeLine; decide), fun p0 hp0 => ⟨(by show 1 ≤ sizeLine; decide), fun D hD => ?_⟩⟩
    have s1 : Same H (upd H p0 (.tup [x, y])) := fun b o e => by rw [upd_ne (ne_of_none e hp0)]; exact e
    have pD : p0 ≠ D := ne_of_none upd_same hD
    have nHD : H D = none := s1.free hD
    have sp : ∀ {H3 : Hp} (l : List V), Same H H3 → Same H (upd H3 D (.lst l)) := fun {H3} l sm b o e => by rw [upd_ne (ne_of_none e nHD)]; exact sm b o e
    dsimp only [gName, tSeq]
    refine while_rel (fun m σ H2 => Same H H2 ∧ ∃ (l r : Option V) (qs : List Addr) (ps : List (Tr × Tr)), σ = [some x, some y, some (.ref D), l, r] ∧ H2 D = some (.lst (qs.map V.ref)) ∧ PVs K H H2 qs ps ∧ m = wt ps ∧ wt ps ≤ t.sz ∧ ((∀ p, p ∈ ps → p.1 = p.2) ↔ t = u))
      ⟨_, sp _ s1, _, _, [p0], [(t, u)], rfl, upd_same, ⟨rfl, fun i q p h1 h2 => ?_⟩, rfl, by show t.sz + 0 ≤ t.sz; omega, by simp⟩ ?_ ?_
    · cases i with
      | zero =>
        cases h1
        cases h2
        exact ⟨x, y, by rw [upd_ne pD]; exact upd_same, hx, hy, ox, oy⟩
      | succ n => simp at h1
    · rintro m σ H2 ⟨sm, l, r, qs, ps, rfl, hD2, pv', rfl, hle, hiff⟩
      rcases List.eq_nil_or_concat qs with rfl | ⟨qi, q, rfl⟩
      · have e : ps = [] := List.eq_nil_of_length_eq_zero (by rw [← pv'.1]; rfl)
        subst e
        exact ⟨_, rfl, false, .inl ⟨_, SqL.of hD2, rfl⟩, iteF (k true _ sm ⟨fun _ => hiff.mp fun p hp => (by cases hp), fun _ => rfl⟩)⟩
      · rcases List.eq_nil_or_concat ps with rfl | ⟨pi, p, rfl⟩
        · have := pv'.1
          simp at this
        · rw [List.concat_eq_append] at pv' hD2
          rw [List.concat_eq_append] at pv' hle hiff ⊢
          obtain ⟨pvi, a, b, hq, da, db, oa, ob⟩ := pv'.init
          rw [List.map_append] at hD2
          have hw : wt (pi ++ [p]) = wt pi + p.1.sz := by rw [wt_app]; rfl
          have hpz := sz_pos p.1
          have hall : (∀ z, z ∈ pi ++ [p] → z.1 = z.2) ↔ (∀ z, z ∈ pi → z.1 = z.2) ∧ p.1 = p.2 := by
            constructor
            · exact fun h => ⟨fun z hz => h z (List.mem_append_left _ hz), h p (by simp)⟩
            · rintro ⟨h1, h2⟩ z hz
              rcases List.mem_append.mp hz with q | q
              · exact h1 z q
              · rw [List.mem_singleton.mp q]
                exact h2
          have hno : p.1 ≠ p.2 → ∀ H', Same H H' → Q (.bl false) H' := fun h H' s' => k false H' s' ⟨fun e => (by cases e), fun e => absurd (hall.mp (hiff.mpr e)).2 h⟩
          refine ⟨_, rfl, true, .inl ⟨_, SqL.of hD2, by simp⟩, iteT ?_⟩
          refine ⟨_, rfl, .inl ⟨rfl, _, SqL.of hD2⟩, D, _, .ref q, rfl, rfl, hD2, by simp, ?_⟩
          rw [show (qi.map V.ref ++ [q].map V.ref).dropLast = qi.map V.ref by simp]
          have sm3 := sp (qi.map V.ref) sm
          have kp : ∀ (z : Addr) (c d : V), H2 z = some (.tup [c, d]) → upd H2 D (.lst (qi.map V.ref)) z = some (.tup [c, d]) := fun z c d e => by rw [upd_ne (ne_of e hD2 (by intro w; cases w))]; exact e
          have pv3 := pvi.keep kp
          have hq3 := kp q a b hq
          have hD3 : upd H2 D (.lst (qi.map V.ref)) D = some (.lst (qi.map V.ref)) := upd_same
          generalize upd H2 D (.lst (qi.map V.ref)) = H3 at sm3 pv3 hq3 hD3 ⊢
          refine ⟨q, [a, b], rfl, SqT.of hq3, rfl, _, _, rfl, _, _, rfl, rfl, ?_⟩
          have da3 := DV.ext sm3 _ _ da
          have db3 := DV.ext sm3 _ _ db
          obtain ⟨tya, qa, ka⟩ := ty_dv (K := K) da3
          obtain ⟨tyb, qb, kb⟩ := ty_dv (K := K) db3
          obtain ⟨t1, t2⟩ := p
          dsimp only at da db da3 db3 oa ob hw hpz hno hall ka kb
          cases t1 with
          | sc v1 =>
            obtain ⟨ty1, h1⟩ : ∃ ty, vty a = some ty := by
              cases da with
              | sc e => exact ⟨_, e⟩
            refine ⟨_, rfl, _, _, _, _, false, rfl, .ty "tuple", ty_of h1, kit_ty (notTup h1), _, rfl, iteF (iteF ?_)⟩
            have nb : ¬ (Tr.isT (Tr.sc v1) = true ∧ Tr.isT t2 = true) := fun h => Bool.noConfusion h.1
            refine ⟨_, rfl, _, _, _, _, _, rfl, .ty "bool", qa, kit_ty ka, _, rfl, _, _, _, _, _, rfl, .ty "bool", qb, kit_ty kb, rfl, _, rfl, ?_⟩
            by_cases hbb : isB a = isB b
            · refine iteNS (congrArg V.bl hbb) ?_
              refine ⟨_, rfl, _, rfl, Tr.data (Tr.sc v1), Tr.data t2, DV.dp _ _ da3, DV.dp _ _ db3, oa, ob, _, rfl, ?_⟩
              by_cases e : (Tr.sc v1) = t2
              · have hev : PyData.eqv (Tr.data (Tr.sc v1)) (Tr.data t2) = true := by rw [← e]; exact SeqAt.eqv_refl _ (SeqAt.canLay_of_shaped oa)
                rw [hev]
                exact iteF ⟨wt pi, by omega, sm3, _, _, qi, pi, rfl, hD3, pv3, rfl, by omega, ⟨fun h => hiff.mp (hall.mpr ⟨h, e⟩), fun h => (hall.mp (hiff.mpr h)).1⟩⟩
              · rw [eqv_ne da db nb hbb e]
                exact iteT (hno e _ sm3)
            · refine iteNT (fun e => hbb (V.bl.inj e)) (iteT ?_)
              exact hno (fun e => hbb (isB_eq da db e)) _ sm3
          | tup l1 =>
            obtain ⟨a1, xs1, rfl, ha1, dl1⟩ : ∃ a1 xs1, a = .ref a1 ∧ SqT K H a1 xs1 ∧ DVs K H xs1 l1 := by
              cases da with
              | tup e d => exact ⟨_, _, rfl, e, d⟩
            cases t2 with
            | sc v2 =>
              obtain ⟨ty2, h2⟩ : ∃ ty, vty b = some ty := by
                cases db with
                | sc e => exact ⟨_, e⟩
              refine ⟨_, rfl, _, _, _, _, true, rfl, .ty "tuple", tyT (ha1.same sm3), kit_ty (by decide +kernel), _, rfl, iteT ⟨_, rfl, _, _, _, _, false, rfl, .ty "tuple", ty_of h2, kit_ty (notTup h2), _, rfl, iteF ?_⟩⟩
              have nb : ¬ (Tr.isT (Tr.tup l1) = true ∧ Tr.isT (Tr.sc v2) = true) := fun h => Bool.noConfusion h.2
              refine ⟨_, rfl, _, _, _, _, _, rfl, .ty "bool", qa, kit_ty ka, _, rfl, _, _, _, _, _, rfl, .ty "bool", qb, kit_ty kb, rfl, _, rfl, ?_⟩
              by_cases hbb : isB (V.ref a1) = isB b
              · refine iteNS (congrArg V.bl hbb) ?_
                refine ⟨_, rfl, _, rfl, Tr.data (Tr.tup l1), Tr.data (Tr.sc v2), DV.dp _ _ da3, DV.dp _ _ db3, oa, ob, _, rfl, ?_⟩
                by_cases e : (Tr.tup l1) = (Tr.sc v2)
                · have hev : PyData.eqv (Tr.data (Tr.tup l1)) (Tr.data (Tr.sc v2)) = true := by rw [← e]; exact SeqAt.eqv_refl _ (SeqAt.canLay_of_shaped oa)
                  rw [hev]
                  exact iteF ⟨wt pi, by omega, sm3, _, _, qi, pi, rfl, hD3, pv3, rfl, by omega, ⟨fun h => hiff.mp (hall.mpr ⟨h, e⟩), fun h => (hall.mp (hiff.mpr h)).1⟩⟩
                · rw [eqv_ne da db nb hbb e]
                  exact iteT (hno e _ sm3)
              · refine iteNT (fun e => hbb (V.bl.inj e)) (iteT ?_)
                exact hno (fun e => hbb (isB_eq da db e)) _ sm3
            | tup l2 =>
              obtain ⟨b1, xs2, rfl, hb1, dl2⟩ : ∃ b1 xs2, b = .ref b1 ∧ SqT K H b1 xs2 ∧ DVs K H xs2 l2 := by
                cases db with
                | tup e d => exact ⟨_, _, rfl, e, d⟩
              have L1 := dl1.len
              have L2 := dl2.len
              have e3 : (Tr.tup l1).sz = 1 + szs l1 := rfl
              have wl := wt_len pi
              have pl := pv3.1
              refine ⟨_, rfl, _, _, _, _, true, rfl, .ty "tuple", tyT (ha1.same sm3), kit_ty (by decide +kernel), _, rfl, iteT ⟨_, rfl, _, _, _, _, true, rfl, .ty "tuple", tyT (hb1.same sm3), kit_ty (by decide +kernel), _, rfl, iteT ?_⟩⟩
              refine ⟨_, rfl, a1, _, rfl, .inr ((ha1.same sm3)), _, rfl, b1, _, rfl, .inr ((hb1.same sm3)), rfl, _, rfl, ?_⟩
              by_cases hlen : xs1.length = xs2.length
              · refine iteNS (by rw [hlen]) ?_
                refine ⟨_, rfl, .inl ⟨rfl, _, SqL.of hD3⟩, _, rfl, _, rfl, a1, b1, xs1, xs2, rfl, (ha1.same sm3), (hb1.same sm3), hlen, by omega, fun S q2 H4 nS hS lq prs ex => ?_⟩
                refine ⟨D, S, _, _, rfl, rfl, ex _ _ hD3, hS, by rw [List.length_map, List.length_map]; omega, ?_⟩
                have hll : l1.length = l2.length := by omega
                have sm4 : Same H H4 := fun c o e => ex _ _ (sm3 c o e)
                have pz : PVs K H H4 q2 (l1.zip l2) := by
                  refine ⟨by rw [List.length_zip]; omega, fun i q p e1 e2 => ?_⟩
                  obtain ⟨g1, g2⟩ := List.getElem?_zip_eq_some.mp e2
                  obtain ⟨_, _, x1, y1, g3, g4, g5⟩ := prs i q e1
                  exact ⟨x1, y1, g5, dl1.get g3 g1, dl2.get g4 g2, ok_tup oa _ (List.mem_of_getElem? g1), ok_tup ob _ (List.mem_of_getElem? g2)⟩
                have pv4 := (pv3.keep fun z c d e => ex _ _ e).app pz
                have hw2 : wt (pi ++ l1.zip l2) = wt pi + szs l1 := by rw [wt_app, wt_zip hll]
                refine ⟨wt (pi ++ l1.zip l2), by omega, sp _ sm4, _, _, qi ++ q2, pi ++ l1.zip l2, rfl, by rw [upd_same, List.map_append], pv4.keep (fun z c d e => ?_), rfl, by omega, ?_⟩
                · rw [upd_ne (ne_of e (ex _ _ hD3) (by intro w; cases w))]
                  exact e
                · rw [← hiff, hall]
                  constructor
                  · intro h
                    exact ⟨fun z hz => h z (List.mem_append_left _ hz), congrArg Tr.tup ((zip_all hll).mp fun z hz => h z (List.mem_append_right _ hz))⟩
                  · rintro ⟨h1, h2⟩ z hz
                    rcases List.mem_append.mp hz with q | q
                    · exact h1 z q
                    · exact (zip_all hll).mpr (Tr.tup.inj h2) z q
              · refine iteNT (fun e => hlen (by have := V.int.inj e; omega)) ?_
                exact hno (fun e => hlen (by rw [L1.1, L2.1, Tr.tup.inj e])) _ sm3
    · rintro σ H2 Q1 Q2 imp ⟨x, e, kk, t, q⟩
      exact ⟨x, e, kk, t, imp _ _ q⟩
end
end Dk

set_option maxHeartbeats 4000000
/-! accesses: what they may be -/
namespace Dk
open PySem PySem.Spec PyProof.Rows L2
inductive Rq where
  | read (i : Nat)
  | write (i : Nat) (v : V)
  | swap (i : Nat) (o n : V)
  | decide (i : Nat) (x : Str)
  | flush (i : Nat)
  | fence
def Rq.vs : Rq → List V
  | .read i => [.str "read", .int (i : Int)]
  | .write i v => [.str "write", .int (i : Int), v]
  | .swap i o n => [.str "swap", .int (i : Int), o, n]
  | .decide i x => [.str "decide", .int (i : Int), .str x]
  | .flush i => [.str "flush", .int (i : Int)]
  | .fence => [.str "fence"]
/-- a value of a cell, of moderate size -/
structure Dvl (K : PySem.W.Frag) (H : Hp) (v : V) (t : Tr) : Prop where
  d : DV K H v t
  o : t.ok
  z : t.sz < 100000
theorem Dvl.same {K : PySem.W.Frag} {H H' : Hp} {v : V} {t : Tr} (h : Dvl K H v t) (s : Same H H') : Dvl K H' v t := ⟨DV.ext s _ _ h.d, h.o, h.z⟩
/-- tuples are kept -/
def ExT (H H' : Hp) : Prop := (∀ b xs, H b = some (.tup xs) → H' b = some (.tup xs)) ∧ ∀ b o xs, H b = some (.frz o (.tup xs)) → H' b = some (.frz o (.tup xs))
theorem ExT.of {H H' : Hp} (s : Same H H') : ExT H H' := ⟨fun _ _ e => s _ _ e, fun _ _ _ e => s _ _ e⟩
theorem ExT.trans {H H1 H2 : Hp} (h : ExT H H1) (k : ExT H1 H2) : ExT H H2 := ⟨fun _ _ e => k.1 _ _ (h.1 _ _ e), fun _ _ _ e => k.2 _ _ _ (h.2 _ _ _ e)⟩
theorem _root_.L2.SqT.extT {K : PySem.W.Frag} {H H' : Hp} {a : Addr} {xs : List V} (h : SqT K H a xs) (s : ExT H H') : SqT K H' a xs :=
  h.elim (fun h => .inl (h.elim (fun h => .inl (s.1 _ _ h)) fun ⟨o, h⟩ => .inr ⟨o, s.2 _ _ _ h⟩)) fun h => .inr h
mutual
theorem DV.extT {K : PySem.W.Frag} {H H' : Hp} (s : ExT H H') : ∀ (t : Tr) (v : V), DV K H v t → DV K H' v t
  | .sc _, _, h => by
    cases h with
    | sc e => exact .sc e
  | .tup l, _, h => by
    cases h with
    | tup e d => exact .tup (e.extT s) (DVs.extT s l _ d)
theorem DVs.extT {K : PySem.W.Frag} {H H' : Hp} (s : ExT H H') : ∀ (l : List Tr) (xs : List V), DVs K H xs l → DVs K H' xs l
  | [], _, h => by
    cases h
    exact .nil
  | t :: l, _, h => by
    cases h with
    | cons d e => exact .cons (DV.extT s t _ d) (DVs.extT s l _ e)
end
theorem Dvl.ext {K : PySem.W.Frag} {H H' : Hp} {v : V} {t : Tr} (h : Dvl K H v t) (s : ExT H H') : Dvl K H' v t := ⟨DV.extT s _ _ h.d, h.o, h.z⟩
theorem Dvl.int {K : PySem.W.Frag} {H : Hp} (i : Int) : Dvl K H (.int i) (.sc (.int i)) := ⟨.sc (t := "int") rfl, by show SeqAt.shaped (.int i) = true; rfl, by show 1 < 100000; decide⟩
theorem Dvl.non {K : PySem.W.Frag} {H : Hp} : Dvl K H .non (.sc .non) := ⟨.sc (t := "NoneType") rfl, by show SeqAt.shaped .none = true; rfl, by show 1 < 100000; decide⟩
def Rq.ok (t w r : Nat) : Rq → Prop
  | .read i => i < 1 + t + (t + w + r)
  | .write i _ => i < 1 + t + (t + w + r)
  | .swap i _ _ => i < 1 + t + (t + w + r)
  | .decide i _ => i < 1 + t + (t + w + r)
  | .flush i => 1 + t ≤ i ∧ i < 1 + t + (t + w + r)
  | .fence => True
/-- its values -/
def Rq.vals (K : PySem.W.Frag) (H : Hp) : Rq → Prop
  | .write _ v => ∃ t, Dvl K H v t
  | .swap _ o n => (∃ t, Dvl K H o t) ∧ ∃ t, Dvl K H n t
  | _ => True
theorem Rq.vals_same {K : PySem.W.Frag} {H H' : Hp} {rq : Rq} (h : rq.vals K H) (s : Same H H') : rq.vals K H' := by
  cases rq with
  | write i v => exact let ⟨t, h⟩ := h; ⟨t, h.same s⟩
  | swap i o n => exact let ⟨⟨t, h⟩, u, h2⟩ := h; ⟨⟨t, h.same s⟩, u, h2.same s⟩
  | _ => trivial
theorem mhit {kind : Str} {is : List Nat} {tb : TS} {tr : Addr → List V → TS} {a : Addr} {ys : List V} {D : Ends} {σ : L2.St} {H : Hp} (hlen : ys.length = is.length) (h : tb D (setAll σ is ys) H) : mCase kind is tb tr a (.str kind :: ys) D σ H := by
  unfold mCase
  rw [if_pos (by rw [List.length_cons, hlen])]
  exact ⟨kind, ys, rfl, by rw [if_pos rfl]; exact h⟩
theorem mmiss {kind z : Str} {is : List Nat} {tb : TS} {tr : Addr → List V → TS} {a : Addr} {ys : List V} {D : Ends} {σ : L2.St} {H : Hp} (hk : z ≠ kind) (h : tr a (.str z :: ys) D σ H) : mCase kind is tb tr a (.str z :: ys) D σ H := by
  unfold mCase
  split
  · exact ⟨z, ys, rfl, by rw [if_neg hk]; exact h⟩
  · exact h
def spHasT (C : Addr) : Sp := fun vs H Q _ => ∃ a t w r v ty, vs = [.ref a, v] ∧ vty v = some ty ∧ LayAt C H a t w r ∧ Q (.bl (inW 0 (t - 1) v)) H
def spIsAcc (K : PySem.W.Frag) (C : Addr) : Sp := fun vs H Q _ => ∃ (la q : Addr) (t w r : Nat) (rq : Rq), vs = [.ref la, .ref q] ∧ LayAt C H la t w r ∧ H q = some (.tup rq.vs) ∧ rq.ok t w r ∧ rq.vals K H ∧ ∀ H', Same H H' → Q (.bl true) H'
section
variable {P : Program} {w : World} {K : PySem.W.Frag} {mg : Str → Option Value} {base : Heap} {C M NV LE : Addr}
theorem scHasT : FnScope ["self", "thread"] ["self", "thread"] (defScope sHasT) := ⟨rfl, rfl, rfl, by decide +kernel, rfl, by decide +kernel, by decide +kernel⟩
theorem mo_hast (F : MT K C "has_thread" "Layout.has_thread" sHasT ["self", "thread"]) (T : LTxt K mg C) (GW : GO P w K mg base CX0 2 "is_within" ["value", "low", "high"] spWithin) : MO P w K mg base CX0 C 3 "has_thread" ["self", "thread"] (spHasT C) := by
  obtain ⟨f, fd, F, hm, hb⟩ := F
  refine ⟨f, fd, ?_, hm, hb⟩
  refine F.ok scHasT (fun vs H Q E h => ?_) (fun cdv A outer s H vs Q E hr h => ?_)
  · obtain ⟨a, t, w, r, v, ty, rfl, _⟩ := h
    rfl
  · obtain ⟨a, t, w, r, v, ty, rfl, hv, ⟨dx, h1⟩, k⟩ := h
    refine ⟨_, pss_one (ps_ret (pc_ GW hr (pa_cons (pv 1) (pa_cons pe_int (pa_cons (pe_op op_sub (pe_fld (pv 0) rfl) pe_int) pa_nil))))), ?_⟩
    exact ⟨_, rfl, _, rfl, a, C, dx, _, _, rfl, h1, T.cl, T.nT, rfl, _, _, rfl, rfl, v, ty, _, _, rfl, hv, k⟩
abbrev NA : List Str := ["layout", "request", "cell", "value", "old", "new", "word"]
theorem scIsAcc : FnScope NA ["layout", "request"] (defScope sIsAcc) := ⟨rfl, rfl, rfl, by decide +kernel, rfl, by decide +kernel, by decide +kernel⟩
theorem go_isacc (F : GT K mg "is_access" sIsAcc ["layout", "request"]) (T : LTxt K mg C) (GI : MO P w K mg base CX0 C 6 "is_cell" ["self", "cell"] (spLV C fun t w r v => .bl (inW 0 (cells t w r - 1) v)))
    (GL : MO P w K mg base CX0 C 7 "is_lasting" ["self", "cell"] (spLV C fun t w r v => .bl (lastB t w r v))) (GV : GO P w K mg base CX0 1 "is_value" ["value"] (spIsValueD K)) : GO P w K mg base CX0 8 "is_access" ["layout", "request"] (spIsAcc K C) := by
  obtain ⟨f, fd, F, hm, hb⟩ := F
  refine ⟨f, fd, ?_, hm, F.kp, hb⟩
  refine F.ok scIsAcc (fun vs H Q E h => ?_) (fun cdv A outer s H vs Q E hr h => ?_)
  · obtain ⟨la, q, t, w, r, rq, rfl, _⟩ := h
    rfl
  · obtain ⟨la, q, t, w, r, rq, rfl, L, hq, ok, vals, k⟩ := h
    obtain ⟨da, ha⟩ := id L
    have nd := scIsAcc.nd
    have hr6 : Room 6 _ := hr.mono (by decide)
    have hr1 : Room 1 _ := hr.mono (by decide)
    refine ⟨_, pss_cons (ps_if (pt_not (pt_val (pe_callB call_isi (by rfl) T.bn.isi (by decide +kernel) (pa_cons (pv 1) (pa_cons (pe_bltn (v := .ty "tuple") (by rfl) T.bn.tuple (by decide +kernel) rfl) pa_nil))))) (pss_one ps_never) pss_nil)
      (pss_cons (ps_match (pv 1)
        (pms_case (is := [2]) rfl nd (.cons rfl rfl .nil) (pss_one (ps_ret (pm_ GI T.cl hr6 (pv 0) (pa_cons (pv 2) pa_nil))))
        (pms_case (is := [2, 3]) rfl nd (.cons rfl rfl (.cons rfl rfl .nil)) (pss_one (ps_ret (pe_and (pm_ GI T.cl hr6 (pv 0) (pa_cons (pv 2) pa_nil)) (pe_one (pc_ GV hr1 (pa_cons (pv 3) pa_nil))))))
        (pms_case (is := [2, 4, 5]) rfl nd (.cons rfl rfl (.cons rfl rfl (.cons rfl rfl .nil))) (pss_one (ps_ret (pe_and (pm_ GI T.cl hr6 (pv 0) (pa_cons (pv 2) pa_nil)) (pe_and (pc_ GV hr1 (pa_cons (pv 4) pa_nil)) (pe_one (pc_ GV hr1 (pa_cons (pv 5) pa_nil)))))))
        (pms_case (is := [2, 6]) rfl nd (.cons rfl rfl (.cons rfl rfl .nil)) (pss_one (ps_ret (pe_and (pm_ GI T.cl hr6 (pv 0) (pa_cons (pv 2) pa_nil)) (pe_one (pe_callB call_isi (by rfl) T.bn.isi (by decide +kernel) (pa_cons (pv 6) (pa_cons (pe_bltn (v := .ty "str") (by rfl) T.bn.str (by decide +kernel) rfl) pa_nil)))))))
        (pms_case (is := [2]) rfl nd (.cons rfl rfl .nil) (pss_one (ps_ret (pm_ GL T.cl hr (pv 0) (pa_cons (pv 2) pa_nil))))
        (pms_case (is := []) rfl nd .nil (pss_one (ps_ret pe_bl)) pms_nil)))))))
      (pss_one (ps_ret pe_bl))), ?_⟩
    refine ⟨_, rfl, _, _, _, _, true, rfl, .ty "tuple", .base (.tup hq), kit_ty (by decide +kernel), _, rfl, iteF ?_⟩
    refine ⟨_, rfl, q, _, rfl, SqT.of hq, ?_⟩
    have cell : ∀ {i : Nat} {Q : VK}, i < 1 + t + (t + w + r) → Q (.bl true) H → Q (.bl (inW 0 (cells (t : Int) w r - 1) (.int (i : Int)))) H := fun {i Q} hi q => by
      rw [cells_n, inW_nat, decide_eq_true hi]
      exact q
    cases rq with
    | read i =>
      refine mhit rfl ?_
      exact ⟨_, rfl, la, da, _, rfl, ha, rfl, _, rfl, la, t, w, r, _, "int", rfl, rfl, L, cell ok (k _ (Same.refl H))⟩
    | write i v =>
      have ok : i < 1 + t + (t + w + r) := ok
      obtain ⟨tv, hv⟩ := vals
      have hsl : sizeLine = 16777216 := sizeLine_eq
      have hz := hv.z
      refine mmiss (by decide +kernel) (mhit rfl ?_)
      refine ⟨_, rfl, la, da, _, rfl, ha, rfl, _, rfl, la, t, w, r, _, "int", rfl, rfl, L, _, rfl, ?_⟩
      rw [cells_n, inW_nat, decide_eq_true ok]
      refine iteT ?_
      exact ⟨_, rfl, v, tv, rfl, hv.d, by omega, fun H' s => k H' s⟩
    | swap i o n =>
      have ok : i < 1 + t + (t + w + r) := ok
      obtain ⟨⟨to, ho⟩, tn, hn⟩ := vals
      have hsl : sizeLine = 16777216 := sizeLine_eq
      have hz := ho.z
      have hz2 := hn.z
      refine mmiss (by decide +kernel) (mmiss (by decide +kernel) (mhit rfl ?_))
      refine ⟨_, rfl, la, da, _, rfl, ha, rfl, _, rfl, la, t, w, r, _, "int", rfl, rfl, L, _, rfl, ?_⟩
      rw [cells_n, inW_nat, decide_eq_true ok]
      refine iteT ?_
      exact ⟨_, rfl, o, to, rfl, ho.d, by omega, fun H' s => ⟨_, rfl, iteT ⟨_, rfl, n, tn, rfl, (hn.same s).d, by omega, fun H2 s2 => k H2 (s.trans s2)⟩⟩⟩
    | decide i x =>
      have ok : i < 1 + t + (t + w + r) := ok
      refine mmiss (by decide +kernel) (mmiss (by decide +kernel) (mmiss (by decide +kernel) (mhit rfl ?_)))
      refine ⟨_, rfl, la, da, _, rfl, ha, rfl, _, rfl, la, t, w, r, _, "int", rfl, rfl, L, _, rfl, ?_⟩
      rw [cells_n, inW_nat, decide_eq_true ok]
      refine iteT ?_
      exact ⟨_, rfl, _, _, _, _, true, rfl, .ty "str", .base (.str _), kit_ty (by decide +kernel), k H (Same.refl H)⟩
    | flush i =>
      refine mmiss (by decide +kernel) (mmiss (by decide +kernel) (mmiss (by decide +kernel) (mmiss (by decide +kernel) (mhit rfl ?_))))
      refine ⟨_, rfl, la, da, _, rfl, ha, rfl, _, rfl, la, t, w, r, _, "int", rfl, rfl, L, ?_⟩
      have e : V.bl (lastB (t : Int) w r (.int (i : Int))) = .bl true := by rw [lastB_nat, decide_eq_true (p := 1 + t ≤ i ∧ i < 1 + t + (t + w + r)) ok]
      show Q (V.bl (lastB (t : Int) w r (.int (i : Int)))) H
      rw [e]
      exact k _ (Same.refl H)
    | fence =>
      refine mmiss (by decide +kernel) (mmiss (by decide +kernel) (mmiss (by decide +kernel) (mmiss (by decide +kernel) (mmiss (by decide +kernel) (mhit rfl ?_)))))
      exact k _ (Same.refl H)
end
end Dk

set_option maxHeartbeats 4000000
/-! what a memory holds, changed part by part -/
namespace Dk
open PySem PySem.Spec PyProof.Rows L2
theorem MemAt.same {C M : Addr} {H H' : Hp} {m : Addr} {t w r : Nat} {A : Adr} {S : MS} (D : MemAt C M H m t w r A S) (s1 : Same H H') : MemAt C M H' m t w r A S :=
  ⟨let ⟨x, hx⟩ := D.ob; ⟨x, s1 _ _ hx⟩, let ⟨x, hx⟩ := D.lay; ⟨x, s1 _ _ hx⟩, s1 _ _ D.ps, D.tr.same s1, s1 _ _ D.ld, s1 _ _ D.nl, D.nn, D.nd,
      fun j b hb => let ⟨ns, e1, e2⟩ := D.no j b hb; ⟨ns, e1, s1 _ _ e2⟩, s1 _ _ D.gl, D.d1, D.d2, D.d3, D.d4, D.d5⟩
/-- what stands outside of the memory stands still; what comes into it is new -/
structure Step (m : Addr) (n : Nat) (A : Adr) (H : Hp) (A' : Adr) (H' : Hp) : Prop where
  chg : ∀ b o, H b = some o → ¬ Foot m A n b → H' b = some o
  foot : ∀ b, Foot m A' n b → Foot m A n b ∨ H b = none
theorem Step.refl {m : Addr} {n : Nat} {A : Adr} {H : Hp} : Step m n A H A H := ⟨fun _ _ h _ => h, fun _ h => .inl h⟩
theorem Step.same {m : Addr} {n : Nat} {A : Adr} {H H' : Hp} (s : Same H H') : Step m n A H A H' := ⟨fun b o h _ => s b o h, fun _ h => .inl h⟩
theorem Step.up {m : Addr} {n : Nat} {A : Adr} {H : Hp} {b : Addr} {o : HO} (hb : Foot m A n b) : Step m n A H A (upd H b o) := ⟨fun c u e hc => by
    rw [upd_ne (fun q => hc (by rw [q]; exact hb))]
    exact e, fun _ h => .inl h⟩
theorem Step.trans {m : Addr} {n : Nat} {A A1 A2 : Adr} {H H1 H2 : Hp} (a : Step m n A H A1 H1) (b : Step m n A1 H1 A2 H2) : Step m n A H A2 H2 := by
  have keep : ∀ c o, H c = some o → ¬ Foot m A n c → ¬ Foot m A1 n c := fun c o e hc h => by
    rcases a.foot c h with q | q
    · exact hc q
    · rw [e] at q
      cases q
  refine ⟨fun c o e hc => b.chg c o (a.chg c o e hc) (keep c o e hc), fun c h => ?_⟩
  rcases b.foot c h with q | q
  · exact a.foot c q
  · by_cases hc : Foot m A n c
    · exact .inl hc
    · refine .inr ?_
      cases e : H c with
      | none => rfl
      | some o =>
        rw [a.chg c o e hc] at q
        cases q
/-- what is tracked outside stays so -/
theorem Step.out {m : Addr} {n : Nat} {A A1 : Adr} {H H1 : Hp} (a : Step m n A H A1 H1) {c : Addr} {o : HO} (e : H c = some o) (hc : ¬ Foot m A n c) : H1 c = some o ∧ ¬ Foot m A1 n c := by
  refine ⟨a.chg c o e hc, fun h => ?_⟩
  rcases a.foot c h with q | q
  · exact hc q
  · rw [e] at q
    cases q
def MS.withTr (S : MS) (tr : Nat → List V) : MS := ⟨S.count, S.ps, tr, S.lost, S.notes, S.log⟩
def MS.withPs (S : MS) (ps : List V) : MS := ⟨S.count, ps, S.tr, S.lost, S.notes, S.log⟩
def MS.withLost (S : MS) (l : Nat → Int) : MS := ⟨S.count, S.ps, S.tr, l, S.notes, S.log⟩
def MS.withNotes (S : MS) (n : List (List (Key × V))) : MS := ⟨S.count, S.ps, S.tr, S.lost, n, S.log⟩
def MS.withCount (S : MS) (c : Int) : MS := ⟨c, S.ps, S.tr, S.lost, S.notes, S.log⟩
def MS.withLog (S : MS) (l : List V) : MS := ⟨S.count, S.ps, S.tr, S.lost, S.notes, l⟩
section
variable {C M : Addr} {H : Hp} {m : Addr} {t w r : Nat} {A : Adr} {S : MS}
theorem MemAt.setTr (D : MemAt C M H m t w r A S) {j : Nat} (hj : j < t + w + r) (l : List V) : MemAt C M (upd H (A.tl j) (.lst l)) m t w r A (S.withTr (sett S.tr j l)) := by
  have hl := D.tr.l j hj
  obtain ⟨dx, ho⟩ := D.ob
  obtain ⟨da, hlay⟩ := D.lay
  obtain ⟨d1, d2, d3⟩ := D.d1 j hj
  refine ⟨⟨dx, ?_⟩, ⟨da, ?_⟩, ?_, ⟨?_, fun i hi => ?_, D.tr.inj⟩, ?_, ?_, D.nn, D.nd, fun i b hb => ?_, ?_, D.d1, D.d2, D.d3, D.d4, D.d5⟩
  · rw [upd_ne (ne_of ho hl (by intro z; cases z))]; exact ho
  · rw [upd_ne (ne_of hlay hl (by intro z; cases z))]; exact hlay
  · rw [upd_ne d1.symm]; exact D.ps
  · rw [upd_ne (ne_of D.tr.d hl (by intro z; cases z))]; exact D.tr.d
  · show upd H (A.tl j) (.lst l) (A.tl i) = some (.lst (sett S.tr j l i))
    by_cases c : i = j
    · rw [c, upd_same, sett_same]
    · rw [sett_ne c, upd_ne (fun e => c (D.tr.inj i j hi hj e))]; exact D.tr.l i hi
  · rw [upd_ne (ne_of D.ld hl (by intro z; cases z))]; exact D.ld
  · rw [upd_ne d3.symm]; exact D.nl
  · obtain ⟨ns, e1, e2⟩ := D.no i b hb
    exact ⟨ns, e1, by rw [upd_ne (ne_of e2 hl (by intro z; cases z))]; exact e2⟩
  · rw [upd_ne d2.symm]; exact D.gl
theorem MemAt.setPs (D : MemAt C M H m t w r A S) (l : List V) : MemAt C M (upd H A.pl (.lst l)) m t w r A (S.withPs l) := by
  have hl := D.ps
  obtain ⟨dx, ho⟩ := D.ob
  obtain ⟨da, hlay⟩ := D.lay
  refine ⟨⟨dx, ?_⟩, ⟨da, ?_⟩, upd_same, ⟨?_, fun i hi => ?_, D.tr.inj⟩, ?_, ?_, D.nn, D.nd, fun i b hb => ?_, ?_, D.d1, D.d2, D.d3, D.d4, D.d5⟩
  · rw [upd_ne (ne_of ho hl (by intro z; cases z))]; exact ho
  · rw [upd_ne (ne_of hlay hl (by intro z; cases z))]; exact hlay
  · rw [upd_ne (ne_of D.tr.d hl (by intro z; cases z))]; exact D.tr.d
  · rw [upd_ne (D.d1 i hi).1]; exact D.tr.l i hi
  · rw [upd_ne (ne_of D.ld hl (by intro z; cases z))]; exact D.ld
  · rw [upd_ne D.d2.2.1.symm]; exact D.nl
  · obtain ⟨ns, e1, e2⟩ := D.no i b hb
    exact ⟨ns, e1, by rw [upd_ne (ne_of e2 hl (by intro z; cases z))]; exact e2⟩
  · rw [upd_ne D.d2.1.symm]; exact D.gl
theorem MemAt.setLost (D : MemAt C M H m t w r A S) (lo : Nat → Int) : MemAt C M (upd H A.ld (.dK (kv ((1 + t : Nat) : Int) (t + w + r) fun j => .int (lo j)))) m t w r A (S.withLost lo) := by
  have hl := D.ld
  obtain ⟨dx, ho⟩ := D.ob
  obtain ⟨da, hlay⟩ := D.lay
  refine ⟨⟨dx, ?_⟩, ⟨da, ?_⟩, ?_, ⟨?_, fun i hi => ?_, D.tr.inj⟩, upd_same, ?_, D.nn, D.nd, fun i b hb => ?_, ?_, D.d1, D.d2, D.d3, D.d4, D.d5⟩
  · rw [upd_ne (ne_of ho hl (by intro z; cases z))]; exact ho
  · rw [upd_ne (ne_of hlay hl (by intro z; cases z))]; exact hlay
  · rw [upd_ne (ne_of D.ps hl (by intro z; cases z))]; exact D.ps
  · rw [upd_ne D.d3]; exact D.tr.d
  · rw [upd_ne (ne_of (D.tr.l i hi) hl (by intro z; cases z))]; exact D.tr.l i hi
  · rw [upd_ne (ne_of D.nl hl (by intro z; cases z))]; exact D.nl
  · obtain ⟨ns, e1, e2⟩ := D.no i b hb
    exact ⟨ns, e1, by rw [upd_ne (D.d4 b (List.mem_of_getElem? hb)).2]; exact e2⟩
  · rw [upd_ne (ne_of D.gl hl (by intro z; cases z))]; exact D.gl
theorem MemAt.setCount (D : MemAt C M H m t w r A S) (c : Int) (dx : Addr) : MemAt C M (upd H m (.ins M dx (mf A c))) m t w r A (S.withCount c) := by
  obtain ⟨dx', hl⟩ := D.ob
  obtain ⟨da, hlay⟩ := D.lay
  refine ⟨⟨dx, upd_same⟩, ⟨da, ?_⟩, ?_, ⟨?_, fun i hi => ?_, D.tr.inj⟩, ?_, ?_, D.nn, D.nd, fun i b hb => ?_, ?_, D.d1, D.d2, D.d3, D.d4, D.d5⟩
  · rw [upd_ne D.d5.symm]; exact hlay
  · rw [upd_ne (ne_of D.ps hl (by intro z; cases z))]; exact D.ps
  · rw [upd_ne (ne_of D.tr.d hl (by intro z; cases z))]; exact D.tr.d
  · rw [upd_ne (ne_of (D.tr.l i hi) hl (by intro z; cases z))]; exact D.tr.l i hi
  · rw [upd_ne (ne_of D.ld hl (by intro z; cases z))]; exact D.ld
  · rw [upd_ne (ne_of D.nl hl (by intro z; cases z))]; exact D.nl
  · obtain ⟨ns, e1, e2⟩ := D.no i b hb
    exact ⟨ns, e1, by rw [upd_ne (ne_of e2 hl (by intro z; cases z))]; exact e2⟩
  · rw [upd_ne (ne_of D.gl hl (by intro z; cases z))]; exact D.gl
theorem MemAt.setLog (D : MemAt C M H m t w r A S) (l : List V) : MemAt C M (upd H A.gl (.lst l)) m t w r A (S.withLog l) := by
  have hl := D.gl
  obtain ⟨dx, ho⟩ := D.ob
  obtain ⟨da, hlay⟩ := D.lay
  refine ⟨⟨dx, ?_⟩, ⟨da, ?_⟩, ?_, ⟨?_, fun i hi => ?_, D.tr.inj⟩, ?_, ?_, D.nn, D.nd, fun i b hb => ?_, upd_same, D.d1, D.d2, D.d3, D.d4, D.d5⟩
  · rw [upd_ne (ne_of ho hl (by intro z; cases z))]; exact ho
  · rw [upd_ne (ne_of hlay hl (by intro z; cases z))]; exact hlay
  · rw [upd_ne D.d2.1]; exact D.ps
  · rw [upd_ne (ne_of D.tr.d hl (by intro z; cases z))]; exact D.tr.d
  · rw [upd_ne (D.d1 i hi).2.1]; exact D.tr.l i hi
  · rw [upd_ne (ne_of D.ld hl (by intro z; cases z))]; exact D.ld
  · rw [upd_ne D.d2.2.2.symm]; exact D.nl
  · obtain ⟨ns, e1, e2⟩ := D.no i b hb
    exact ⟨ns, e1, by rw [upd_ne (ne_of e2 hl (by intro z; cases z))]; exact e2⟩
theorem MemAt.setNotes (D : MemAt C M H m t w r A S) {i : Nat} {b : Addr} (hb : A.na[i]? = some b) (ns : List (Key × V)) : MemAt C M (upd H b (.dK ns)) m t w r A (S.withNotes (S.notes.set i ns)) := by
  obtain ⟨ns0, n1, hl⟩ := D.no i b hb
  obtain ⟨dx, ho⟩ := D.ob
  obtain ⟨da, hlay⟩ := D.lay
  obtain ⟨d1, d2⟩ := D.d4 b (List.mem_of_getElem? hb)
  refine ⟨⟨dx, ?_⟩, ⟨da, ?_⟩, ?_, ⟨?_, fun k hk => ?_, D.tr.inj⟩, ?_, ?_, D.nn, D.nd, fun k c hc => ?_, ?_, D.d1, D.d2, D.d3, D.d4, D.d5⟩
  · rw [upd_ne (ne_of ho hl (by intro z; cases z))]; exact ho
  · rw [upd_ne (ne_of hlay hl (by intro z; cases z))]; exact hlay
  · rw [upd_ne (ne_of D.ps hl (by intro z; cases z))]; exact D.ps
  · rw [upd_ne d1.symm]; exact D.tr.d
  · rw [upd_ne (ne_of (D.tr.l k hk) hl (by intro z; cases z))]; exact D.tr.l k hk
  · rw [upd_ne d2.symm]; exact D.ld
  · rw [upd_ne (ne_of D.nl hl (by intro z; cases z))]; exact D.nl
  · by_cases e : k = i
    · subst e
      have ec : c = b := Option.some.inj (hc.symm.trans hb)
      subst ec
      refine ⟨ns, ?_, upd_same⟩
      show (S.notes.set k ns)[k]? = some ns
      exact List.getElem?_set_self (List.getElem?_eq_some_iff.mp n1).1
    · obtain ⟨ns', e1, e2⟩ := D.no k c hc
      refine ⟨ns', ?_, ?_⟩
      · show (S.notes.set i ns)[k]? = some ns'
        rw [List.getElem?_set_ne (fun z => e z.symm)]
        exact e1
      · rw [upd_ne (fun z => e (nd_ix D.nd hc (by rw [z]; exact hb)))]
        exact e2
  · rw [upd_ne (ne_of D.gl hl (by intro z; cases z))]; exact D.gl
/-- a thread's notes are a new dict -/
theorem MemAt.newNotes (D : MemAt C M H m t w r A S) {i : Nat} (hi : i < t) {H1 : Hp} {p : Addr} (s : Same H H1) (hp : H p = none) (h1 : H1 p = some (.dK [])) :
    MemAt C M (upd H1 A.nl (.lst ((A.na.set i p).map V.ref))) m t w r { A with na := A.na.set i p } (S.withNotes (S.notes.set i [])) := by
  have hl := s _ _ D.nl
  obtain ⟨dx, ho⟩ := D.ob
  obtain ⟨da, hlay⟩ := D.lay
  have pn : ∀ {b : Addr} {o : HO}, H b = some o → b ≠ p := fun {b o} e => ne_of_none e hp
  have hlen : i < A.na.length := by rw [D.nn]; exact hi
  have memP : ∀ b, b ∈ A.na.set i p → b = p ∨ b ∈ A.na := fun b hb => by
    rcases List.mem_or_eq_of_mem_set hb with q | q
    · exact .inr q
    · exact .inl q
  refine ⟨⟨dx, ?_⟩, ⟨da, ?_⟩, ?_, ⟨?_, fun k hk => ?_, D.tr.inj⟩, ?_, upd_same, ?_, ?_, fun k c hc => ?_, ?_, D.d1, D.d2, D.d3, fun b hb => ?_, D.d5⟩
  · rw [upd_ne (ne_of (s _ _ ho) hl (by intro z; cases z))]; exact s _ _ ho
  · rw [upd_ne (ne_of (s _ _ hlay) hl (by intro z; cases z))]; exact s _ _ hlay
  · rw [upd_ne D.d2.2.1]; exact s _ _ D.ps
  · rw [upd_ne (ne_of (s _ _ D.tr.d) hl (by intro z; cases z))]; exact s _ _ D.tr.d
  · rw [upd_ne (D.d1 k hk).2.2]; exact s _ _ (D.tr.l k hk)
  · rw [upd_ne (ne_of (s _ _ D.ld) hl (by intro z; cases z))]; exact s _ _ D.ld
  · show (A.na.set i p).length = t
    rw [List.length_set]
    exact D.nn
  · show (A.na.set i p).Nodup
    have np : p ∉ A.na := fun hm => by
      obtain ⟨k, hk⟩ := List.getElem?_of_mem hm
      obtain ⟨ns, _, e2⟩ := D.no k p hk
      rw [hp] at e2
      cases e2
    refine List.pairwise_iff_getElem.mpr fun x y hx hy hxy => ?_
    rw [List.length_set] at hx hy
    rw [List.getElem_set, List.getElem_set]
    by_cases c1 : i = x
    · rw [if_pos c1, if_neg (by omega)]
      exact fun e => np (by rw [e]; exact List.getElem_mem hy)
    · rw [if_neg c1]
      by_cases c2 : i = y
      · rw [if_pos c2]
        exact fun e => np (by rw [← e]; exact List.getElem_mem hx)
      · rw [if_neg c2]
        exact fun e => absurd ((List.getElem_inj D.nd).mp e) (by omega)
  · have hc : (A.na.set i p)[k]? = some c := hc
    by_cases e : k = i
    · subst e
      rw [List.getElem?_set_self hlen] at hc
      have ec : p = c := Option.some.inj hc
      subst ec
      obtain ⟨b0, hb0⟩ : ∃ b0, A.na[k]? = some b0 := ⟨A.na[k], List.getElem?_eq_getElem hlen⟩
      obtain ⟨ns0, n1, _⟩ := D.no k b0 hb0
      refine ⟨[], ?_, ?_⟩
      · show (S.notes.set k [])[k]? = some []
        exact List.getElem?_set_self (List.getElem?_eq_some_iff.mp n1).1
      · rw [upd_ne (pn D.nl).symm]
        exact h1
    · rw [List.getElem?_set_ne (fun z => e z.symm)] at hc
      obtain ⟨ns', e1, e2⟩ := D.no k c hc
      refine ⟨ns', ?_, ?_⟩
      · show (S.notes.set i [])[k]? = some ns'
        rw [List.getElem?_set_ne (fun z => e z.symm)]
        exact e1
      · rw [upd_ne (ne_of (s _ _ e2) hl (by intro z; cases z))]
        exact s _ _ e2
  · rw [upd_ne D.d2.2.2]; exact s _ _ D.gl
  · rcases memP b hb with e | e
    · rw [e]
      exact ⟨(pn D.tr.d).symm, (pn D.ld).symm⟩
    · exact D.d4 b e
end
end Dk

set_option maxHeartbeats 4000000
/-! a value is given, a trail is shortened -/
namespace Dk
open PySem PySem.Spec PyProof.Rows L2
abbrev sGive : Stmt := inClass (top 23) 10
abbrev sGiveIf : Stmt := inClass (top 23) 11
abbrev sFence : Stmt := inClass (top 23) 12
abbrev sShort : Stmt := inClass (top 23) 13
def MS.give (S : MS) (t i : Nat) (v : V) : MS := if i < 1 + t then S.withPs (S.ps.set i v) else S.withTr (sett S.tr (i - (1 + t)) (S.tr (i - (1 + t)) ++ [v]))
/-- by how much a trail of that length becomes shorter -/
def cutN (len : Nat) (k : Int) : Nat := min k.toNat (len - 1)
def setl (g : Nat → Int) (j : Nat) (v : Int) : Nat → Int := fun i => if i = j then v else g i
theorem setf_int (g : Nat → Int) (j : Nat) (x : Int) : setf (fun i => .int (g i)) j (.int x) = fun i => .int (setl g j x i) := by
  funext i
  unfold setf setl
  by_cases c : i = j
  · rw [if_pos c, if_pos c]
  · rw [if_neg c, if_neg c]
def MS.short (S : MS) (j : Nat) (k : Int) : MS := (S.withTr (sett S.tr j ((S.tr j).drop (cutN (S.tr j).length k)))).withLost (setl S.lost j (S.lost j + (cutN (S.tr j).length k : Nat)))
theorem many_eq {len : Nat} (hl : 0 < len) (k : Int) : (if (if (len : Int) - 1 < k then (len : Int) - 1 else k) > 0 then (if (len : Int) - 1 < k then (len : Int) - 1 else k) else 0) = ((cutN len k : Nat) : Int) := by
  unfold cutN
  by_cases c : (len : Int) - 1 < k
  · rw [if_pos c]
    split <;> omega
  · rw [if_neg c]
    split <;> omega
def spGive (C M : Addr) : Sp := fun vs H Q _ => ∃ (m : Addr) (t w r i : Nat) (A : Adr) (S : MS) (v : V), vs = [.ref m, .int (i : Int), v] ∧ MemAt C M H m t w r A S ∧ i < 1 + t + (t + w + r) ∧ (i < 1 + t → i < S.ps.length) ∧ (1 + t ≤ i → (S.tr (i - (1 + t))).length < sizeLine) ∧
  ∀ H', MemAt C M H' m t w r A (S.give t i v) → Step m (t + w + r) A H A H' → Q .non H'
def spShort (C M : Addr) : Sp := fun vs H Q _ => ∃ (m : Addr) (t w r j : Nat) (A : Adr) (S : MS) (k : Int), vs = [.ref m, .int ((1 + t + j : Nat) : Int), .int k] ∧ NOk t w r ∧ MemAt C M H m t w r A S ∧ j < t + w + r ∧ S.tr j ≠ [] ∧
  ∀ H', MemAt C M H' m t w r A (S.short j k) → Step m (t + w + r) A H A H' → Q .non H'
def spGiveIf (K : PySem.W.Frag) (C M : Addr) : Sp := fun vs H Q _ => ∃ (m : Addr) (t w r i : Nat) (A : Adr) (S : MS) (o v p : V) (tp to : Tr), vs = [.ref m, .int (i : Int), o, v] ∧ MemAt C M H m t w r A S ∧ i < 1 + t + (t + w + r) ∧ cellV S t i = some p ∧ Dvl K H p tp ∧ Dvl K H o to ∧ (i < 1 + t → i < S.ps.length) ∧ (1 + t ≤ i → (S.tr (i - (1 + t))).length < sizeLine) ∧
  (tp = to → ∀ H', MemAt C M H' m t w r A (S.give t i v) → Step m (t + w + r) A H A H' → Q (.bl true) H') ∧ (tp ≠ to → ∀ H', Same H H' → Q (.bl false) H')
section
variable {P : Program} {w : World} {K : PySem.W.Frag} {mg : Str → Option Value} {base : Heap} {C M NV LE : Addr}
theorem tr_get {H : Hp} {m : Addr} {t w r : Nat} {A : Adr} {S : MS} (D : MemAt C M H m t w r A S) {i : Nat} (h1 : 1 + t ≤ i) (h2 : i < 1 + t + (t + w + r)) : DGet H A.td (.int (i : Int)) (some (.ref (A.tl (i - (1 + t))))) := by
  have hj : i - (1 + t) < t + w + r := by omega
  have ei : ((1 + t : Nat) : Int) + ((i - (1 + t) : Nat) : Int) = (i : Int) := by omega
  have := DGet.k (k := (Sum.inl (i : Int) : Key)) D.tr.d
  rw [← ei, kv_val _ _ _ _ hj, ei] at this
  exact this
theorem scGive : FnScope ["self", "cell", "value"] ["self", "cell", "value"] (defScope sGive) := ⟨rfl, rfl, rfl, by decide +kernel, rfl, by decide +kernel, by decide +kernel⟩
theorem mo_give (F : MT K M "_give" "Memory._give" sGive ["self", "cell", "value"]) (T : LTxt K mg C) (TM : MTxt K M) (GL : MO P w K mg base CX0 C 7 "is_lasting" ["self", "cell"] (spLV C fun t w r v => .bl (lastB t w r v))) :
    MO P w K mg base CX0 M 8 "_give" ["self", "cell", "value"] (spGive C M) := by
  obtain ⟨f, fd, F, hm, hb⟩ := F
  refine ⟨f, fd, ?_, hm, hb⟩
  refine F.ok scGive (fun vs H Q E h => ?_) (fun cdv A outer s H vs Q E hr h => ?_)
  · obtain ⟨m, t, w, r, i, A, S, v, rfl, _⟩ := h
    rfl
  · obtain ⟨m, t, w, r, i, B, S, v, rfl, D, hi, hp, hs, k⟩ := h
    obtain ⟨dx, h1⟩ := D.ob
    obtain ⟨da, ha⟩ := D.lay
    have hu := hu_of hr
    refine ⟨_, pss_one (ps_if (pt_val (pm_ GL T.cl hr (pe_fld (pv 0) rfl) (pa_cons (pv 1) pa_nil)))
      (pss_one (ps_expr (pe_bm PySem.F.plainAttrs_list PySem.F.slot_list_append PySem.F.type_list_append mt_append (pe_dget hu (pe_fld (pv 0) rfl) (pv 1) (fun _ _ => rfl)) (pa_cons (pv 2) pa_nil))))
      (pss_one (ps_asg (pv 2) (pg_sub (pe_fld (pv 0) rfl) (pv 1) set_list)))), ?_⟩
    refine ⟨_, rfl, m, M, dx, _, _, rfl, h1, TM.cl, TM.nL, rfl, B.a, da, _, rfl, ha, rfl, _, rfl, B.a, t, w, r, _, "int", rfl, rfl, ⟨da, ha⟩, _, rfl, ?_⟩
    rw [lastB_nat]
    unfold MS.give at k
    by_cases c : i < 1 + t
    · rw [if_pos c] at k
      refine iteND (by omega) ?_
      have hx : ixN S.ps.length (i : Int) = some i := by
        unfold ixN
        have := hp c
        rw [if_pos (by omega), if_pos (by omega)]
        rfl
      exact ⟨_, rfl, _, rfl, m, M, dx, _, _, rfl, h1, TM.cl, TM.nP, rfl, _, rfl, B.pl, _, _, i, rfl, rfl, D.ps, hx, k _ (D.setPs _) (Step.up (.inr (.inl rfl)))⟩
    · rw [if_neg c] at k
      refine iteD ⟨by omega, hi⟩ ?_
      have hj : i - (1 + t) < t + w + r := by omega
      have hl := D.tr.l _ hj
      exact ⟨_, rfl, m, M, dx, _, _, rfl, h1, TM.cl, TM.nT, rfl, _, rfl, B.td, _, rfl, tr_get D (by omega) hi, .inl ⟨rfl, _, SqL.of hl⟩, _, rfl, _, _, _, rfl, rfl, hl, hs (by omega),
        k _ (D.setTr hj _) (Step.up (.inr (.inr (.inr (.inr (.inr (.inr (.inl ⟨_, hj, rfl⟩))))))))⟩
theorem scShort : FnScope ["self", "cell", "steps", "trail", "many"] ["self", "cell", "steps"] (defScope sShort) := ⟨rfl, rfl, rfl, by decide +kernel, rfl, by decide +kernel, by decide +kernel⟩
theorem mo_short (F : MT K M "_shorten" "Memory._shorten" sShort ["self", "cell", "steps"]) (T : LTxt K mg C) (TM : MTxt K M) (zx : mg "max" = none) (zn : mg "min" = none) : MO P w K mg base CX0 M 1 "_shorten" ["self", "cell", "steps"] (spShort C M) := by
  obtain ⟨f, fd, F, hm, hb⟩ := F
  refine ⟨f, fd, ?_, hm, hb⟩
  refine F.ok scShort (fun vs H Q E h => ?_) (fun cdv A outer s H vs Q E hr h => ?_)
  · obtain ⟨m, t, w, r, j, A, S, k, rfl, _⟩ := h
    rfl
  · obtain ⟨m, t, w, r, j, B, S, x, rfl, nok, D, hj, hne, k⟩ := h
    obtain ⟨dx, h1⟩ := D.ob
    have hu := hu_of hr
    have nd := scShort.nd
    refine ⟨_, pss_cons (ps_set (i := 3) nd rfl (Or.inl rfl) (pe_dget hu (pe_fld (pv 0) rfl) (pv 1) (fun _ _ => rfl)))
      (pss_cons (ps_set (i := 4) nd rfl (Or.inl rfl) (pe_callB (call_max2 rfl) (by rfl) zx (by decide +kernel) (pa_cons pe_int (pa_cons (pe_callB (call_min2 rfl) (by rfl) zn (by decide +kernel) (pa_cons (pv 2)
        (pa_cons (pe_op op_sub (pe_callB call_len_seq (by rfl) T.bn.len PySem.boot_len (pa_cons (pv 3) pa_nil)) pe_int) pa_nil))) pa_nil))))
      (pss_cons (ps_delSl (pv 3) po_none (po_some (pv 4)))
      (pss_one (ps_daug hu (pe_fld (pv 0) rfl) (pv 1) (pv 4) in_add (fun _ _ _ => rfl))))), ?_⟩
    have hl := D.tr.l j hj
    have hg : DGet H B.td (.int ((1 + t + j : Nat) : Int)) (some (.ref (B.tl j))) := by
      have := tr_get D (i := 1 + t + j) (by omega) (by omega)
      rw [show 1 + t + j - (1 + t) = j by omega] at this
      exact this
    have hpos : 0 < (S.tr j).length := List.length_pos_iff.mpr hne
    refine ⟨_, rfl, m, M, dx, _, _, rfl, h1, TM.cl, TM.nT, rfl, _, rfl, B.td, _, rfl, hg, ?_⟩
    refine ⟨_, rfl, _, rfl, B.tl j, _, rfl, .inl (SqL.of hl), _, _, rfl, rfl, _, _, rfl, _, _, rfl, ?_⟩
    rw [many_eq hpos x]
    have hc : cutN (S.tr j).length x ≤ (S.tr j).length := by unfold cutN; omega
    refine ⟨_, rfl, _, rfl, _, rfl, B.tl j, S.tr j, 0, cutN (S.tr j).length x, rfl, hl, bounds_head hc, Nat.zero_le _, ?_⟩
    rw [List.take_zero, List.nil_append]
    have D2 := D.setTr hj ((S.tr j).drop (cutN (S.tr j).length x))
    obtain ⟨dx2, h2⟩ := D2.ob
    have hg2 : DGet (upd H (B.tl j) (.lst ((S.tr j).drop (cutN (S.tr j).length x)))) B.ld (.int ((1 + t + j : Nat) : Int)) (some (.int (S.lost j))) := by
      have := DGet.k (k := (Sum.inl ((1 + t + j : Nat) : Int) : Key)) D2.ld
      rw [show ((1 + t + j : Nat) : Int) = ((1 + t : Nat) : Int) + (j : Int) by omega, kv_val _ _ _ _ hj, show ((1 + t : Nat) : Int) + (j : Int) = ((1 + t + j : Nat) : Int) by omega] at this
      exact this
    have hsl : sizeLine = 16777216 := sizeLine_eq
    refine ⟨_, rfl, m, M, dx2, _, _, rfl, h2, TM.cl, TM.nO, rfl, _, rfl, B.ld, _, rfl, hg2, _, rfl, _, _, rfl, rfl, _, DPut.k (k := Sum.inl _) D2.ld (by rw [kv_len]; have := nok.t3; have := nok.w4; have := nok.r200; omega), ?_⟩
    rw [show ((1 + t + j : Nat) : Int) = ((1 + t : Nat) : Int) + (j : Int) by omega, kv_put _ _ _ _ _ hj]
    have e3 : setf (fun j => .int (S.lost j)) j (.int (S.lost j + (cutN (S.tr j).length x : Nat))) = fun i => .int (setl S.lost j (S.lost j + (cutN (S.tr j).length x : Nat)) i) := setf_int _ _ _
    have e4 : (fun j => V.int ((S.withTr (sett S.tr j ((S.tr j).drop (cutN (S.tr j).length x)))).lost j)) = fun j => V.int (S.lost j) := rfl
    refine k _ ?_ ((Step.up (.inr (.inr (.inr (.inr (.inr (.inr (.inl ⟨_, hj, rfl⟩)))))))).trans (Step.up (.inr (.inr (.inr (.inl rfl))))))
    have D3 := D2.setLost (setl S.lost j (S.lost j + (cutN (S.tr j).length x : Nat)))
    rw [← e3] at D3
    exact D3
theorem scGiveIf : FnScope ["self", "cell", "old", "new"] ["self", "cell", "old", "new"] (defScope sGiveIf) := ⟨rfl, rfl, rfl, by decide +kernel, rfl, by decide +kernel, by decide +kernel⟩
theorem mo_giveif (F : MT K M "_give_if" "Memory._give_if" sGiveIf ["self", "cell", "old", "new"]) (T : LTxt K mg C) (TM : MTxt K M) (GS : GO P w K mg base CX0 1 "is_same" ["one", "other"] (spIsSameD K))
    (GP : MO P w K mg base CX0 M 8 "peek" ["self", "cell"] (spPeek C M)) (GG : MO P w K mg base CX0 M 8 "_give" ["self", "cell", "value"] (spGive C M)) : MO P w K mg base CX0 M 9 "_give_if" ["self", "cell", "old", "new"] (spGiveIf K C M) := by
  obtain ⟨f, fd, F, hm, hb⟩ := F
  refine ⟨f, fd, ?_, hm, hb⟩
  refine F.ok scGiveIf (fun vs H Q E h => ?_) (fun cdv A outer s H vs Q E hr h => ?_)
  · obtain ⟨m, t, w, r, i, A, S, o, v, p, tp, to, rfl, _⟩ := h
    rfl
  · obtain ⟨m, t, w, r, i, B, S, o, v, p, tp, to, rfl, D, hi, hv, fp, fo, hp, hs, k1, k2⟩ := h
    have hsl : sizeLine = 16777216 := sizeLine_eq
    have hzp := fp.z
    obtain ⟨dx, h1⟩ := D.ob
    refine ⟨_, pss_cons (ps_if (pt_not (pt_val (pc_ GS (hr.mono (by decide)) (pa_cons (pm_ GP TM.cl hr (pv 0) (pa_cons (pv 1) pa_nil)) (pa_cons (pv 2) pa_nil))))) (pss_one (ps_ret pe_bl)) pss_nil)
      (pss_cons (ps_expr (pm_ GG TM.cl hr (pv 0) (pa_cons (pv 1) (pa_cons (pv 3) pa_nil)))) (pss_one (ps_ret pe_bl))), ?_⟩
    refine ⟨_, rfl, m, dx, _, rfl, h1, rfl, _, rfl, m, t, w, r, i, B, S, p, rfl, D, hi, hv, _, rfl, p, o, tp, to, rfl, fp.d, fo.d, fp.o, fo.o, by omega, fun bb H1 s1 hbb => ⟨_, rfl, ?_⟩⟩
    cases bb with
    | true =>
      refine iteF ?_
      have D1 := D.same s1
      obtain ⟨dx1, h2⟩ := D1.ob
      exact ⟨_, rfl, m, dx1, _, rfl, h2, rfl, _, rfl, _, rfl, m, t, w, r, i, B, S, v, rfl, D1, hi, hp, hs, fun H2 D2 s2 => k1 (hbb.mp rfl) H2 D2 ((Step.same s1).trans s2)⟩
    | false => exact iteT (k2 (fun e => absurd (hbb.mpr e) (by decide)) H1 s1)
end
end Dk

set_option maxHeartbeats 4000000
/-! a fence -/
namespace Dk
open PySem PySem.Spec PyProof.Rows L2
/-- the notes of a thread: index of the lasting cell, place -/
def nkv (t : Nat) (l : List (Nat × Int)) : List (Key × V) := l.map fun p => ((Sum.inl ((1 + t + p.1 : Nat) : Int) : Key), V.int p.2)
def fenceS (S : MS) (l : List (Nat × Int)) : MS := l.foldl (fun S p => S.short p.1 (p.2 - S.lost p.1)) S
theorem fenceS_take {S : MS} {l : List (Nat × Int)} {i : Nat} {p : Nat × Int} (h : l[i]? = some p) : fenceS S (l.take (i + 1)) = (fenceS S (l.take i)).short p.1 (p.2 - (fenceS S (l.take i)).lost p.1) := by
  have hi : i < l.length := (List.getElem?_eq_some_iff.mp h).1
  have e : l.take (i + 1) = l.take i ++ [p] := by
    rw [List.take_succ, h]
    rfl
  unfold fenceS
  rw [e, List.foldl_append]
  rfl
theorem short_ne {S : MS} {j : Nat} {k : Int} {n : Nat} (h : ∀ i, i < n → S.tr i ≠ []) : ∀ i, i < n → (S.short j k).tr i ≠ [] := fun i hi => by
  show sett S.tr j ((S.tr j).drop (cutN (S.tr j).length k)) i ≠ []
  by_cases c : i = j
  · subst c
    rw [sett_same]
    have h1 := h i hi
    have h2 : 0 < (S.tr i).length := List.length_pos_iff.mpr h1
    refine List.length_pos_iff.mp ?_
    rw [List.length_drop]
    unfold cutN
    omega
  · rw [sett_ne c]
    exact h i hi
theorem fence_ne {n : Nat} : ∀ {l : List (Nat × Int)} {S : MS}, (∀ i, i < n → S.tr i ≠ []) → ∀ i, i < n → (fenceS S l).tr i ≠ []
  | [], _, h => h
  | p :: l, S, h => fence_ne (l := l) (S := S.short p.1 (p.2 - S.lost p.1)) (short_ne h)
/-- an object outside of the memory changes -/
theorem MemAt.outer {C M : Addr} {H H' : Hp} {m b : Addr} {t w r : Nat} {A : Adr} {S : MS} (D : MemAt C M H m t w r A S) (k : ∀ c o, H c = some o → c ≠ b → H' c = some o) (hb : ¬ Foot m A (t + w + r) b) (ha : b ≠ A.a) : MemAt C M H' m t w r A S := by
  have f : ∀ {c : Addr} {o : HO}, H c = some o → Foot m A (t + w + r) c → H' c = some o := fun {c o} e h => k c o e fun q => hb (by rw [← q]; exact h)
  obtain ⟨dx, ho⟩ := D.ob
  obtain ⟨da, hlay⟩ := D.lay
  exact ⟨⟨dx, f ho (.inl rfl)⟩, ⟨da, k _ _ hlay ha.symm⟩, f D.ps (.inr (.inl rfl)), ⟨f D.tr.d (.inr (.inr (.inl rfl))), fun j hj => f (D.tr.l j hj) (.inr (.inr (.inr (.inr (.inr (.inr (.inl ⟨j, hj, rfl⟩))))))), D.tr.inj⟩, f D.ld (.inr (.inr (.inr (.inl rfl)))),
    f D.nl (.inr (.inr (.inr (.inr (.inl rfl))))), D.nn, D.nd, fun i c hc => let ⟨ns, e1, e2⟩ := D.no i c hc; ⟨ns, e1, f e2 (.inr (.inr (.inr (.inr (.inr (.inr (.inr (List.mem_of_getElem? hc))))))))⟩, f D.gl (.inr (.inr (.inr (.inr (.inr (.inl rfl)))))), D.d1, D.d2, D.d3, D.d4, D.d5⟩
def spFence (C M : Addr) : Sp := fun vs H Q _ => ∃ (m : Addr) (t w r th : Nat) (A : Adr) (S : MS) (l : List (Nat × Int)), vs = [.ref m, .int (th : Int)] ∧ NOk t w r ∧ MemAt C M H m t w r A S ∧ th < t ∧ S.notes[th]? = some (nkv t l) ∧ (∀ p, p ∈ l → p.1 < t + w + r) ∧ (∀ j, j < t + w + r → S.tr j ≠ []) ∧
  ∀ (A' : Adr) (H' : Hp), A'.a = A.a → MemAt C M H' m t w r A' (fenceS (S.withNotes (S.notes.set th [])) l) → Step m (t + w + r) A H A' H' → Q .non H'
section
variable {P : Program} {w : World} {K : PySem.W.Frag} {mg : Str → Option Value} {base : Heap} {C M NV LE : Addr}
theorem scFence : FnScope ["self", "thread", "notes", "cell", "place"] ["self", "thread"] (defScope sFence) := ⟨rfl, rfl, rfl, by decide +kernel, rfl, by decide +kernel, by decide +kernel⟩
theorem mo_fence (F : MT K M "_fence" "Memory._fence" sFence ["self", "thread"]) (TM : MTxt K M) (GS : MO P w K mg base CX0 M 1 "_shorten" ["self", "cell", "steps"] (spShort C M)) : MO P w K mg base CX0 M 2 "_fence" ["self", "thread"] (spFence C M) := by
  obtain ⟨f, fd, F, hm, hb⟩ := F
  refine ⟨f, fd, ?_, hm, hb⟩
  refine F.ok scFence (fun vs H Q E h => ?_) (fun cdv A outer s H vs Q E hr h => ?_)
  · obtain ⟨m, t, w, r, th, A, S, l, rfl, _⟩ := h
    rfl
  · obtain ⟨m, t, w, r, th, B, S, l, rfl, nok, D, hth, hns, hl, hne, k⟩ := h
    obtain ⟨dx, h1⟩ := D.ob
    have hu := hu_of hr
    have nd := scFence.nd
    refine ⟨_, pss_cons (ps_set (i := 2) nd rfl (Or.inl rfl) (pe_ix ix_list (pe_fld (pv 0) rfl) (pv 1) (fun _ _ => rfl)))
      (pss_cons (ps_asg pe_dnewK (pg_sub (pe_fld (pv 0) rfl) (pv 1) set_list))
      (pss_one (ps_lock (ps_for PassesOwn.never rfl (pi_items (pv 2)) (pg_tup (by rfl) (pgs_cons (pg_name (i := 3) nd rfl (Or.inl rfl)) (pgs_cons (pg_name (i := 4) nd rfl (Or.inl rfl)) pgs_nil)))
        (pss_one (ps_expr (pm_ GS TM.cl hr (pv 0) (pa_cons (pv 3) (pa_cons (pe_op op_sub (pv 4) (pe_dget hu (pe_fld (pv 0) rfl) (pv 3) (fun _ _ => rfl))) pa_nil))))))))), ?_⟩
    have hlen : th < B.na.length := by rw [D.nn]; exact hth
    obtain ⟨b, hbn⟩ : ∃ b, B.na[th]? = some b := ⟨B.na[th], List.getElem?_eq_getElem hlen⟩
    obtain ⟨ns, e1, hbd⟩ := D.no th b hbn
    rw [hns] at e1
    have e1 := (Option.some.inj e1).symm
    subst e1
    have hbm : b ∈ B.na := List.mem_of_getElem? hbn
    have hv : (B.na.map V.ref)[th]? = some (.ref b) := by rw [List.getElem?_map, hbn]; rfl
    refine ⟨_, rfl, m, M, dx, _, _, rfl, h1, TM.cl, TM.nN, rfl, _, rfl, B.nl, _, _, _, rfl, rfl, SqL.of D.nl, atI_nat hv, fun p hp => ?_⟩
    have s1 : Same H (upd H p (.dK [])) := fun c o e => by rw [upd_ne (ne_of_none e hp)]; exact e
    have hx : ixN (B.na.map V.ref).length (th : Int) = some th := by
      unfold ixN
      rw [List.length_map, if_pos (by omega), if_pos (by omega)]
      rfl
    refine ⟨_, rfl, m, M, dx, _, _, rfl, s1 _ _ h1, TM.cl, TM.nN, rfl, _, rfl, B.nl, _, _, th, rfl, rfl, s1 _ _ D.nl, hx, ?_⟩
    have D1 := D.newNotes hth s1 hp upd_same
    have esm : (B.na.map V.ref).set th (.ref p) = (B.na.set th p).map V.ref := by rw [List.map_set]
    rw [esm]
    generalize hA : ({ B with na := B.na.set th p } : Adr) = B1 at D1
    have hBa : B1.a = B.a := by rw [← hA]
    have pb : b ≠ p := ne_of_none hbd hp
    have hb1 : ∀ o, upd (upd H p (.dK [])) B.nl (.lst o) b = some (.dK (nkv t l)) := fun o => by
      rw [upd_ne (ne_of hbd D.nl (by intro z; cases z)), upd_ne pb]
      exact hbd
    have hst : Step m (t + w + r) B H B1 (upd (upd H p (.dK [])) B.nl (.lst ((B.na.set th p).map V.ref))) := by
      refine ⟨fun c o e hc => ?_, fun c hc => ?_⟩
      · rw [upd_ne (fun q => hc (by rw [q]; exact .inr (.inr (.inr (.inr (.inl rfl))))))]
        exact s1 c o e
      · rw [← hA] at hc
        rcases hc with q | q | q | q | q | q | q | q
        · exact .inl (.inl q)
        · exact .inl (.inr (.inl q))
        · exact .inl (.inr (.inr (.inl q)))
        · exact .inl (.inr (.inr (.inr (.inl q))))
        · exact .inl (.inr (.inr (.inr (.inr (.inl q)))))
        · exact .inl (.inr (.inr (.inr (.inr (.inr (.inl q))))))
        · exact .inl (.inr (.inr (.inr (.inr (.inr (.inr (.inl q)))))))
        · rcases List.mem_or_eq_of_mem_set (show c ∈ B.na.set th p from q) with q | q
          · exact .inl (.inr (.inr (.inr (.inr (.inr (.inr (.inr q)))))))
          · rw [q]
            exact .inr hp
    have nfb : ¬ Foot m B1 (t + w + r) b := by
      rw [← hA]
      intro hc
      rcases hc with q | q | q | q | q | q | ⟨j, hj, q⟩ | q
      · exact ne_of hbd h1 (by intro z; cases z) q
      · exact ne_of hbd D.ps (by intro z; cases z) q
      · exact (D.d4 b hbm).1 q
      · exact (D.d4 b hbm).2 q
      · exact ne_of hbd D.nl (by intro z; cases z) q
      · exact ne_of hbd D.gl (by intro z; cases z) q
      · exact ne_of hbd (D.tr.l j hj) (by intro z; cases z) q
      · have q : b ∈ B.na.set th p := q
        obtain ⟨x, hx⟩ := List.getElem?_of_mem q
        by_cases c : x = th
        · rw [c, List.getElem?_set_self hlen] at hx
          exact pb (Option.some.inj hx).symm
        · rw [List.getElem?_set_ne (fun z => c z.symm)] at hx
          exact c (nd_ix D.nd hx hbn)
    obtain ⟨da, hlay⟩ := D.lay
    have nba : b ≠ B1.a := by
      rw [hBa]
      exact ne_of hbd hlay (by intro z; cases z)
    generalize hH2 : upd (upd H p (.dK [])) B.nl (.lst ((B.na.set th p).map V.ref)) = H2 at D1 hst
    have hb2 : H2 b = some (.dK (nkv t l)) := by rw [← hH2]; exact hb1 _
    refine ⟨b, _, hb2, trivial, fun od => ?_⟩
    have D3 := D1.outer (H' := upd H2 b (.frz od (.dK (nkv t l)))) (b := b) (fun c o e h => by rw [upd_ne h]; exact e) nfb nba
    generalize hS1 : S.withNotes (S.notes.set th []) = S1 at D1 D3 k
    have hne1 : ∀ j, j < t + w + r → S1.tr j ≠ [] := by rw [← hS1]; exact hne
    refine ⟨_, rfl, b, od, nkv t l, rfl, upd_same, for_it walk_items (fun i σ H' => ∃ c p : Option V, σ = [some (.ref m), some (.int (th : Int)), some (.ref b), c, p] ∧ MemAt C M H' m t w r B1 (fenceS S1 (l.take i)) ∧ H' b = some (.frz od (.dK (nkv t l))) ∧ Step m (t + w + r) B1 (upd H2 b (.frz od (.dK (nkv t l)))) B1 H')
      ⟨_, _, rfl, D3, upd_same, Step.refl⟩ (fun i σ H' _ ⟨_, _, _, _, q, _⟩ => q) ?_ ?_⟩
    · rintro i x σ H3 H4 hi ⟨c, pl, rfl, D4, hb4, st⟩ ⟨T0, x1, x2, rfl, nT, rfl, ex1, ex2⟩
      have hil : i < l.length := by
        unfold nkv at hi
        rw [List.length_map] at hi
        exact hi
      have hli : l[i]? = some l[i] := List.getElem?_eq_getElem hil
      have eN : (nkv t l)[i]? = some ((Sum.inl ((1 + t + l[i].1 : Nat) : Int) : Key), V.int l[i].2) := by
        unfold nkv
        rw [List.getElem?_map, hli]
        rfl
      dsimp only at ex1 ex2
      rw [eN] at ex1 ex2
      have ex1 : V.int ((1 + t + l[i].1 : Nat) : Int) = x1 := Option.some.inj ex1
      have ex2 : V.int l[i].2 = x2 := Option.some.inj ex2
      subst ex1
      subst ex2
      have sT : Same H3 (upd H3 T0 (.tup [V.int ((1 + t + l[i].1 : Nat) : Int), V.int l[i].2])) := fun c o e => by rw [upd_ne (ne_of_none e nT)]; exact e
      have D5 := D4.same sT
      have hj : l[i].1 < t + w + r := hl _ (List.getElem_mem hil)
      obtain ⟨dx5, h5⟩ := D5.ob
      refine ⟨T0, _, rfl, SqT.of upd_same, rfl, _, _, rfl, _, _, rfl, rfl, ?_⟩
      have hg : DGet (upd H3 T0 (.tup [V.int ((1 + t + l[i].1 : Nat) : Int), V.int l[i].2])) B1.ld (.int ((1 + t + l[i].1 : Nat) : Int)) (some (.int ((fenceS S1 (l.take i)).lost l[i].1))) := by
        have := DGet.k (k := (Sum.inl ((1 + t + l[i].1 : Nat) : Int) : Key)) D5.ld
        rw [show ((1 + t + l[i].1 : Nat) : Int) = ((1 + t : Nat) : Int) + (l[i].1 : Int) by omega, kv_val _ _ _ _ hj, show ((1 + t : Nat) : Int) + (l[i].1 : Int) = ((1 + t + l[i].1 : Nat) : Int) by omega] at this
        exact this
      refine ⟨_, rfl, m, dx5, _, rfl, h5, rfl, _, rfl, _, rfl, _, rfl, m, M, dx5, _, _, rfl, h5, TM.cl, TM.nO, rfl, _, rfl, B1.ld, _, rfl, hg, _, _, rfl, rfl, m, t, w, r, l[i].1, B1, _, _, rfl, nok, D5, hj, fence_ne hne1 _ hj, fun H6 D6 st6 => ?_⟩
      refine ⟨_, _, rfl, ?_, ?_, (st.trans (Step.same sT)).trans st6⟩
      · rw [fenceS_take hli]
        exact D6
      · exact st6.chg _ _ (sT _ _ hb4) nfb
    · rintro σ H3 ⟨c, pl, rfl, D4, hb4, st⟩
      have el : l.take (nkv t l).length = l := by
        unfold nkv
        rw [List.length_map, List.take_length]
      rw [el] at D4
      refine ⟨hb4, ?_⟩
      refine k B1 _ hBa (D4.outer (b := b) (fun c o e h => by rw [upd_ne h]; exact e) nfb nba) ?_
      refine hst.trans ⟨fun c o e hc => ?_, fun c hc => .inl hc⟩
      by_cases q : c = b
      · subst q
        rw [upd_same, ← e]
        exact hb2.symm
      · rw [upd_ne q]
        refine st.chg c o ?_ hc
        rw [upd_ne q]
        exact e
end
end Dk

set_option maxHeartbeats 4000000
/-! an access -/
namespace Dk
open PySem PySem.Spec PyProof.Rows L2
abbrev sAccess : Stmt := inClass (top 23) 1
abbrev sResult : Stmt := inClass (top 23) 9
def putN (l : List (Nat × Int)) (j : Nat) (x : Int) : List (Nat × Int) := if (l.any fun p => decide (p.1 = j)) = true then l.map (fun p => if p.1 = j then (p.1, x) else p) else l ++ [(j, x)]
theorem putN_kv (t : Nat) (l : List (Nat × Int)) (j : Nat) (x : Int) : putK (nkv t l) (Sum.inl ((1 + t + j : Nat) : Int) : Key) (.int x) = nkv t (putN l j x) := by
  have ek : ∀ p : Nat × Int, ((Sum.inl ((1 + t + p.1 : Nat) : Int) : Key) = Sum.inl ((1 + t + j : Nat) : Int)) ↔ p.1 = j := fun p => ⟨fun e => by have := Sum.inl.inj e; omega, fun e => by rw [e]⟩
  have ea : ((nkv t l).any fun kv => decide (kv.1 = (Sum.inl ((1 + t + j : Nat) : Int) : Key))) = (l.any fun p => decide (p.1 = j)) := by
    unfold nkv
    rw [List.any_map]
    congr 1
    funext p
    exact decide_eq_decide.mpr (ek p)
  unfold putK putN
  rw [ea]
  by_cases c : (l.any fun p => decide (p.1 = j)) = true
  · rw [if_pos c, if_pos c]
    unfold nkv
    rw [List.map_map, List.map_map]
    refine List.map_congr_left fun p _ => ?_
    show (if (Sum.inl ((1 + t + p.1 : Nat) : Int) : Key) = Sum.inl ((1 + t + j : Nat) : Int) then _ else _) = _
    by_cases e : p.1 = j
    · rw [if_pos ((ek p).mpr e)]
      show _ = ((Sum.inl ((1 + t + (if p.1 = j then (p.1, x) else p).1 : Nat) : Int) : Key), V.int (if p.1 = j then (p.1, x) else p).2)
      rw [if_pos e]
    · rw [if_neg (fun q => e ((ek p).mp q))]
      show _ = ((Sum.inl ((1 + t + (if p.1 = j then (p.1, x) else p).1 : Nat) : Int) : Key), V.int (if p.1 = j then (p.1, x) else p).2)
      rw [if_neg e]
  · rw [if_neg c, if_neg c]
    unfold nkv
    rw [List.map_append]
    rfl
theorem putN_len (l : List (Nat × Int)) (j : Nat) (x : Int) : (putN l j x).length ≤ l.length + 1 := by
  unfold putN
  split
  · rw [List.length_map]; omega
  · rw [List.length_append, List.length_singleton]; omega
theorem putN_mem {l : List (Nat × Int)} {j n : Nat} {x : Int} (h : ∀ p, p ∈ l → p.1 < n) (hj : j < n) : ∀ p, p ∈ putN l j x → p.1 < n := by
  intro p hp
  unfold putN at hp
  split at hp
  · obtain ⟨q, hq, e⟩ := List.mem_map.mp hp
    split at e
    · rw [← e]; exact h q hq
    · rw [← e]; exact h q hq
  · rcases List.mem_append.mp hp with m | m
    · exact h p m
    · rw [List.mem_singleton.mp m]; exact hj
/-- what a memory's state keeps to -/
structure SOk (S : MS) (t n B : Nat) : Prop where
  psl : S.ps.length = 1 + t
  tne : ∀ j, j < n → S.tr j ≠ []
  tlen : ∀ j, j < n → (S.tr j).length ≤ B + 1
  nts : ∀ th, th < t → ∃ l, S.notes[th]? = some (nkv t l) ∧ (∀ p, p ∈ l → p.1 < n) ∧ l.length ≤ B
  log : S.log.length ≤ B
/-- what an access gives, and what the memory holds behind it -/
def Res (K : PySem.W.Frag) (S : MS) (t th : Nat) (H H' : Hp) : Rq → V → MS → Prop
  | .read i, v, S' => cellV S t i = some v ∧ S' = S
  | .write i x, v, S' => v = .non ∧ S' = S.give t i x
  | .swap i o n, v, S' => ∃ p tp to, cellV S t i = some p ∧ Dvl K H p tp ∧ Dvl K H o to ∧ ((tp = to ∧ v = .bl true ∧ S' = S.give t i n) ∨ (tp ≠ to ∧ v = .bl false ∧ S' = S))
  | .decide i x, v, S' => ∃ p tp, cellV S t i = some p ∧ Dvl K H p tp ∧ ((tp = .sc (.int 0) ∧ v = .bl true ∧ ∃ q, H' q = some (.tup [.str x, .int S.count]) ∧ S' = S.give t i (.ref q)) ∨ (tp ≠ .sc (.int 0) ∧ v = .bl false ∧ S' = S))
  | .flush i, v, S' => v = .non ∧ ∃ l, S.notes[th]? = some (nkv t l) ∧ S' = S.withNotes (S.notes.set th (nkv t (putN l (i - (1 + t)) (S.lost (i - (1 + t)) + ((S.tr (i - (1 + t))).length : Int) - 1))))
  | .fence, v, S' => v = .non ∧ ∃ l, S.notes[th]? = some (nkv t l) ∧ S' = fenceS (S.withNotes (S.notes.set th [])) l
/-- the present value where it is compared -/
def Rq.flatAt (K : PySem.W.Frag) (H : Hp) (S : MS) (t : Nat) : Rq → Prop
  | .swap i _ _ => ∃ p tp, cellV S t i = some p ∧ Dvl K H p tp
  | .decide i _ => ∃ p tp, cellV S t i = some p ∧ Dvl K H p tp
  | _ => True
theorem SOk.cell {S : MS} {t n B i : Nat} (h : SOk S t n B) (hi : i < 1 + t + n) : ∃ v, cellV S t i = some v := by
  unfold cellV
  by_cases c : i < 1 + t
  · rw [if_pos c]
    exact ⟨_, List.getElem?_eq_getElem (by rw [h.psl]; exact c)⟩
  · rw [if_neg c]
    have := h.tne (i - (1 + t)) (by omega)
    exact ⟨_, List.getLast?_eq_some_getLast this⟩
def spResult (K : PySem.W.Frag) (C M : Addr) : Sp := fun vs H Q _ => ∃ (m : Addr) (t w r th B : Nat) (A : Adr) (S : MS) (rq : Rq) (q : Addr), vs = [.ref m, .int (th : Int), .ref q] ∧ NOk t w r ∧ MemAt C M H m t w r A S ∧ th < t ∧ H q = some (.tup rq.vs) ∧ rq.ok t w r ∧ SOk S t (t + w + r) B ∧ B + 5 < sizeLine ∧ rq.vals K H ∧ rq.flatAt K H S t ∧
  ∀ (v : V) (A' : Adr) (S' : MS) (H' : Hp), A'.a = A.a → Res K S t th H H' rq v S' → MemAt C M H' m t w r A' S' → Step m (t + w + r) A H A' H' → Q v H'
section
variable {P : Program} {w : World} {K : PySem.W.Frag} {mg : Str → Option Value} {base : Heap} {C M NV LE : Addr}
abbrev NR : List Str := ["self", "thread", "request", "cell", "value", "old", "new", "word"]
theorem scResult : FnScope NR ["self", "thread", "request"] (defScope sResult) := ⟨rfl, rfl, rfl, by decide +kernel, rfl, by decide +kernel, by decide +kernel⟩
theorem mo_result (F : MT K M "_result" "Memory._result" sResult ["self", "thread", "request"]) (T : LTxt K mg C) (TM : MTxt K M) (GP : MO P w K mg base CX0 M 8 "peek" ["self", "cell"] (spPeek C M)) (GG : MO P w K mg base CX0 M 8 "_give" ["self", "cell", "value"] (spGive C M))
    (GI : MO P w K mg base CX0 M 9 "_give_if" ["self", "cell", "old", "new"] (spGiveIf K C M)) (GF : MO P w K mg base CX0 M 2 "_fence" ["self", "thread"] (spFence C M)) : MO P w K mg base CX0 M 10 "_result" ["self", "thread", "request"] (spResult K C M) := by
  obtain ⟨f, fd, F, hm, hb⟩ := F
  refine ⟨f, fd, ?_, hm, hb⟩
  refine F.ok scResult (fun vs H Q E h => ?_) (fun cdv A outer s H vs Q E hr h => ?_)
  · obtain ⟨m, t, w, r, th, B, A, S, rq, q, rfl, _⟩ := h
    rfl
  · obtain ⟨m, t, w, r, th, B, A0, S, rq, q, rfl, nok, D, hth, hq, ok, so, hB, vals, hfl, k⟩ := h
    obtain ⟨dx, h1⟩ := D.ob
    have hu := hu_of hr
    have nd := scResult.nd
    have hr8 : Room 8 _ := hr.mono (by decide)
    have hr2 : Room 2 _ := hr.mono (by decide)
    refine ⟨_, pss_cons (ps_match (pv 2)
        (pms_case (is := [3]) rfl nd (.cons rfl rfl .nil) (pss_one (ps_ret (pm_ GP TM.cl hr8 (pv 0) (pa_cons (pv 3) pa_nil))))
        (pms_case (is := [3, 4]) rfl nd (.cons rfl rfl (.cons rfl rfl .nil)) (pss_one (ps_expr (pm_ GG TM.cl hr8 (pv 0) (pa_cons (pv 3) (pa_cons (pv 4) pa_nil)))))
        (pms_case (is := [3, 5, 6]) rfl nd (.cons rfl rfl (.cons rfl rfl (.cons rfl rfl .nil))) (pss_one (ps_ret (pm_ GI TM.cl hr (pv 0) (pa_cons (pv 3) (pa_cons (pv 5) (pa_cons (pv 6) pa_nil))))))
        (pms_case (is := [3, 7]) rfl nd (.cons rfl rfl (.cons rfl rfl .nil)) (pss_one (ps_ret (pm_ GI TM.cl hr (pv 0) (pa_cons (pv 3) (pa_cons pe_int (pa_cons (pe_tup (pa_cons (pv 7) (pa_cons (pe_fld (pv 0) rfl) pa_nil))) pa_nil))))))
        (pms_case (is := [3]) rfl nd (.cons rfl rfl .nil) (pss_one (ps_dput hu (pe_ix ix_list (pe_fld (pv 0) rfl) (pv 1) (fun _ _ => rfl)) (pv 3)
          (pe_op op_sub (pe_op op_add (pe_dget hu (pe_fld (pv 0) rfl) (pv 3) (fun _ _ => rfl)) (pe_callB call_len_seq (by rfl) T.bn.len PySem.boot_len (pa_cons (pe_dget hu (pe_fld (pv 0) rfl) (pv 3) (fun _ _ => rfl)) pa_nil))) pe_int) rfl))
        (pms_case (is := []) rfl nd .nil (pss_one (ps_expr (pm_ GF TM.cl hr2 (pv 0) (pa_cons (pv 1) pa_nil)))) pms_nil)))))))
      (pss_one (ps_ret pe_non)), ?_⟩
    refine ⟨_, rfl, q, _, rfl, SqT.of hq, ?_⟩
    cases rq with
    | read i =>
      obtain ⟨v, hv⟩ := so.cell ok
      refine mhit rfl ?_
      exact ⟨_, rfl, m, dx, _, rfl, h1, rfl, _, rfl, m, t, w, r, i, A0, S, v, rfl, D, ok, hv, k v A0 S H rfl ⟨hv, rfl⟩ D Step.refl⟩
    | write i x =>
      have ok : i < 1 + t + (t + w + r) := ok
      refine mmiss (by decide +kernel) (mhit rfl ?_)
      refine ⟨_, rfl, m, dx, _, rfl, h1, rfl, _, rfl, _, rfl, m, t, w, r, i, A0, S, x, rfl, D, ok, fun c => by rw [so.psl]; exact c, fun c => by have := so.tlen (i - (1 + t)) (by omega); omega, fun H' D' s' => ?_⟩
      exact k .non A0 _ H' rfl ⟨rfl, rfl⟩ D' s'
    | swap i o n =>
      have ok : i < 1 + t + (t + w + r) := ok
      obtain ⟨⟨to, fo⟩, tn, fn⟩ := vals
      obtain ⟨p, tp, hp, fp⟩ := hfl
      refine mmiss (by decide +kernel) (mmiss (by decide +kernel) (mhit rfl ?_))
      refine ⟨_, rfl, m, dx, _, rfl, h1, rfl, _, rfl, _, rfl, _, rfl, m, t, w, r, i, A0, S, o, n, p, tp, to, rfl, D, ok, hp, fp, fo, fun c => by rw [so.psl]; exact c, fun c => by have := so.tlen (i - (1 + t)) (by omega); omega, fun e H' D' s' => ?_, fun e H' s' => ?_⟩
      · exact k _ A0 _ H' rfl ⟨p, tp, to, hp, fp, fo, .inl ⟨e, rfl, rfl⟩⟩ D' s'
      · exact k _ A0 _ H' rfl ⟨p, tp, to, hp, fp, fo, .inr ⟨e, rfl, rfl⟩⟩ (D.same s') (Step.same s')
    | decide i x =>
      have ok : i < 1 + t + (t + w + r) := ok
      obtain ⟨p, tp, hp, fp⟩ := hfl
      refine mmiss (by decide +kernel) (mmiss (by decide +kernel) (mmiss (by decide +kernel) (mhit rfl ?_)))
      refine ⟨_, rfl, m, dx, _, rfl, h1, rfl, _, rfl, _, rfl, _, rfl, m, M, dx, _, _, rfl, h1, TM.cl, TM.nC, rfl, (by show 2 ≤ sizeLine; decide), fun u hu' => ?_⟩
      have s1 : Same H (upd H u (.tup [V.str x, V.int S.count])) := fun b o e => by rw [upd_ne (ne_of_none e hu')]; exact e
      refine ⟨m, t, w, r, i, A0, S, .int 0, .ref u, p, tp, .sc (.int 0), rfl, D.same s1, ok, hp, fp.same s1, Dvl.int 0, fun c => by rw [so.psl]; exact c, fun c => by have := so.tlen (i - (1 + t)) (by omega); omega, fun e H' D' s' => ?_, fun e H' s' => ?_⟩
      · refine k _ A0 _ H' rfl ⟨p, tp, hp, fp, .inl ⟨e, rfl, u, ?_, rfl⟩⟩ D' ((Step.same s1).trans s')
        refine s'.chg _ _ upd_same fun hf => ?_
        rcases hf with q | q | q | q | q | q | ⟨j, hj, q⟩ | q
        · exact ne_of_none h1 hu' q.symm
        · exact ne_of_none D.ps hu' q.symm
        · exact ne_of_none D.tr.d hu' q.symm
        · exact ne_of_none D.ld hu' q.symm
        · exact ne_of_none D.nl hu' q.symm
        · exact ne_of_none D.gl hu' q.symm
        · exact ne_of_none (D.tr.l j hj) hu' q.symm
        · obtain ⟨z, hz⟩ := List.getElem?_of_mem q
          obtain ⟨ns, _, e2⟩ := D.no z u hz
          exact ne_of_none e2 hu' rfl
      · exact k _ A0 _ H' rfl ⟨p, tp, hp, fp, .inr ⟨e, rfl, rfl⟩⟩ ((D.same s1).same s') ((Step.same s1).trans (Step.same s'))
    | flush i =>
      obtain ⟨o1, o2⟩ := ok
      have hj : i - (1 + t) < t + w + r := by omega
      obtain ⟨l, hl, hl2, hl3⟩ := so.nts th hth
      have hlen : th < A0.na.length := by rw [D.nn]; exact hth
      obtain ⟨b, hbn⟩ : ∃ b, A0.na[th]? = some b := ⟨A0.na[th], List.getElem?_eq_getElem hlen⟩
      obtain ⟨ns, e1, hbd⟩ := D.no th b hbn
      rw [hl] at e1
      have e1 := (Option.some.inj e1).symm
      subst e1
      have hv : (A0.na.map V.ref)[th]? = some (.ref b) := by rw [List.getElem?_map, hbn]; rfl
      refine mmiss (by decide +kernel) (mmiss (by decide +kernel) (mmiss (by decide +kernel) (mmiss (by decide +kernel) (mhit rfl ?_))))
      have hg : DGet H A0.ld (.int (i : Int)) (some (.int (S.lost (i - (1 + t))))) := by
        have := DGet.k (k := (Sum.inl (i : Int) : Key)) D.ld
        rw [show (i : Int) = ((1 + t : Nat) : Int) + ((i - (1 + t) : Nat) : Int) by omega, kv_val _ _ _ _ hj, show ((1 + t : Nat) : Int) + ((i - (1 + t) : Nat) : Int) = (i : Int) by omega] at this
        exact this
      refine ⟨_, rfl, m, M, dx, _, _, rfl, h1, TM.cl, TM.nO, rfl, _, rfl, A0.ld, _, rfl, hg, _, rfl, m, M, dx, _, _, rfl, h1, TM.cl, TM.nT, rfl, _, rfl, A0.td, _, rfl, tr_get D o1 o2, A0.tl (i - (1 + t)), _, rfl, .inl (SqL.of (D.tr.l _ hj)), _, _, rfl, rfl, _, _, rfl, rfl, ?_⟩
      refine ⟨_, rfl, m, M, dx, _, _, rfl, h1, TM.cl, TM.nN, rfl, _, rfl, A0.nl, _, _, _, rfl, rfl, SqL.of D.nl, atI_nat hv, _, rfl, b, _, rfl, DPut.k (k := Sum.inl _) hbd (by unfold nkv; rw [List.length_map]; omega), ?_⟩
      have ek : (Sum.inl (i : Int) : Key) = Sum.inl ((1 + t + (i - (1 + t)) : Nat) : Int) := by rw [show 1 + t + (i - (1 + t)) = i by omega]
      rw [ek, putN_kv]
      exact k .non A0 _ _ rfl ⟨rfl, l, hl, rfl⟩ (D.setNotes hbn _) (Step.up (.inr (.inr (.inr (.inr (.inr (.inr (.inr (List.mem_of_getElem? hbn)))))))))
    | fence =>
      obtain ⟨l, hl, hl2, hl3⟩ := so.nts th hth
      refine mmiss (by decide +kernel) (mmiss (by decide +kernel) (mmiss (by decide +kernel) (mmiss (by decide +kernel) (mmiss (by decide +kernel) (mhit rfl ?_)))))
      refine ⟨_, rfl, m, dx, _, rfl, h1, rfl, _, rfl, m, t, w, r, th, A0, S, l, rfl, nok, D, hth, hl, hl2, so.tne, fun A' H' ea D' s' => ?_⟩
      exact k .non A' _ H' ea ⟨rfl, l, hl, rfl⟩ D' s'
end
end Dk

set_option maxHeartbeats 4000000
/-! access; drift -/
namespace Dk
open PySem PySem.Spec PyProof.Rows L2
theorem SOk.mono {S : MS} {t n B B' : Nat} (h : SOk S t n B) (hb : B ≤ B') : SOk S t n B' := ⟨h.psl, h.tne, fun j hj => by have := h.tlen j hj; omega, fun th hth => let ⟨l, a, b, c⟩ := h.nts th hth; ⟨l, a, b, by omega⟩, by have := h.log; omega⟩
theorem SOk.logged {S : MS} {t n B : Nat} {c : Int} {x : V} (h : SOk S t n B) : SOk ((S.withCount c).withLog (S.log ++ [x])) t n (B + 1) := by
  refine ⟨h.psl, h.tne, fun j hj => ?_, fun th hth => ?_, ?_⟩
  · have := h.tlen j hj
    show (S.tr j).length ≤ B + 1 + 1
    omega
  · obtain ⟨l, a, b, c⟩ := h.nts th hth
    exact ⟨l, a, b, by omega⟩
  · show (S.log ++ [x]).length ≤ B + 1
    rw [List.length_append, List.length_singleton]
    have := h.log
    omega
theorem SOk.give {S : MS} {t n B i : Nat} {v : V} (h : SOk S t n B) (hi : i < 1 + t + n) : SOk (S.give t i v) t n (B + 1) := by
  have h' := h.mono (Nat.le_succ B)
  unfold MS.give
  by_cases c : i < 1 + t
  · rw [if_pos c]
    refine ⟨?_, h.tne, h'.tlen, h'.nts, h'.log⟩
    show (S.ps.set i v).length = 1 + t
    rw [List.length_set, h.psl]
  · rw [if_neg c]
    refine ⟨h.psl, fun j hj => ?_, fun j hj => ?_, h'.nts, h'.log⟩
    · show sett S.tr (i - (1 + t)) (S.tr (i - (1 + t)) ++ [v]) j ≠ []
      by_cases e : j = i - (1 + t)
      · rw [e, sett_same]
        intro z
        have := congrArg List.length z
        rw [List.length_append, List.length_singleton, List.length_nil] at this
        omega
      · rw [sett_ne e]; exact h.tne j hj
    · show (sett S.tr (i - (1 + t)) (S.tr (i - (1 + t)) ++ [v]) j).length ≤ B + 1 + 1
      by_cases e : j = i - (1 + t)
      · rw [e, sett_same, List.length_append, List.length_singleton]
        have := h.tlen (i - (1 + t)) (by omega)
        omega
      · rw [sett_ne e]
        have := h.tlen j hj
        omega
theorem SOk.short {S : MS} {t n B j : Nat} {k : Int} (h : SOk S t n B) : SOk (S.short j k) t n B := by
  refine ⟨h.psl, short_ne h.tne, fun i hi => ?_, h.nts, h.log⟩
  show (sett S.tr j ((S.tr j).drop (cutN (S.tr j).length k)) i).length ≤ B + 1
  by_cases e : i = j
  · rw [e, sett_same, List.length_drop]
    have := h.tlen j (by omega)
    omega
  · rw [sett_ne e]; exact h.tlen i hi
theorem SOk.fence {t n B : Nat} : ∀ {l : List (Nat × Int)} {S : MS}, SOk S t n B → SOk (fenceS S l) t n B
  | [], _, h => h
  | p :: l, S, h => SOk.fence (l := l) (S := S.short p.1 (p.2 - S.lost p.1)) h.short
theorem SOk.notes {S : MS} {t n B th : Nat} {l : List (Nat × Int)} (h : SOk S t n B) (hl : ∀ p, p ∈ l → p.1 < n) (hb : l.length ≤ B) : SOk (S.withNotes (S.notes.set th (nkv t l))) t n B := by
  refine ⟨h.psl, h.tne, h.tlen, fun k hk => ?_, h.log⟩
  show ∃ l', (S.notes.set th (nkv t l))[k]? = some (nkv t l') ∧ _
  obtain ⟨l0, a, b, c⟩ := h.nts k hk
  by_cases e : k = th
  · subst e
    exact ⟨l, List.getElem?_set_self (List.getElem?_eq_some_iff.mp a).1, hl, hb⟩
  · exact ⟨l0, by rw [List.getElem?_set_ne (fun z => e z.symm)]; exact a, b, c⟩
theorem Res.ok {K : PySem.W.Frag} {S S' : MS} {t w r th B : Nat} {H H' : Hp} {rq : Rq} {v : V} (R : Res K S t th H H' rq v S') (ok : rq.ok t w r) (hth : th < t) (h : SOk S t (t + w + r) B) : SOk S' t (t + w + r) (B + 1) := by
  cases rq with
  | read i => obtain ⟨_, rfl⟩ := R; exact h.mono (Nat.le_succ B)
  | write i x => obtain ⟨_, rfl⟩ := R; exact h.give ok
  | swap i o n =>
    obtain ⟨p, _, _, _, _, _, ⟨_, _, rfl⟩ | ⟨_, _, rfl⟩⟩ := R
    · exact h.give ok
    · exact h.mono (Nat.le_succ B)
  | decide i x =>
    obtain ⟨p, _, _, _, ⟨_, _, q, _, rfl⟩ | ⟨_, _, rfl⟩⟩ := R
    · exact h.give ok
    · exact h.mono (Nat.le_succ B)
  | flush i =>
    obtain ⟨_, l, hl, rfl⟩ := R
    obtain ⟨o1, o2⟩ := ok
    obtain ⟨l0, a, b, c⟩ := h.nts th hth
    rw [hl] at a
    have e : l = l0 := by
      have e1 := Option.some.inj a
      have inj : ∀ (x y : List (Nat × Int)), nkv t x = nkv t y → x = y := fun x => by
        induction x with
        | nil => intro y e; cases y with | nil => rfl | cons _ _ => cases e
        | cons p x ih =>
          intro y e
          cases y with
          | nil => cases e
          | cons q y =>
            have e : ((Sum.inl ((1 + t + p.1 : Nat) : Int) : Key), V.int p.2) :: nkv t x = ((Sum.inl ((1 + t + q.1 : Nat) : Int) : Key), V.int q.2) :: nkv t y := e
            injection e with e1 e2
            have e3 := Sum.inl.inj (congrArg Prod.fst e1)
            have e4 := V.int.inj (congrArg Prod.snd e1)
            rw [ih y e2]
            have : p = q := Prod.ext (by omega) e4
            rw [this]
      exact inj _ _ e1
    subst e
    exact (h.mono (Nat.le_succ B)).notes (putN_mem b (by omega)) (by have := putN_len l (i - (1 + t)) (S.lost (i - (1 + t)) + ((S.tr (i - (1 + t))).length : Int) - 1); omega)
  | fence =>
    obtain ⟨_, l, hl, rfl⟩ := R
    exact SOk.fence ((h.mono (Nat.le_succ B)).notes (l := []) (fun p hp => by cases hp) (Nat.zero_le _))
theorem short_count {S : MS} {j : Nat} {k : Int} : (S.short j k).count = S.count ∧ (S.short j k).log = S.log := ⟨rfl, rfl⟩
theorem fence_count : ∀ {l : List (Nat × Int)} {S : MS}, (fenceS S l).count = S.count ∧ (fenceS S l).log = S.log
  | [], _ => ⟨rfl, rfl⟩
  | p :: l, S => fence_count (l := l) (S := S.short p.1 (p.2 - S.lost p.1))
theorem give_count {S : MS} {t i : Nat} {v : V} : (S.give t i v).count = S.count ∧ (S.give t i v).log = S.log := by
  unfold MS.give
  split <;> exact ⟨rfl, rfl⟩
theorem Res.count {K : PySem.W.Frag} {S S' : MS} {t th : Nat} {H H' : Hp} {rq : Rq} {v : V} (R : Res K S t th H H' rq v S') : S'.count = S.count ∧ S'.log = S.log := by
  cases rq with
  | read i => obtain ⟨_, rfl⟩ := R; exact ⟨rfl, rfl⟩
  | write i x => obtain ⟨_, rfl⟩ := R; exact give_count
  | swap i o n =>
    obtain ⟨p, _, _, _, _, _, ⟨_, _, rfl⟩ | ⟨_, _, rfl⟩⟩ := R
    · exact give_count
    · exact ⟨rfl, rfl⟩
  | decide i x =>
    obtain ⟨p, _, _, _, ⟨_, _, q, _, rfl⟩ | ⟨_, _, rfl⟩⟩ := R
    · exact give_count
    · exact ⟨rfl, rfl⟩
  | flush i => obtain ⟨_, l, hl, rfl⟩ := R; exact ⟨rfl, rfl⟩
  | fence => obtain ⟨_, l, hl, rfl⟩ := R; exact fence_count
theorem Res.ext {K : PySem.W.Frag} {S S' : MS} {t th : Nat} {H0 H H' H1 : Hp} {rq : Rq} {v : V} (R : Res K S t th H0 H rq v S') (s0 : ExT H0 H1) (s : ExT H H') : Res K S t th H1 H' rq v S' := by
  cases rq with
  | swap i o n =>
    obtain ⟨p, tp, to, h1, h2, h3, h4⟩ := R
    exact ⟨p, tp, to, h1, h2.ext s0, h3.ext s0, h4⟩
  | decide i x =>
    obtain ⟨p, tp, hp, h2, ⟨e1, e2, q, hq, e3⟩ | h⟩ := R
    · exact ⟨p, tp, hp, h2.ext s0, .inl ⟨e1, e2, q, s.1 _ _ hq, e3⟩⟩
    · exact ⟨p, tp, hp, h2.ext s0, .inr h⟩
  | _ => exact R
theorem flatAt_log {K : PySem.W.Frag} {H : Hp} {S : MS} {t : Nat} {c : Int} {l : List V} {rq : Rq} (h : rq.flatAt K H S t) : rq.flatAt K H ((S.withCount c).withLog l) t := by
  cases rq <;> exact h
theorem flatAt_ext {K : PySem.W.Frag} {H H' : Hp} {S : MS} {t : Nat} {rq : Rq} (h : rq.flatAt K H S t) (s : ExT H H') : rq.flatAt K H' S t := by
  cases rq with
  | swap i o n => exact let ⟨p, tp, h1, h2⟩ := h; ⟨p, tp, h1, h2.ext s⟩
  | decide i x => exact let ⟨p, tp, h1, h2⟩ := h; ⟨p, tp, h1, h2.ext s⟩
  | _ => exact h
theorem vals_ext {K : PySem.W.Frag} {H H' : Hp} {rq : Rq} (h : rq.vals K H) (s : ExT H H') : rq.vals K H' := by
  cases rq with
  | write i v => exact let ⟨t, h⟩ := h; ⟨t, h.ext s⟩
  | swap i o n => exact let ⟨⟨t, h⟩, u, h2⟩ := h; ⟨⟨t, h.ext s⟩, u, h2.ext s⟩
  | _ => trivial
theorem tup_out {C M : Addr} {H : Hp} {m : Addr} {t w r : Nat} {A : Adr} {S : MS} (D : MemAt C M H m t w r A S) {u : Addr} {xs : List V} (hu : H u = some (.tup xs)) : ¬ Foot m A (t + w + r) u := fun hf => by
  obtain ⟨dx, h1⟩ := D.ob
  rcases hf with q | q | q | q | q | q | ⟨j, hj, q⟩ | q
  · exact ne_of hu h1 (by intro z; cases z) q
  · exact ne_of hu D.ps (by intro z; cases z) q
  · exact ne_of hu D.tr.d (by intro z; cases z) q
  · exact ne_of hu D.ld (by intro z; cases z) q
  · exact ne_of hu D.nl (by intro z; cases z) q
  · exact ne_of hu D.gl (by intro z; cases z) q
  · exact ne_of hu (D.tr.l j hj) (by intro z; cases z) q
  · obtain ⟨z, hz⟩ := List.getElem?_of_mem q
    obtain ⟨ns, _, e2⟩ := D.no z u hz
    exact ne_of hu e2 (by intro z; cases z) rfl
theorem frz_out {C M : Addr} {H : Hp} {m : Addr} {t w r : Nat} {A : Adr} {S : MS} (D : MemAt C M H m t w r A S) {u : Addr} {o : Obj} {x : HO} (hu : H u = some (.frz o x)) : ¬ Foot m A (t + w + r) u := fun hf => by
  obtain ⟨dx, h1⟩ := D.ob
  rcases hf with q | q | q | q | q | q | ⟨j, hj, q⟩ | q
  · exact ne_of hu h1 (by intro z; cases z) q
  · exact ne_of hu D.ps (by intro z; cases z) q
  · exact ne_of hu D.tr.d (by intro z; cases z) q
  · exact ne_of hu D.ld (by intro z; cases z) q
  · exact ne_of hu D.nl (by intro z; cases z) q
  · exact ne_of hu D.gl (by intro z; cases z) q
  · exact ne_of hu (D.tr.l j hj) (by intro z; cases z) q
  · obtain ⟨z, hz⟩ := List.getElem?_of_mem q
    obtain ⟨ns, _, e2⟩ := D.no z u hz
    exact ne_of hu e2 (by intro z; cases z) rfl
theorem Step.ext {C M : Addr} {H H' : Hp} {m : Addr} {t w r : Nat} {A A' : Adr} {S : MS} (st : Step m (t + w + r) A H A' H') (D : MemAt C M H m t w r A S) : ExT H H' :=
  ⟨fun b xs e => st.chg b _ e (tup_out D e), fun b o xs e => st.chg b _ e (frz_out D e)⟩
/-- o.m(e, ..) of a method that may raise, where it doesn't -/
theorem pmX_ {X : Cx} {k : Nat} {C : Addr} {ps : List Str} {sp : Sp} {m : Str} {apos pos : Pos} {e o : Expr} {es : List Expr} {ta : TE} {t : TA} {pl : Sem Bool} (G : MO X.prog X.w X.K X.mg X.base (L2.CX X.prog X.w) C k m ps sp) (c : Cls X.K C) (hr : Room k X.A) (he : PE X o ta) (ha : PA X (e :: es) t)
    (hst : starEach (e :: es) X.env = (false, eval e X.env) :: starEach es X.env := by rfl) (hpl : (backTo pos (starEach es X.env)).any (·.1) = false := by rfl)
    (ht : eval (.Call (.Attribute o m apos) (e :: es) [] pos) X.env = (do
      let ov ← eval o X.env
      standAt apos.atName
      let (f, first) ← holding [ov] (getMethod ov m pl)
      callWith pos f first (backTo pos (starEach (e :: es) X.env)) (backToKw pos (keywordEach [] X.env))) := by rfl) : PE X (.Call (.Attribute o m apos) (e :: es) [] pos) (tMeth C m sp [] E0 ta t) := by
  obtain ⟨f, fd, F, hm, hb⟩ := G
  exact pe_meth he c hm F hr hb .nil passL ha hst hpl ht
def spAccess (K : PySem.W.Frag) (C M : Addr) : Sp := fun vs H Q _ => ∃ (m : Addr) (t w r th B : Nat) (A : Adr) (S : MS) (rq : Rq) (q : Addr), vs = [.ref m, .int (th : Int), .ref q] ∧ NOk t w r ∧ MemAt C M H m t w r A S ∧ th < t ∧ H q = some (.tup rq.vs) ∧ rq.ok t w r ∧ SOk S t (t + w + r) B ∧ B + 6 < sizeLine ∧ rq.vals K H ∧ rq.flatAt K H S t ∧
  ∀ (v x : V) (p : Addr) (A' : Adr) (S' : MS) (H' : Hp), A'.a = A.a → Res K ((S.withCount (S.count + 1)).withLog (S.log ++ [x])) t th H' H' rq v S' → H' p = some (.tup [v, .int (S.count + 1)]) → SOk S' t (t + w + r) (B + 2) → MemAt C M H' m t w r A' S' → Step m (t + w + r) A H A' H' → Q (.ref p) H'
section
variable {P : Program} {w : World} {K : PySem.W.Frag} {mg : Str → Option Value} {base : Heap} {C M NV LE : Addr}
theorem scAccess : FnScope ["self", "thread", "request"] ["self", "thread", "request"] (defScope sAccess) := ⟨rfl, rfl, rfl, by decide +kernel, rfl, by decide +kernel, by decide +kernel⟩
theorem mo_access (F : MT K M "access" "Memory.access" sAccess ["self", "thread", "request"]) (T : LTxt K mg C) (TM : MTxt K M) (GH : MO P w K mg base CX0 C 3 "has_thread" ["self", "thread"] (spHasT C)) (GA : GO P w K mg base CX0 8 "is_access" ["layout", "request"] (spIsAcc K C))
    (GR : MO P w K mg base CX0 M 10 "_result" ["self", "thread", "request"] (spResult K C M)) : MO P w K mg base CX0 M 11 "access" ["self", "thread", "request"] (spAccess K C M) := by
  obtain ⟨f, fd, F, hm, hb⟩ := F
  refine ⟨f, fd, ?_, hm, hb⟩
  refine F.ok scAccess (fun vs H Q E h => ?_) (fun cdv A outer s H vs Q E hr h => ?_)
  · obtain ⟨m, t, w, r, th, B, A, S, rq, q, rfl, _⟩ := h
    rfl
  · obtain ⟨m, t, w, r, th, B, A0, S, rq, q, rfl, nok, D, hth, hq, ok, so, hB, vals, hfl, k⟩ := h
    obtain ⟨dx, h1⟩ := D.ob
    obtain ⟨da, ha⟩ := D.lay
    have hr3 : Room 3 _ := hr.mono (by decide)
    have hr8 : Room 8 _ := hr.mono (by decide)
    refine ⟨_, pss_cons (ps_if (PW.pt (pw_or (pt_not (pt_val (pm_ GH T.cl hr3 (pe_fld (pv 0) rfl) (pa_cons (pv 1) pa_nil)))) (pw_or1 (pt_not (pt_val (pc_ GA hr8 (pa_cons (pe_fld (pv 0) rfl) (pa_cons (pv 2) pa_nil)))))))) (pss_one ps_never) pss_nil)
      (pss_cons (ps_fldaug (pv 0) pe_int in_add)
      (pss_cons (ps_expr (pe_bm PySem.F.plainAttrs_list PySem.F.slot_list_append PySem.F.type_list_append mt_append (pe_fld (pv 0) rfl) (pa_cons (pe_tup (pa_cons (pe_fld (pv 0) rfl) (pa_cons (pv 1) (pa_cons (pv 2) pa_nil)))) pa_nil)))
      (pss_one (ps_ret (pe_tup (pa_cons (pm_ GR TM.cl hr (pv 0) (pa_cons (pv 1) (pa_cons (pv 2) pa_nil))) (pa_cons (pe_fld (pv 0) rfl) pa_nil))))))), ?_⟩
    refine ⟨_, rfl, m, M, dx, _, _, rfl, h1, TM.cl, TM.nL, rfl, A0.a, da, _, rfl, ha, rfl, _, rfl, A0.a, t, w, r, _, "int", rfl, rfl, ⟨da, ha⟩, _, rfl, ?_⟩
    rw [inW_nat, decide_eq_true hth]
    refine iteF ?_
    refine ⟨_, rfl, m, M, dx, _, _, rfl, h1, TM.cl, TM.nL, rfl, _, rfl, A0.a, q, t, w, r, rq, rfl, ⟨da, ha⟩, hq, ok, vals, fun H1 s1 => ⟨_, rfl, iteF ?_⟩⟩
    have D1 := D.same s1
    -- self.count += 1
    refine ⟨_, rfl, m, M, dx, _, _, rfl, s1 _ _ h1, TM.cl, TM.nC, rfl, _, _, rfl, rfl, dx, _, s1 _ _ h1, (by show 7 < 1000; decide), ?_⟩
    have D2 : MemAt C M (upd H1 m (.ins M dx (putF "count" (.int (S.count + 1)) (mf A0 S.count)))) m t w r A0 (S.withCount (S.count + 1)) := D1.setCount (S.count + 1) dx
    have q2 : upd H1 m (.ins M dx (putF "count" (.int (S.count + 1)) (mf A0 S.count))) q = some (.tup rq.vs) := by
      rw [upd_ne (ne_of hq h1 (by intro z; cases z))]
      exact s1 _ _ hq
    have st2 : Step m (t + w + r) A0 H A0 (upd H1 m (.ins M dx (putF "count" (.int (S.count + 1)) (mf A0 S.count)))) := (Step.same s1).trans (Step.up (.inl rfl))
    generalize hH2 : upd H1 m (.ins M dx (putF "count" (.int (S.count + 1)) (mf A0 S.count))) = H2 at D2 q2 st2 ⊢
    obtain ⟨dx2, h2⟩ := D2.ob
    -- self._log.append(..)
    refine ⟨_, rfl, m, M, dx2, _, _, rfl, h2, TM.cl, TM.nG, rfl, .inl ⟨rfl, _, SqL.of D2.gl⟩, _, rfl, m, M, dx2, _, _, rfl, h2, TM.cl, TM.nC, rfl, _, rfl, _, rfl, (by show 3 ≤ sizeLine; decide), fun u hu => ?_⟩
    have s3 : Same H2 (upd H2 u (.tup [.int (S.count + 1), .int (th : Int), .ref q])) := fun b o e => by rw [upd_ne (ne_of_none e hu)]; exact e
    have D3 := D2.same s3
    refine ⟨A0.gl, _, _, rfl, rfl, D3.gl, (by have := so.log; show S.log.length < sizeLine; omega), ?_⟩
    have D4 := D3.setLog (S.log ++ [.ref u])
    have q4 : upd (upd H2 u (.tup [.int (S.count + 1), .int (th : Int), .ref q])) A0.gl (.lst (S.log ++ [.ref u])) q = some (.tup rq.vs) := by
      rw [upd_ne (ne_of (s3 _ _ q2) D3.gl (by intro z; cases z))]
      exact s3 _ _ q2
    have st4 : Step m (t + w + r) A0 H A0 (upd (upd H2 u (.tup [.int (S.count + 1), .int (th : Int), .ref q])) A0.gl (.lst (S.log ++ [.ref u]))) := (st2.trans (Step.same s3)).trans (Step.up (.inr (.inr (.inr (.inr (.inr (.inl rfl)))))))
    have D4 : MemAt C M (upd (upd H2 u (.tup [.int (S.count + 1), .int (th : Int), .ref q])) A0.gl (.lst (S.log ++ [.ref u]))) m t w r A0 ((S.withCount (S.count + 1)).withLog (S.log ++ [.ref u])) := D4
    have hgoal : ∀ H4, MemAt C M H4 m t w r A0 ((S.withCount (S.count + 1)).withLog (S.log ++ [.ref u])) → H4 q = some (.tup rq.vs) → Step m (t + w + r) A0 H A0 H4 → (tRet (tTup (tCons (tMeth M "_result" (spResult K C M) [] E0 (tVar 0) (tCons (tVar 1) (tCons (tVar 2) tNil))) (tCons (tFld K (tVar 0) "count") tNil)))) { nx := fun _ H' => Q .non H', rt := Q } [some (.ref m), some (.int (th : Int)), some (.ref q)] H4 := fun H4 D4 q4 st4 => by
      obtain ⟨dx4, h4⟩ := D4.ob
      refine ⟨_, rfl, m, dx4, _, rfl, h4, rfl, _, rfl, _, rfl, m, t, w, r, th, B + 1, A0, _, rq, q, rfl, nok, D4, hth, q4, ok, so.logged, by omega, vals_ext vals (st4.ext D), flatAt_ext (flatAt_log hfl) (st4.ext D), fun v A' S' H5 ea R D5 st5 => ?_⟩
      obtain ⟨dx5, h5⟩ := D5.ob
      obtain ⟨hc, hlg⟩ := R.count
      refine ⟨_, rfl, m, M, dx5, _, _, rfl, h5, TM.cl, TM.nC, rfl, (by show 2 ≤ sizeLine; decide), fun p hp => ?_⟩
      have s6 : Same H5 (upd H5 p (.tup [v, .int S'.count])) := fun b o e => by rw [upd_ne (ne_of_none e hp)]; exact e
      refine k v (.ref u) p A' S' _ ea (R.ext ((st5.ext D4).trans (.of s6)) (.of s6)) ?_ (R.ok ok hth so.logged) (D5.same s6) ((st4.trans st5).trans (Step.same s6))
      rw [hc]
      exact upd_same
    exact hgoal _ D4 q4 st4
end
end Dk

set_option maxHeartbeats 4000000
/-! rules for machines: a method as a value, its call; calls by the class of the object; Base.__init__(self) -/
namespace Mr
open PySem PySem.Spec PyProof.Rows L2
section
variable {X : Cx} {k : Nat} {m x : Str} {o e : Expr} {es : List Expr} {ta : TE} {t : TA} {p apos pos : Pos}
/-- o.m as a value -/
def tBM (K : PySem.W.Frag) (ta : TE) (m : Str) : TE := fun σ H Q => ta σ H fun x H1 => ∃ a C dx fs g, x = .ref a ∧ H1 a = some (.ins C dx fs) ∧ Cls K C ∧ BMeth K C m g ∧ fs.lookup m = none ∧ ∀ q, H1 q = none → Q (.ref q) (upd H1 q (.met g a))
theorem pe_bm_ (he : PE X o ta) (hb : attributeBase o m X.env (eval o X.env) = eval o X.env := by rfl) : PE X (.Attribute o m pos) (tBM X.K ta m) := by
  refine ⟨fun pins s σ H Q I h => ?_⟩
  refine attr_of hb (thn (he.run pins s σ H _ I h) fun u s1 ⟨x, H1, I1, rx, a, C, dx, fs, g, ex, ea, c, b, l, q⟩ => ?_)
  subst ex
  exact op_getbound I1 ea c b l rx q
/-- o.m(e, ..), the def found by the object's class -/
def tMD (P : Program) (w : World) (K : PySem.W.Frag) (mg : Str → Option Value) (base : Heap) (k : Nat) (m : Str) (ta : TE) (t : TA) : TE := fun σ H Q => ta σ H fun x H1 => ∃ a C dx fs f sp, x = .ref a ∧ H1 a = some (.ins C dx fs) ∧ Cls K C ∧ Meth K C m f ∧ FnR P w K mg base CX0 k f sp ∧ fs.lookup m = none ∧
  t σ H1 fun vs H2 => sp (x :: vs) H2 Q E0
theorem pe_md {pl : Sem Bool} (he : PE X o ta) (hr : Room k X.A) (ha : PA X (e :: es) t)
    (hst : starEach (e :: es) X.env = (false, eval e X.env) :: starEach es X.env := by rfl) (hpl : (backTo pos (starEach es X.env)).any (·.1) = false := by rfl)
    (ht : eval (.Call (.Attribute o m apos) (e :: es) [] pos) X.env = (do
      let ov ← eval o X.env
      standAt apos.atName
      let (f, first) ← holding [ov] (getMethod ov m pl)
      callWith pos f first (backTo pos (starEach (e :: es) X.env)) (backToKw pos (keywordEach [] X.env))) := by rfl) : PE X (.Call (.Attribute o m apos) (e :: es) [] pos) (tMD X.prog X.w X.K X.mg X.base k m ta t) := by
  refine ⟨fun pins s σ H Q I h => ?_⟩
  refine PySem.W.methodCall_KW (pl := pl) (thn (he.run pins s σ H _ I h) fun u s1 ⟨x, H1, I1, rx, a, C, dx, fs, f, sp, ex, ea, c, hm, F, l, q⟩ => ?_) ht
  subst ex
  obtain rfl : u = Value.ref a := rx
  refine getmeth_ok I1 ea c hm l ?_
  refine PySem.W.callWith_K (first := [.ref a]) (h₀ := X.base) I.ok.mod.kin hm.kp (thn (ha.run pos pins s1 σ H1 _ I1 q) fun us s2 ⟨vs, H2, I2, r, q2⟩ => ⟨I2.kIn, ?_⟩) hst hpl
  exact wpAny_call (run_fnR (us := .ref a :: us) (vs := .ref a :: vs) F hr pass0 I2 (.cons rfl r) q2)
theorem pe_md0 {pl : Sem Bool} (he : PE X o ta) (hr : Room k X.A)
    (ht : eval (.Call (.Attribute o m apos) [] [] pos) X.env = (do
      let ov ← eval o X.env
      standAt apos.atName
      let (f, first) ← holding [ov] (getMethod ov m pl)
      callWith pos f first (backTo pos (starEach [] X.env)) (backToKw pos (keywordEach [] X.env))) := by rfl) : PE X (.Call (.Attribute o m apos) [] [] pos) (tMD X.prog X.w X.K X.mg X.base k m ta tNil) := by
  refine ⟨fun pins s σ H Q I h => ?_⟩
  refine PySem.W.methodCall_KW (pl := pl) (thn (he.run pins s σ H _ I h) fun u s1 ⟨x, H1, I1, rx, a, C, dx, fs, f, sp, ex, ea, c, hm, F, l, q⟩ => ?_) ht
  subst ex
  obtain rfl : u = Value.ref a := rx
  refine getmeth_ok I1 ea c hm l ?_
  exact PySem.W.callWith_K0 (first := [.ref a]) I1.kIn hm.kp (wpAny_call (run_fnR (us := [.ref a]) (vs := [.ref a]) F hr pass0 I1 (.cons rfl .nil) q))
/-- f(e, ..), f a name that holds a bound method -/
def tCM (P : Program) (w : World) (K : PySem.W.Frag) (mg : Str → Option Value) (base : Heap) (k : Nat) (tf : TE) (t : TA) : TE := fun σ H Q => tf σ H fun v H1 => ∃ q g a sp, v = .ref q ∧ PySem.W.fnIn K g = true ∧ FnR P w K mg base CX0 k g sp ∧ t σ H1 fun vs H2 => H2 q = some (.met g a) ∧ sp (.ref a :: vs) H2 Q E0
theorem pe_cm {tf : TE} (hf : PE X (.Name x p) tf) (hr : Room k X.A) (ha : PA X (e :: es) t)
    (he : starEach (e :: es) X.env = (false, eval e X.env) :: starEach es X.env := by rfl) (hpl : (backTo pos (starEach es X.env)).any (·.1) = false := by rfl) : PE X (.Call (.Name x p) (e :: es) [] pos) (tCM X.prog X.w X.K X.mg X.base k tf t) := by
  refine ⟨fun pins s σ H Q I h => ?_⟩
  refine wpAny_Call_Name_kw (thn (hf.run pins s σ H _ I h) fun f s0 ⟨v, H0, I0, r0, q, g, a, sp, ev, fi, F, q0⟩ => ?_)
  subst ev
  obtain rfl : f = Value.ref q := r0
  show wpAny _ _ (callWith pos (.ref q) [] (backTo pos (starEach (e :: es) X.env)) []) _ _ _
  rw [he]
  refine PySem.W.callWith_of (P := PySem.W.MethP X.K q g (.ref a)) (by show ((false || (backTo pos (starEach es X.env)).any (·.1)) || false) = false; rw [hpl]; rfl) (PySem.W.keeps_M fi) (Calls.evalArgs_plain ?_)
  have hh := ha.run pos pins s0 σ H0 _ I0 q0
  rw [he] at hh
  refine thn hh fun us s1 ⟨vs, H1, I1, r1, hm, hsp⟩ => ⟨met_P I1 hm, ?_⟩
  exact wpAny_call (call_met I1 hm (run_fnR (us := .ref a :: us) (vs := .ref a :: vs) F hr pass0 I1 (.cons rfl r1) hsp))
/-- the def that a class hands out by its name -/
structure CFn (K : PySem.W.Frag) (C : Addr) (m : Str) (f : Addr) : Prop where
  rd : ∃ mc, PySem.W.readsIn K C mc = true ∧ PySem.W.findCls K (.ref C) mc m = some (.val (.ref f))
  ga : PySem.W.specialIn K (.ref C) "__getattribute__" = some (some (.builtin "type.__getattribute__"))
  kp : PySem.W.keepIn K (.ref f) = true
/-- C.m(e, ..), C a class of the module -/
theorem pe_cls {pl : Sem Bool} {C f : Addr} {sp : Sp} (hg : Gl X x) (hm : X.mg x = some (.ref C)) (b : CFn X.K C m f) (F : FnR X.prog X.w X.K X.mg X.base CX0 k f sp) (hr : Room k X.A) (ha : PA X (e :: es) t) (hd : (x == ("__debug__" : Str)) = false := by decide)
    (hst : starEach (e :: es) X.env = (false, eval e X.env) :: starEach es X.env := by rfl) (hpl : (backTo pos (starEach es X.env)).any (·.1) = false := by rfl)
    (ht : eval (.Call (.Attribute (.Name x p) m apos) (e :: es) [] pos) X.env = (do
      let ov ← eval (.Name x p) X.env
      standAt apos.atName
      let (f, first) ← holding [ov] (getMethod ov m pl)
      callWith pos f first (backTo pos (starEach (e :: es) X.env)) (backToKw pos (keywordEach [] X.env))) := by rfl) : PE X (.Call (.Attribute (.Name x p) m apos) (e :: es) [] pos) (tCall sp [] E0 t) := by
  refine ⟨fun pins s σ H Q I h => ?_⟩
  obtain ⟨mc, rd, at_⟩ := b.rd
  refine PySem.W.methodCall_KW (pl := pl) (ld_glob I hg hm ?_ hd) ht
  refine PySem.W.method_cls I.kIn b.ga (PySem.W.cls_value I.kIn rd at_ rfl ?_)
  have I1 := I.tok (s.toks + 1)
  refine PySem.W.callWith_K (first := []) (h₀ := X.base) I.ok.mod.kin b.kp (thn (ha.run pos pins _ σ H _ I1 h) fun us s2 ⟨vs, H2, I2, r, q2⟩ => ⟨I2.kIn, ?_⟩) hst hpl
  dsimp only at q2
  rw [List.append_nil] at q2
  exact wpAny_call (run_fnR F hr pass0 I2 r q2)
end
end Mr

set_option maxHeartbeats 4000000
/-! machines -/
namespace Dk
open PySem PySem.Spec PyProof.Rows L2
abbrev sMaInit : Stmt := inClass (top 5) 0
abbrev sMaAsk : Stmt := inClass (top 5) 3
abbrev sMaEnd : Stmt := inClass (top 5) 4
abbrev sMaGo : Stmt := inClass (top 5) 5
/-- kept but at a -/
def Kept (a : Addr) (H H' : Hp) : Prop := ∀ b o, H b = some o → b ≠ a → H' b = some o
theorem up1 {H1 : Hp} {p : Addr} {o : HO} (hp : H1 p = none) : Same H1 (upd H1 p o) := fun b u e => by rw [upd_ne (ne_of_none e hp)]; exact e
theorem iteC {c : Bool} {A B : Prop} (hc : c = false) (h : B) : if c = true then A else B := by
  rw [hc]
  exact iteF h
theorem at_head {r0 : V} {rs : List V} : atI (r0 :: rs) 0 = some r0 := by
  unfold atI ixN
  rw [if_pos (by decide), if_pos (by rw [List.length_cons]; omega)]
  rfl
theorem seq_head {r0 : V} {rs : List V} : seqIndex? 0 (r0 :: rs).length = some 0 := seqIndex_of (by decide) (by rw [List.length_cons]; omega)
/-- what a machine has of its own class's base -/
structure MTx (K : PySem.W.Frag) (C : Addr) : Prop where
  cl : Cls K C
  nW : NoAttr K C "_wanted"
  nL : NoAttr K C "_left"
  nT : NoAttr K C "_then"
abbrev mfs (w : V) (l : Addr) (th : V) (rest : List (Str × V)) : List (Str × V) := ("_wanted", w) :: ("_left", .ref l) :: ("_then", th) :: rest
/-- a machine at a -/
structure MaAt (C : Addr) (H : Hp) (a dx : Addr) (w : V) (l : Addr) (th : V) (left : List V) (rest : List (Str × V)) : Prop where
  ob : H a = some (.ins C dx (mfs w l th rest))
  lf : H l = some (.lst left)
theorem MaAt.same {C : Addr} {H H' : Hp} {a dx : Addr} {w : V} {l : Addr} {th : V} {left : List V} {rest : List (Str × V)} (D : MaAt C H a dx w l th left rest) (s : Same H H') : MaAt C H' a dx w l th left rest := ⟨s _ _ D.ob, s _ _ D.lf⟩
def MD (P : Program) (w : World) (K : PySem.W.Frag) (mg : Str → Option Value) (base : Heap) (k : Nat) (C : Addr) (m : Str) (sp : Sp) : Prop := ∃ f, Meth K C m f ∧ FnR P w K mg base CX0 k f sp
theorem MO.md {P : Program} {w : World} {K : PySem.W.Frag} {mg : Str → Option Value} {base : Heap} {k : Nat} {C : Addr} {m : Str} {ps : List Str} {sp : Sp} (G : MO P w K mg base CX0 C k m ps sp) : MD P w K mg base k C m sp := by
  obtain ⟨f, fd, F, hm, hb⟩ := G
  exact ⟨f, hm, (F.raw hb .nil).imp fun vs H Q E h => by rw [List.append_nil]; exact h⟩
def spMaInit (C : Addr) : Sp := fun vs H Q _ => ∃ (a dx : Addr), vs = [.ref a] ∧ H a = some (.ins C dx []) ∧
  ∀ (H' : Hp) (e l : Addr), H e = none → H l = none → H' e = some (.tup [.str "end", .non]) → MaAt C H' a dx (.ref e) l .non [] [] → Kept a H H' → Q .non H'
def spMaAsk (C : Addr) : Sp := fun vs H Q _ => ∃ (a dx l rq : Addr) (w th th' : V) (left : List V) (rest : List (Str × V)) (r0 : V) (rs : List V), vs = [.ref a, .ref rq, th'] ∧ MaAt C H a dx w l th left rest ∧ rest.length < 900 ∧ H rq = some (.lst (r0 :: rs)) ∧
  ∀ (H' : Hp) (l' : Addr), H l' = none → MaAt C H' a dx r0 l' th' rs rest → Kept a H H' → Q .non H'
def spMaEnd (C : Addr) : Sp := fun vs H Q _ => ∃ (a dx l : Addr) (w th v : V) (left : List V) (rest : List (Str × V)), vs = [.ref a, v] ∧ MaAt C H a dx w l th left rest ∧ rest.length < 900 ∧
  ∀ (H' : Hp) (e : Addr), H e = none → H' e = some (.tup [.str "end", v]) → MaAt C H' a dx (.ref e) l th left rest → Kept a H H' → Q .non H'
def spReq (C : Addr) : Sp := fun vs H Q _ => ∃ (a dx l : Addr) (w th : V) (left : List V) (rest : List (Str × V)), vs = [.ref a] ∧ MaAt C H a dx w l th left rest ∧ Q w H
def spGo (P : Program) (W : World) (K : PySem.W.Frag) (mg : Str → Option Value) (base : Heap) (k : Nat) (C : Addr) : Sp := fun vs H Q _ => ∃ (a dx l : Addr) (w th res : V) (left : List V) (rest : List (Str × V)), vs = [.ref a, res] ∧ MaAt C H a dx w l th left rest ∧ rest.length < 900 ∧
  ((∃ r0 rs, left = r0 :: rs ∧ ∀ H', MaAt C H' a dx r0 l th rs rest → (∀ b o, H b = some o → b ≠ a → b ≠ l → H' b = some o) → Q .non H') ∨
   (left = [] ∧ ∃ q g sp, th = .ref q ∧ H q = some (.met g a) ∧ PySem.W.fnIn K g = true ∧ FnR P W K mg base CX0 k g sp ∧ sp [.ref a, res] H (fun _ H' => Q .non H') E0))
section
variable {P : Program} {w : World} {K : PySem.W.Frag} {mg : Str → Option Value} {base : Heap} {C M NV LE : Addr}
theorem scMaInit : FnScope ["self"] ["self"] (defScope sMaInit) := ⟨rfl, rfl, rfl, by decide +kernel, rfl, by decide +kernel, by decide +kernel⟩
theorem ok_mainit {f : Addr} {fd : FuncData} (F : Fun K "__init__" "Machine.__init__" sMaInit f fd) (TC : MTx K C) : FnOk P w K mg base CX0 1 f fd ["self"] (spMaInit C) := by
  refine F.ok scMaInit (fun vs H Q E h => ?_) (fun cdv A outer s H vs Q E hr h => ?_)
  · obtain ⟨a, dx, rfl, _⟩ := h
    rfl
  · obtain ⟨a, dx, rfl, ha, k⟩ := h
    refine ⟨_, (pss_cons (ps_fld (pv 0) (pe_tup (pa_cons pe_str (pa_cons pe_non pa_nil))) rfl)
  (pss_cons (ps_fld (pv 0) (pe_lst pa_nil) rfl)
  (pss_one (ps_fld (pv 0) pe_non rfl)))), ?_⟩
    refine ⟨(by show 2 ≤ sizeLine; decide), fun e he => ⟨_, rfl, a, C, dx, [], rfl, up1 he _ _ ha, TC.cl, TC.nW, (by show 0 < 1000; decide), ?_⟩⟩
    have e_a : e ≠ a := (ne_of_none ha he).symm
    have k1 : Kept a H (upd (upd H e (.tup [.str "end", .non])) a (.ins C dx (putF "_wanted" (.ref e) []))) := fun b o q n => by rw [upd_ne n]; exact up1 he _ _ q
    have e1 : upd (upd H e (.tup [.str "end", .non])) a (.ins C dx (putF "_wanted" (.ref e) [])) e = some (.tup [.str "end", .non]) := by rw [upd_ne e_a]; exact upd_same
    have a1 : upd (upd H e (.tup [.str "end", .non])) a (.ins C dx (putF "_wanted" (.ref e) [])) a = some (.ins C dx [("_wanted", .ref e)]) := upd_same
    generalize upd (upd H e (.tup [.str "end", .non])) a (.ins C dx (putF "_wanted" (.ref e) [])) = H1 at k1 e1 a1 ⊢
    refine ⟨(by show 0 ≤ sizeLine; exact Nat.zero_le _), fun l hl => ⟨_, rfl, a, C, dx, _, rfl, up1 hl _ _ a1, TC.cl, TC.nL, (by show 1 < 1000; decide), ?_⟩⟩
    have l_a : l ≠ a := (ne_of_none a1 hl).symm
    have l_e : l ≠ e := (ne_of_none e1 hl).symm
    have lH : H l = none := by
      cases q : H l with
      | none => rfl
      | some o =>
        have := k1 l o q l_a
        rw [hl] at this
        cases this
    refine ⟨_, rfl, a, C, dx, _, rfl, upd_same, TC.cl, TC.nT, (by show 2 < 1000; decide), ?_⟩
    refine k _ e l he lH ?_ ⟨upd_same, ?_⟩ fun b o q n => ?_
    · rw [upd_ne e_a, upd_ne e_a, upd_ne l_e.symm]; exact e1
    · rw [upd_ne l_a, upd_ne l_a]; exact upd_same
    · rw [upd_ne n, upd_ne n]; exact up1 hl _ _ (k1 b o q n)
theorem scMaAsk : FnScope ["self", "requests", "then"] ["self", "requests", "then"] (defScope sMaAsk) := ⟨rfl, rfl, rfl, by decide +kernel, rfl, by decide +kernel, by decide +kernel⟩
theorem mo_maask (F : MT K C "_ask" "Machine._ask" sMaAsk ["self", "requests", "then"]) (TC : MTx K C) : MO P w K mg base CX0 C 1 "_ask" ["self", "requests", "then"] (spMaAsk C) := by
  obtain ⟨f, fd, F, hm, hb⟩ := F
  refine ⟨f, fd, ?_, hm, hb⟩
  refine F.ok scMaAsk (fun vs H Q E h => ?_) (fun cdv A outer s H vs Q E hr h => ?_)
  · obtain ⟨a, dx, l, rq, w, th, th', left, rest, r0, rs, rfl, _⟩ := h
    rfl
  · obtain ⟨a, dx, l, rq, w, th, th', left, rest, r0, rs, rfl, D, hz, hrq, k⟩ := h
    refine ⟨_, (pss_cons (ps_fld (pv 0) (pe_ix ix_list (pv 1) pe_int (fun _ _ => rfl)) rfl)
  (pss_cons (ps_fld (pv 0) (pe_slice sl_list (pv 1) (po_some pe_int) po_none) rfl)
  (pss_one (ps_fld (pv 0) (pv 2) rfl)))), ?_⟩
    have ha := D.ob
    have rq_a : rq ≠ a := ne_of hrq ha (by intro z; cases z)
    refine ⟨_, rfl, rq, _, 0, r0, rfl, rfl, SqL.of hrq, at_head, _, rfl, a, C, dx, _, rfl, ha, TC.cl, TC.nW, (by show rest.length + 3 < 1000; omega), ?_⟩
    have q1 : upd H a (.ins C dx (mfs r0 l th rest)) rq = some (.lst (r0 :: rs)) := by rw [upd_ne rq_a]; exact hrq
    refine ⟨_, rfl, _, rfl, rq, _, rfl, SqL.of q1, fun l' hl' => ?_⟩
    have ec : cutV (r0 :: rs) (some 1) none = rs := by
      unfold cutV
      rw [HT.sIx_none, show (1 : Int) = ((1 : Nat) : Int) from rfl, HT.sIx_nat, show min 1 (r0 :: rs).length = 1 by simp]
      exact List.take_of_length_le (by simp)
    rw [ec]
    have l_a : l' ≠ a := (ne_of_none (upd_same (H := H) (a := a) (o := .ins C dx (mfs r0 l th rest))) hl').symm
    have lH : H l' = none := by
      have := hl'
      rw [upd_ne l_a] at this
      exact this
    refine ⟨_, rfl, a, C, dx, _, rfl, up1 hl' _ _ upd_same, TC.cl, TC.nL, (by show rest.length + 3 < 1000; omega), ?_⟩
    refine ⟨_, rfl, _, rfl, a, C, dx, _, rfl, upd_same, TC.cl, TC.nT, (by show rest.length + 3 < 1000; omega), ?_⟩
    refine k _ l' lH ⟨upd_same, ?_⟩ fun b o q n => ?_
    · rw [upd_ne l_a, upd_ne l_a]; exact upd_same
    · rw [upd_ne n, upd_ne n]
      exact up1 hl' _ _ (by rw [upd_ne n]; exact q)
theorem scMaEnd : FnScope ["self", "value"] ["self", "value"] (defScope sMaEnd) := ⟨rfl, rfl, rfl, by decide +kernel, rfl, by decide +kernel, by decide +kernel⟩
theorem mo_maend (F : MT K C "_end" "Machine._end" sMaEnd ["self", "value"]) (TC : MTx K C) : MO P w K mg base CX0 C 1 "_end" ["self", "value"] (spMaEnd C) := by
  obtain ⟨f, fd, F, hm, hb⟩ := F
  refine ⟨f, fd, ?_, hm, hb⟩
  refine F.ok scMaEnd (fun vs H Q E h => ?_) (fun cdv A outer s H vs Q E hr h => ?_)
  · obtain ⟨a, dx, l, w, th, v, left, rest, rfl, _⟩ := h
    rfl
  · obtain ⟨a, dx, l, w, th, v, left, rest, rfl, D, hz, k⟩ := h
    refine ⟨_, (pss_one (ps_fld (pv 0) (pe_tup (pa_cons pe_str (pa_cons (pv 1) pa_nil))) rfl)), ?_⟩
    have ha := D.ob
    refine ⟨_, rfl, (by show 2 ≤ sizeLine; decide), fun e he => ⟨_, rfl, a, C, dx, _, rfl, up1 he _ _ ha, TC.cl, TC.nW, (by show rest.length + 3 < 1000; omega), ?_⟩⟩
    refine k _ e he ?_ ⟨upd_same, ?_⟩ fun b o q n => ?_
    · rw [upd_ne (ne_of_none ha he).symm]; exact upd_same
    · rw [upd_ne (ne_of D.lf ha (by intro z; cases z))]; exact up1 he _ _ D.lf
    · rw [upd_ne n]; exact up1 he _ _ q
theorem scMaGo : FnScope ["self", "result", "then"] ["self", "result"] (defScope sMaGo) := ⟨rfl, rfl, rfl, by decide +kernel, rfl, by decide +kernel, by decide +kernel⟩
theorem mo_mago {k : Nat} (F : MT K C "_go_on" "Machine._go_on" sMaGo ["self", "result"]) (TC : MTx K C) : MO P w K mg base CX0 C (k + 1) "_go_on" ["self", "result"] (spGo P w K mg base k C) := by
  obtain ⟨f, fd, F, hm, hb⟩ := F
  refine ⟨f, fd, ?_, hm, hb⟩
  refine F.ok scMaGo (fun vs H Q E h => ?_) (fun cdv A outer s H vs Q E hr h => ?_)
  · obtain ⟨a, dx, l, w, th, res, left, rest, rfl, _⟩ := h
    rfl
  · obtain ⟨a, dx, l, w, th, res, left, rest, rfl, D, hz, hc⟩ := h
    have nd := scMaGo.nd
    have hrT : Room k _ := hr
    refine ⟨_, (pss_one (ps_if (pt_truth (pe_fld (pv 0) rfl) (by intro _; rfl))
  (pss_one (ps_fld (pv 0) (pe_bm PySem.F.plainAttrs_list PySem.F.slot_list_pop PySem.F.type_list_pop mt_popAt (pe_fld (pv 0) rfl) (pa_cons pe_int pa_nil)) rfl))
  (pss_cons (ps_set (i := 2) nd rfl (Or.inl rfl) (pe_fld (pv 0) rfl))
  (pss_one (ps_expr (Mr.pe_cm (pv 2) hrT (pa_cons (pv 1) pa_nil))))))), ?_⟩
    have ha := D.ob
    have l_a : l ≠ a := ne_of D.lf ha (by intro z; cases z)
    rcases hc with ⟨r0, rs, rfl, k1⟩ | ⟨rfl, q, g, sp, rfl, hq, fi, FR, hsp⟩
    · refine ⟨_, rfl, a, C, dx, _, _, rfl, ha, TC.cl, TC.nL, rfl, true, .inl ⟨_, SqL.of D.lf, rfl⟩, iteT ?_⟩
      refine ⟨_, rfl, a, C, dx, _, _, rfl, ha, TC.cl, TC.nL, rfl, .inl ⟨rfl, _, SqL.of D.lf⟩, l, _, 0, 0, r0, rfl, rfl, D.lf, by decide, by decide, seq_head, rfl, ?_⟩
      refine ⟨_, rfl, a, C, dx, _, rfl, (by rw [upd_ne l_a.symm]; exact ha), TC.cl, TC.nW, (by show rest.length + 3 < 1000; omega), ?_⟩
      refine k1 _ ⟨upd_same, ?_⟩ fun b o q n n2 => ?_
      · rw [upd_ne l_a]; exact upd_same
      · rw [upd_ne n, upd_ne n2]; exact q
    · refine ⟨_, rfl, a, C, dx, _, _, rfl, ha, TC.cl, TC.nL, rfl, false, .inl ⟨_, SqL.of D.lf, rfl⟩, iteF ?_⟩
      refine ⟨_, rfl, a, C, dx, _, _, rfl, ha, TC.cl, TC.nT, rfl, ?_⟩
      exact ⟨_, rfl, q, g, a, sp, rfl, fi, FR, _, rfl, hq, hsp⟩
end
end Dk

set_option maxHeartbeats 4000000
/-! the stack of a thread, with one machine -/
namespace Dk
open PySem PySem.Spec PyProof.Rows L2
abbrev sKInit : Stmt := inClass (top 6) 0
abbrev sKStep : Stmt := inClass (top 6) 1
abbrev sKEnded : Stmt := inClass (top 6) 2
abbrev sKValue : Stmt := inClass (top 6) 3
abbrev sKCheck : Stmt := inClass (top 6) 4
abbrev sKSettle : Stmt := inClass (top 6) 5
abbrev sKEnd : Stmt := inClass (top 6) 6
structure KTx (K : PySem.W.Frag) (S : Addr) : Prop where
  cl : Cls K S
  nM : NoAttr K S "_machines"
  nV : NoAttr K S "_value"
structure StkAt (S : Addr) (H : Hp) (k dx ml : Addr) (ms : List Addr) (v : V) : Prop where
  ob : H k = some (.ins S dx [("_machines", .ref ml), ("_value", v)])
  l : H ml = some (.lst (ms.map V.ref))
theorem StkAt.same {S : Addr} {H H' : Hp} {k dx ml : Addr} {ms : List Addr} {v : V} (D : StkAt S H k dx ml ms v) (s : Same H H') : StkAt S H' k dx ml ms v := ⟨s _ _ D.ob, s _ _ D.l⟩
def Kept2 (a c : Addr) (H H' : Hp) : Prop := ∀ b o, H b = some o → b ≠ a → b ≠ c → H' b = some o
theorem head_vs (rq : Rq) : ∃ s rest, rq.vs = .str s :: rest ∧ s ≠ "end" ∧ s ≠ "call" := by
  cases rq <;> exact ⟨_, _, rfl, by decide +kernel, by decide +kernel⟩
/-- a machine that can be asked -/
structure Mach (P : Program) (W : World) (K : PySem.W.Frag) (mg : Str → Option Value) (base : Heap) (CM : Addr) (H : Hp) (a dx : Addr) (w : V) (l : Addr) (th : V) (left : List V) (rest : List (Str × V)) : Prop where
  m : MaAt CM H a dx w l th left rest
  cl : Cls K CM
  rq : MD P W K mg base 1 CM "request" (spReq CM)
  n1 : rest.lookup ("request" : Str) = none
  n2 : rest.lookup ("accept" : Str) = none
  n : rest.length < 900
def spKInit (S : Addr) : Sp := fun vs H Q _ => ∃ (k dx a : Addr), vs = [.ref k, .ref a] ∧ H k = some (.ins S dx []) ∧ ∀ (H' : Hp) (ml : Addr), H ml = none → StkAt S H' k dx ml [a] .non → Kept k H H' → Q .non H'
def spKEnded (S : Addr) : Sp := fun vs H Q _ => ∃ (k dx ml : Addr) (ms : List Addr) (v : V), vs = [.ref k] ∧ StkAt S H k dx ml ms v ∧ Q (.bl ms.isEmpty) H
def spKValue (S : Addr) : Sp := fun vs H Q _ => ∃ (k dx ml : Addr) (ms : List Addr) (v : V), vs = [.ref k] ∧ StkAt S H k dx ml ms v ∧ Q v H
def spKEnd (S : Addr) : Sp := fun vs H Q _ => ∃ (k dx ml a : Addr) (v x : V), vs = [.ref k, x] ∧ StkAt S H k dx ml [a] v ∧ ∀ H', StkAt S H' k dx ml [] x → Kept2 k ml H H' → Q .non H'
def spKSettle (P : Program) (W : World) (K : PySem.W.Frag) (mg : Str → Option Value) (base : Heap) (S : Addr) : Sp := fun vs H Q _ => ∃ (k dx ml : Addr) (ms : List Addr) (v : V), vs = [.ref k] ∧ StkAt S H k dx ml ms v ∧
  ((ms = [] ∧ Q .non H) ∨
   (∃ (a CM dxm q l : Addr) (th : V) (left : List V) (rest : List (Str × V)) (rq : Rq), ms = [a] ∧ Mach P W K mg base CM H a dxm (.ref q) l th left rest ∧ H q = some (.tup rq.vs) ∧ Q .non H) ∨
   (∃ (a CM dxm q l : Addr) (th : V) (left : List V) (rest : List (Str × V)) (x : V), ms = [a] ∧ Mach P W K mg base CM H a dxm (.ref q) l th left rest ∧ H q = some (.tup [.str "end", x]) ∧ ∀ H', StkAt S H' k dx ml [] x → Kept2 k ml H H' → Q .non H'))
def spKCheck (P : Program) (W : World) (K : PySem.W.Frag) (mg : Str → Option Value) (base : Heap) (S C M : Addr) : Sp := fun vs H Q _ => ∃ (k dx ml m : Addr) (ms : List Addr) (v : V) (t w r th : Nat) (A : Adr) (X : MS), vs = [.ref k, .ref m, .int (th : Int)] ∧ StkAt S H k dx ml ms v ∧ MemAt C M H m t w r A X ∧ th < t ∧
  (ms = [] ∨ ∃ (a CM dxm q l : Addr) (th : V) (left : List V) (rest : List (Str × V)) (rq : Rq), ms = [a] ∧ Mach P W K mg base CM H a dxm (.ref q) l th left rest ∧ H q = some (.tup rq.vs)) ∧ Q .non H
/-- behind an accept -/
def Behind (P : Program) (W : World) (K : PySem.W.Frag) (mg : Str → Option Value) (base : Heap) (S : Addr) (k dx ml a CM dxm : Addr) (v : V) (H : Hp) (Q : VK) : Prop := StkAt S H k dx ml [a] v ∧
  ((∃ (q l : Addr) (th : V) (left : List V) (rest : List (Str × V)) (rq : Rq), Mach P W K mg base CM H a dxm (.ref q) l th left rest ∧ H q = some (.tup rq.vs) ∧ Q (.bl true) H) ∨
   (∃ (q l : Addr) (th : V) (left : List V) (rest : List (Str × V)) (x : V), Mach P W K mg base CM H a dxm (.ref q) l th left rest ∧ H q = some (.tup [.str "end", x]) ∧ ∀ H', StkAt S H' k dx ml [] x → Kept2 k ml H H' → Q (.bl true) H'))
def spKStep (P : Program) (W : World) (K : PySem.W.Frag) (mg : Str → Option Value) (base : Heap) (ka : Nat) (S C M : Addr) : Sp := fun vs H Q _ => ∃ (k dx ml m : Addr) (ms : List Addr) (v0 : V) (t w r th B : Nat) (A : Adr) (X : MS), vs = [.ref k, .ref m, .int (th : Int)] ∧ StkAt S H k dx ml ms v0 ∧ NOk t w r ∧ MemAt C M H m t w r A X ∧ th < t ∧ SOk X t (t + w + r) B ∧ B + 6 < sizeLine ∧
  ((ms = [] ∧ Q (.bl false) H) ∨
   (∃ (a CM dxm q l fa : Addr) (th' : V) (left : List V) (rest : List (Str × V)) (rq : Rq) (spa : Sp), ms = [a] ∧ Mach P W K mg base CM H a dxm (.ref q) l th' left rest ∧ H q = some (.tup rq.vs) ∧ rq.ok t w r ∧ rq.vals K H ∧ rq.flatAt K H X t ∧ Meth K CM "accept" fa ∧ FnR P W K mg base CX0 ka fa spa ∧
     ∀ (v x : V) (p : Addr) (A' : Adr) (X' : MS) (H1 : Hp), A'.a = A.a → Res K ((X.withCount (X.count + 1)).withLog (X.log ++ [x])) t th H1 H1 rq v X' → H1 p = some (.tup [v, .int (X.count + 1)]) → SOk X' t (t + w + r) (B + 2) → MemAt C M H1 m t w r A' X' → Step m (t + w + r) A H A' H1 →
       ∀ Q' : VK, (∀ u H2, Behind P W K mg base S k dx ml a CM dxm v0 H2 Q → Q' u H2) → spa [.ref a, .ref p] H1 Q' E0))
section
variable {P : Program} {w : World} {K : PySem.W.Frag} {mg : Str → Option Value} {base : Heap} {C M NV LE S : Addr}
theorem scKInit : FnScope ["self", "machine"] ["self", "machine"] (defScope sKInit) := ⟨rfl, rfl, rfl, by decide +kernel, rfl, by decide +kernel, by decide +kernel⟩
theorem ok_kinit {f : Addr} {fd : FuncData} (F : Fun K "__init__" "Stack.__init__" sKInit f fd) (TK : KTx K S) : FnOk P w K mg base CX0 1 f fd ["self", "machine"] (spKInit S) := by
  refine F.ok scKInit (fun vs H Q E h => ?_) (fun cdv A outer s H vs Q E hr h => ?_)
  · obtain ⟨k, dx, a, rfl, _⟩ := h
    rfl
  · obtain ⟨k, dx, a, rfl, hk, kQ⟩ := h
    refine ⟨_, (pss_cons (ps_fld (pv 0) (pe_lst (pa_cons (pv 1) pa_nil)) rfl)
  (pss_one (ps_fld (pv 0) pe_non rfl))), ?_⟩
    refine ⟨_, rfl, (by show 1 ≤ sizeLine; decide), fun ml hml => ⟨_, rfl, k, S, dx, [], rfl, up1 hml _ _ hk, TK.cl, TK.nM, (by show 0 < 1000; decide), ?_⟩⟩
    refine ⟨_, rfl, k, S, dx, _, rfl, upd_same, TK.cl, TK.nV, (by show 1 < 1000; decide), ?_⟩
    have ml_k : ml ≠ k := (ne_of_none hk hml).symm
    refine kQ _ ml hml ⟨upd_same, ?_⟩ fun b o q n => ?_
    · rw [upd_ne ml_k, upd_ne ml_k]; exact upd_same
    · rw [upd_ne n, upd_ne n]; exact up1 hml _ _ q
theorem scKEnded : FnScope ["self"] ["self"] (defScope sKEnded) := ⟨rfl, rfl, rfl, by decide +kernel, rfl, by decide +kernel, by decide +kernel⟩
theorem mo_kended (F : MT K S "ended" "Stack.ended" sKEnded ["self"]) (TK : KTx K S) : MO P w K mg base CX0 S 1 "ended" ["self"] (spKEnded S) := by
  obtain ⟨f, fd, F, hm, hb⟩ := F
  refine ⟨f, fd, ?_, hm, hb⟩
  refine F.ok scKEnded (fun vs H Q E h => ?_) (fun cdv A outer s H vs Q E hr h => ?_)
  · obtain ⟨k, dx, ml, ms, v, rfl, _⟩ := h
    rfl
  · obtain ⟨k, dx, ml, ms, v, rfl, D, kQ⟩ := h
    refine ⟨_, pss_one (ps_ret (pe_notT (pe_fld (pv 0) rfl))), ?_⟩
    refine ⟨_, rfl, k, S, dx, _, _, rfl, D.ob, TK.cl, TK.nM, rfl, !(ms.map V.ref).isEmpty, .inl ⟨_, SqL.of D.l, rfl⟩, ?_⟩
    have e : (!!(ms.map V.ref).isEmpty) = ms.isEmpty := by cases ms <;> rfl
    rw [e]
    exact kQ
theorem scKValue : FnScope ["self"] ["self"] (defScope sKValue) := ⟨rfl, rfl, rfl, by decide +kernel, rfl, by decide +kernel, by decide +kernel⟩
theorem mo_kvalue (F : MT K S "value" "Stack.value" sKValue ["self"]) (TK : KTx K S) : MO P w K mg base CX0 S 1 "value" ["self"] (spKValue S) := by
  obtain ⟨f, fd, F, hm, hb⟩ := F
  refine ⟨f, fd, ?_, hm, hb⟩
  refine F.ok scKValue (fun vs H Q E h => ?_) (fun cdv A outer s H vs Q E hr h => ?_)
  · obtain ⟨k, dx, ml, ms, v, rfl, _⟩ := h
    rfl
  · obtain ⟨k, dx, ml, ms, v, rfl, D, kQ⟩ := h
    refine ⟨_, pss_one (ps_ret (pe_fld (pv 0) rfl)), ?_⟩
    exact ⟨_, rfl, k, S, dx, _, _, rfl, D.ob, TK.cl, TK.nV, rfl, kQ⟩
theorem at_one {a : Addr} : atI ([a].map V.ref) (-1) = some (.ref a) := rfl
theorem scKEnd : FnScope ["self", "value"] ["self", "value"] (defScope sKEnd) := ⟨rfl, rfl, rfl, by decide +kernel, rfl, by decide +kernel, by decide +kernel⟩
theorem mo_kend (F : MT K S "_end" "Stack._end" sKEnd ["self", "value"]) (TK : KTx K S) : MO P w K mg base CX0 S 1 "_end" ["self", "value"] (spKEnd S) := by
  obtain ⟨f, fd, F, hm, hb⟩ := F
  refine ⟨f, fd, ?_, hm, hb⟩
  refine F.ok scKEnd (fun vs H Q E h => ?_) (fun cdv A outer s H vs Q E hr h => ?_)
  · obtain ⟨k, dx, ml, a, v, x, rfl, _⟩ := h
    rfl
  · obtain ⟨k, dx, ml, a, v, x, rfl, D, kQ⟩ := h
    have hra : Room 0 _ := hr
    refine ⟨_, (pss_cons (ps_expr (pe_bm0 PySem.F.plainAttrs_list PySem.F.slot_list_pop PySem.F.type_list_pop mt_pop (pe_fld (pv 0) rfl)))
  (pss_one (ps_if (pt_truth (pe_fld (pv 0) rfl) (by intro _; rfl))
  (pss_one (ps_expr (Mr.pe_md (pe_ix ix_list (pe_fld (pv 0) rfl) (pe_un un_neg pe_int) (fun _ _ => rfl)) hra (pa_cons (pv 1) pa_nil))))
  (pss_one (ps_fld (pv 0) (pv 1) rfl))))), ?_⟩
    have hk := D.ob
    have ml_k : ml ≠ k := ne_of D.l hk (by intro z; cases z)
    refine ⟨_, rfl, k, S, dx, _, _, rfl, hk, TK.cl, TK.nM, rfl, .inl ⟨rfl, _, SqL.of D.l⟩, ml, _, .ref a, rfl, rfl, D.l, rfl, ?_⟩
    have hk1 : upd H ml (.lst ([a].map V.ref).dropLast) k = some (.ins S dx [("_machines", .ref ml), ("_value", v)]) := by rw [upd_ne ml_k.symm]; exact hk
    refine ⟨_, rfl, k, S, dx, _, _, rfl, hk1, TK.cl, TK.nM, rfl, false, .inl ⟨_, SqL.of upd_same, rfl⟩, iteF ?_⟩
    refine ⟨_, rfl, _, rfl, k, S, dx, _, rfl, hk1, TK.cl, TK.nV, (by show 2 < 1000; decide), ?_⟩
    refine kQ _ ⟨upd_same, ?_⟩ fun b o q n n2 => ?_
    · rw [upd_ne ml_k]; exact upd_same
    · rw [upd_ne n, upd_ne n2]; exact q
theorem scKCheck : FnScope ["self", "memory", "thread"] ["self", "memory", "thread"] (defScope sKCheck) := ⟨rfl, rfl, rfl, by decide +kernel, rfl, by decide +kernel, by decide +kernel⟩
theorem mo_kcheck (F : MT K S "_check_thread" "Stack._check_thread" sKCheck ["self", "memory", "thread"]) (TK : KTx K S) (TL : LTxt K mg C) (TM : MTxt K M) (GHt : MO P w K mg base CX0 C 3 "has_thread" ["self", "thread"] (spHasT C)) : MO P w K mg base CX0 S 4 "_check_thread" ["self", "memory", "thread"] (spKCheck P w K mg base S C M) := by
  obtain ⟨f, fd, F, hm, hb⟩ := F
  refine ⟨f, fd, ?_, hm, hb⟩
  refine F.ok scKCheck (fun vs H Q E h => ?_) (fun cdv A outer s H vs Q E hr h => ?_)
  · obtain ⟨k, dx, ml, m, ms, v, t, w, r, th, A, X, rfl, _⟩ := h
    rfl
  · obtain ⟨k, dx, ml, m, ms, v, t, w, r, th, A0, X, rfl, D, DM, hth, hc, kQ⟩ := h
    have hrq : Room 1 _ := hr.mono (by decide)
    have hrH : Room 3 _ := hr
    refine ⟨_, (pss_one (ps_if (PW.pt (pw_and (pt_truth (pe_fld (pv 0) rfl) (by intro _; rfl)) (pw_and1 (pt_cmpR op_ne (pe_ix ix_tup (Mr.pe_md0 (pe_ix ix_list (pe_fld (pv 0) rfl) (pe_un un_neg pe_int) (fun _ _ => rfl)) hrq) pe_int (fun _ _ => rfl)) pe_str (nomark _)))))
  (pss_one (ps_if (pt_not (pt_val (pm_ GHt TL.cl hrH (pe_fld (pv 1) rfl) (pa_cons (pv 2) pa_nil))))
  (pss_one ps_never)
  pss_nil))
  pss_nil)), ?_⟩
    have hk := D.ob
    rcases hc with rfl | ⟨a, CM, dxm, q, l, th', left, rest, rq, rfl, Mc, hq⟩
    · exact ⟨_, rfl, k, S, dx, _, _, rfl, hk, TK.cl, TK.nM, rfl, false, .inl ⟨_, SqL.of D.l, rfl⟩, iteF (iteF kQ)⟩
    · obtain ⟨s0, r0, e0, ne0, _⟩ := head_vs rq
      rw [e0] at hq
      obtain ⟨fr, hmr, FR⟩ := Mc.rq
      obtain ⟨dm, hmem⟩ := DM.ob
      obtain ⟨da, hlay⟩ := DM.lay
      refine ⟨_, rfl, k, S, dx, _, _, rfl, hk, TK.cl, TK.nM, rfl, true, .inl ⟨_, SqL.of D.l, rfl⟩, iteT ?_⟩
      refine ⟨_, rfl, k, S, dx, _, _, rfl, hk, TK.cl, TK.nM, rfl, _, rfl, ml, _, -1, _, rfl, rfl, SqL.of D.l, at_one, a, CM, dxm, _, fr, _, rfl, Mc.m.ob, Mc.cl, hmr, FR, Mc.n1, a, dxm, l, _, th', left, rest, rfl, Mc.m, q, _, 0, _, rfl, rfl, SqT.of hq, at_head, rfl, _, rfl, ?_⟩
      have cn : ¬ (V.str s0 = V.str "end") := fun z => ne0 (V.str.inj z)
      rw [decide_eq_false cn]
      refine iteT ?_
      refine ⟨_, rfl, m, M, dm, _, _, rfl, hmem, TM.cl, TM.nL, rfl, A0.a, da, _, rfl, hlay, rfl, _, rfl, A0.a, t, w, r, _, "int", rfl, rfl, ⟨da, hlay⟩, _, rfl, ?_⟩
      rw [inW_nat, decide_eq_true hth]
      exact iteF kQ
theorem scKSettle : FnScope ["self", "request"] ["self"] (defScope sKSettle) := ⟨rfl, rfl, rfl, by decide +kernel, rfl, by decide +kernel, by decide +kernel⟩
theorem mo_ksettle (F : MT K S "_settle" "Stack._settle" sKSettle ["self"]) (TK : KTx K S) (GEn : MO P w K mg base CX0 S 1 "_end" ["self", "value"] (spKEnd S)) : MO P w K mg base CX0 S 2 "_settle" ["self"] (spKSettle P w K mg base S) := by
  obtain ⟨f, fd, F, hm, hb⟩ := F
  refine ⟨f, fd, ?_, hm, hb⟩
  refine F.ok scKSettle (fun vs H Q E h => ?_) (fun cdv A outer s H vs Q E hr h => ?_)
  · obtain ⟨k, dx, ml, ms, v, rfl, _⟩ := h
    rfl
  · obtain ⟨k, dx, ml, ms, v, rfl, D, hc⟩ := h
    have nd := scKSettle.nd
    have hrq : Room 1 _ := hr
    have hrE : Room 1 _ := hr
    refine ⟨_, (pss_one (ps_while PassesOwn.never (pt_truth (pe_fld (pv 0) rfl) (by intro _; rfl))
  (pss_cons (ps_set (i := 1) nd rfl (Or.inl rfl) (Mr.pe_md0 (pe_ix ix_list (pe_fld (pv 0) rfl) (pe_un un_neg pe_int) (fun _ _ => rfl)) hrq))
  (pss_one (ps_if (pt_cmpR op_eq (pe_ix ix_tup (pv 1) pe_int (fun _ _ => rfl)) pe_str (nomark _))
  (pss_one (ps_expr (pe_bm PySem.F.plainAttrs_list PySem.F.slot_list_append PySem.F.type_list_append mt_append (pe_fld (pv 0) rfl) (pa_cons (pe_ix ix_tup (pv 1) pe_int (fun _ _ => rfl)) pa_nil))))
  (pss_one (ps_if (pt_cmpR op_eq (pe_ix ix_tup (pv 1) pe_int (fun _ _ => rfl)) pe_str (nomark _))
  (pss_one (ps_expr (pm_ GEn TK.cl hrE (pv 0) (pa_cons (pe_ix ix_tup (pv 1) pe_int (fun _ _ => rfl)) pa_nil))))
  (pss_one ps_retN)))))))), ?_⟩
    dsimp only [gName, tSeq]
    refine while_rel (fun n σ H2 => (n = 1 ∧ H2 = H ∧ ∃ x, σ = [some (.ref k), x]) ∨ (n = 0 ∧ ∃ x v, σ = [some (.ref k), x] ∧ StkAt S H2 k dx ml [] v ∧ Q .non H2)) ⟨1, .inl ⟨rfl, rfl, _, rfl⟩⟩ ?_ ?_
    · rintro n σ H2 (⟨rfl, rfl, x, rfl⟩ | ⟨rfl, x, v', rfl, D2, q2⟩)
      · rcases hc with ⟨rfl, kQ⟩ | ⟨a, CM, dxm, q, l, th', left, rest, rq, rfl, Mc, hq, kQ⟩ | ⟨a, CM, dxm, q, l, th', left, rest, xe, rfl, Mc, hq, kQ⟩
        · exact ⟨_, rfl, k, S, dx, _, _, rfl, D.ob, TK.cl, TK.nM, rfl, false, .inl ⟨_, SqL.of D.l, rfl⟩, iteF kQ⟩
        · obtain ⟨s0, r0, e0, ne0, ne1⟩ := head_vs rq
          rw [e0] at hq
          obtain ⟨fr, hmr, FR⟩ := Mc.rq
          refine ⟨_, rfl, k, S, dx, _, _, rfl, D.ob, TK.cl, TK.nM, rfl, true, .inl ⟨_, SqL.of D.l, rfl⟩, iteT ?_⟩
          refine ⟨_, rfl, k, S, dx, _, _, rfl, D.ob, TK.cl, TK.nM, rfl, _, rfl, ml, _, -1, _, rfl, rfl, SqL.of D.l, at_one, a, CM, dxm, _, fr, _, rfl, Mc.m.ob, Mc.cl, hmr, FR, Mc.n1, a, dxm, l, _, th', left, rest, rfl, Mc.m, ?_⟩
          refine ⟨_, rfl, q, _, 0, _, rfl, rfl, SqT.of hq, at_head, rfl, _, rfl, ?_⟩
          rw [decide_eq_false fun z => ne1 (V.str.inj z)]
          refine iteF ?_
          refine ⟨_, rfl, q, _, 0, _, rfl, rfl, SqT.of hq, at_head, rfl, _, rfl, ?_⟩
          rw [decide_eq_false fun z => ne0 (V.str.inj z)]
          exact iteF kQ
        · obtain ⟨fr, hmr, FR⟩ := Mc.rq
          refine ⟨_, rfl, k, S, dx, _, _, rfl, D.ob, TK.cl, TK.nM, rfl, true, .inl ⟨_, SqL.of D.l, rfl⟩, iteT ?_⟩
          refine ⟨_, rfl, k, S, dx, _, _, rfl, D.ob, TK.cl, TK.nM, rfl, _, rfl, ml, _, -1, _, rfl, rfl, SqL.of D.l, at_one, a, CM, dxm, _, fr, _, rfl, Mc.m.ob, Mc.cl, hmr, FR, Mc.n1, a, dxm, l, _, th', left, rest, rfl, Mc.m, ?_⟩
          refine ⟨_, rfl, q, _, 0, _, rfl, rfl, SqT.of hq, at_head, rfl, _, rfl, ?_⟩
          rw [decide_eq_false (show ¬ (V.str "end" = V.str "call") by decide +kernel)]
          refine iteF ?_
          refine ⟨_, rfl, q, _, 0, _, rfl, rfl, SqT.of hq, at_head, rfl, _, rfl, ?_⟩
          rw [decide_eq_true (rfl : V.str "end" = V.str "end")]
          refine iteT ?_
          refine ⟨_, rfl, k, dx, _, rfl, D.ob, rfl, _, rfl, q, _, 1, xe, rfl, rfl, SqT.of hq, rfl, k, dx, ml, a, v, xe, rfl, D, fun H3 D3 kp3 => ?_⟩
          exact ⟨0, by decide, .inr ⟨rfl, _, _, rfl, D3, kQ H3 D3 kp3⟩⟩
      · exact ⟨_, rfl, k, S, dx, _, _, rfl, D2.ob, TK.cl, TK.nM, rfl, false, .inl ⟨_, SqL.of D2.l, rfl⟩, iteF q2⟩
    · rintro σ H2 Q1 Q2 imp ⟨x, e, a, C', dx', fs, v1, h1, h2, h3, h4, h5, kk, t, q⟩
      exact ⟨x, e, a, C', dx', fs, v1, h1, h2, h3, h4, h5, kk, t, imp _ _ q⟩
theorem scKStep : FnScope ["self", "memory", "thread", "machine"] ["self", "memory", "thread"] (defScope sKStep) := ⟨rfl, rfl, rfl, by decide +kernel, rfl, by decide +kernel, by decide +kernel⟩
theorem mo_kstep {ka : Nat} (F : MT K S "step" "Stack.step" sKStep ["self", "memory", "thread"]) (TK : KTx K S) (TM : MTxt K M) (GCk : MO P w K mg base CX0 S 4 "_check_thread" ["self", "memory", "thread"] (spKCheck P w K mg base S C M)) (GSt : MO P w K mg base CX0 S 2 "_settle" ["self"] (spKSettle P w K mg base S))
    (GAc : MO P w K mg base CX0 M 11 "access" ["self", "thread", "request"] (spAccess K C M)) : MO P w K mg base CX0 S (ka + 12) "step" ["self", "memory", "thread"] (spKStep P w K mg base ka S C M) := by
  obtain ⟨f, fd, F, hm, hb⟩ := F
  refine ⟨f, fd, ?_, hm, hb⟩
  refine F.ok scKStep (fun vs H Q E h => ?_) (fun cdv A outer s H vs Q E hr h => ?_)
  · obtain ⟨k, dx, ml, m, ms, v, t, w, r, th, B, A, X, rfl, _⟩ := h
    rfl
  · obtain ⟨k, dx, ml, m, ms, v, t, w, r, th, B, A0, X, rfl, D, nok, DM, hth, so, hB, hc⟩ := h
    have nd := scKStep.nd
    have hrq : Room 1 _ := hr.mono (by omega)
    have hra : Room ka _ := hr.mono (by omega)
    have hrC : Room 4 _ := hr.mono (by omega)
    have hrS : Room 2 _ := hr.mono (by omega)
    have hrM : Room 11 _ := hr.mono (by omega)
    refine ⟨_, (pss_cons (ps_expr (pm_ GCk TK.cl hrC (pv 0) (pa_cons (pv 1) (pa_cons (pv 2) pa_nil))))
  (pss_cons (ps_expr (pm0_ GSt TK.cl hrS (pv 0)))
  (pss_cons (ps_if (pt_not (pt_truth (pe_fld (pv 0) rfl) (by intro _; rfl)))
  (pss_one (ps_ret pe_bl))
  pss_nil)
  (pss_cons (ps_set (i := 3) nd rfl (Or.inl rfl) (pe_ix ix_list (pe_fld (pv 0) rfl) (pe_un un_neg pe_int) (fun _ _ => rfl)))
  (pss_cons (ps_expr (Mr.pe_md (pv 3) hra (pa_cons (pm_ GAc TM.cl hrM (pv 1) (pa_cons (pv 2) (pa_cons (Mr.pe_md0 (pv 3) hrq) pa_nil))) pa_nil)))
  (pss_cons (ps_expr (pm0_ GSt TK.cl hrS (pv 0)))
  (pss_one (ps_ret pe_bl)))))))), ?_⟩
    have hk := D.ob
    rcases hc with ⟨rfl, kQ⟩ | ⟨a, CM, dxm, q, l, fa, th', left, rest, rq, spa, rfl, Mc, hq, ok, vals, fl, hma, FA, kQ⟩
    · refine ⟨_, rfl, k, dx, _, rfl, hk, rfl, _, rfl, _, rfl, k, dx, ml, m, [], v, t, w, r, th, A0, X, rfl, D, DM, hth, .inl rfl, ?_⟩
      refine ⟨_, rfl, k, dx, _, rfl, hk, rfl, k, dx, ml, [], v, rfl, D, .inl ⟨rfl, ?_⟩⟩
      exact ⟨_, rfl, k, S, dx, _, _, rfl, hk, TK.cl, TK.nM, rfl, false, .inl ⟨_, SqL.of D.l, rfl⟩, iteT kQ⟩
    · refine ⟨_, rfl, k, dx, _, rfl, hk, rfl, _, rfl, _, rfl, k, dx, ml, m, [a], v, t, w, r, th, A0, X, rfl, D, DM, hth, .inr ⟨a, CM, dxm, q, l, th', left, rest, rq, rfl, Mc, hq⟩, ?_⟩
      refine ⟨_, rfl, k, dx, _, rfl, hk, rfl, k, dx, ml, [a], v, rfl, D, .inr (.inl ⟨a, CM, dxm, q, l, th', left, rest, rq, rfl, Mc, hq, ?_⟩)⟩
      refine ⟨_, rfl, k, S, dx, _, _, rfl, hk, TK.cl, TK.nM, rfl, true, .inl ⟨_, SqL.of D.l, rfl⟩, iteF ?_⟩
      refine ⟨_, rfl, k, S, dx, _, _, rfl, hk, TK.cl, TK.nM, rfl, _, rfl, ml, _, -1, _, rfl, rfl, SqL.of D.l, at_one, ?_⟩
      obtain ⟨fr, hmr, FR⟩ := Mc.rq
      obtain ⟨dm, hmem⟩ := DM.ob
      refine ⟨_, rfl, a, CM, dxm, _, fa, spa, rfl, Mc.m.ob, Mc.cl, hma, FA, Mc.n2, _, rfl, m, dm, _, rfl, hmem, rfl, _, rfl, _, rfl, a, CM, dxm, _, fr, _, rfl, Mc.m.ob, Mc.cl, hmr, FR, Mc.n1, a, dxm, l, _, th', left, rest, rfl, Mc.m, m, t, w, r, th, B, A0, X, rq, q, rfl, nok, DM, hth, hq, ok, so, hB, vals, fl, fun v1 x p A' X' H1 ea R hp so' D' st => ?_⟩
      refine kQ v1 x p A' X' H1 ea R hp so' D' st _ fun u H2 hbe => ?_
      obtain ⟨D2, hb2⟩ := hbe
      have hk2 := D2.ob
      rcases hb2 with ⟨q2, l2, th2, left2, rest2, rq2, M2, hq2, kQ2⟩ | ⟨q2, l2, th2, left2, rest2, xe, M2, hq2, kQ2⟩
      · exact ⟨_, rfl, k, dx, _, rfl, hk2, rfl, k, dx, ml, [a], v, rfl, D2, .inr (.inl ⟨a, CM, dxm, q2, l2, th2, left2, rest2, rq2, rfl, M2, hq2, kQ2⟩)⟩
      · exact ⟨_, rfl, k, dx, _, rfl, hk2, rfl, k, dx, ml, [a], v, rfl, D2, .inr (.inr ⟨a, CM, dxm, q2, l2, th2, left2, rest2, xe, rfl, M2, hq2, fun H3 D3 k3 => kQ2 H3 D3 k3⟩)⟩
end
end Dk

set_option maxHeartbeats 4000000
/-! what the cells hold behind an access, a drift -/
namespace Dk
open PySem PySem.Spec PyProof.Rows L2
theorem cellV_give_same {S : MS} {t i : Nat} {v : V} (h : S.ps.length = 1 + t) : cellV (S.give t i v) t i = some v := by
  unfold MS.give cellV
  by_cases c : i < 1 + t
  · rw [if_pos c, if_pos c]
    show (S.ps.set i v)[i]? = some v
    rw [List.getElem?_set, if_pos rfl, if_pos (by omega)]
  · rw [if_neg c, if_neg c]
    show (sett S.tr (i - (1 + t)) (S.tr (i - (1 + t)) ++ [v]) (i - (1 + t))).getLast? = some v
    rw [sett_same]
    simp
theorem cellV_give_ne {S : MS} {t i c : Nat} {v : V} (h : c ≠ i) : cellV (S.give t i v) t c = cellV S t c := by
  unfold MS.give cellV
  by_cases ci : i < 1 + t
  · rw [if_pos ci]
    by_cases cc : c < 1 + t
    · rw [if_pos cc, if_pos cc]
      show (S.ps.set i v)[c]? = _
      rw [List.getElem?_set, if_neg (fun z => h z.symm)]
    · rw [if_neg cc, if_neg cc]
      rfl
  · rw [if_neg ci]
    by_cases cc : c < 1 + t
    · rw [if_pos cc, if_pos cc]
      rfl
    · rw [if_neg cc, if_neg cc]
      show (sett S.tr (i - (1 + t)) _ (c - (1 + t))).getLast? = _
      rw [sett_ne (by omega)]
theorem cellV_short {S : MS} {t j c : Nat} {k : Int} : cellV (S.short j k) t c = cellV S t c := by
  unfold cellV
  by_cases cc : c < 1 + t
  · rw [if_pos cc, if_pos cc]
    rfl
  · rw [if_neg cc, if_neg cc]
    show (sett S.tr j ((S.tr j).drop (cutN (S.tr j).length k)) (c - (1 + t))).getLast? = _
    by_cases cj : c - (1 + t) = j
    · rw [cj, sett_same]
      cases hl : S.tr j with
      | nil => simp
      | cons x xs =>
        have : cutN (x :: xs).length k < (x :: xs).length := by
          unfold cutN
          rw [List.length_cons]
          omega
        rw [List.getLast?_drop, if_neg (by omega)]
    · rw [sett_ne cj]
/-- what a cell holds, of a shape -/
def CellIs (K : PySem.W.Frag) (H : Hp) (X : MS) (t c : Nat) (u : Tr) : Prop := ∃ v, cellV X t c = some v ∧ Dvl K H v u
theorem CellIs.ext {K : PySem.W.Frag} {H H' : Hp} {X : MS} {t c : Nat} {u : Tr} (h : CellIs K H X t c u) (s : ExT H H') : CellIs K H' X t c u := let ⟨v, e, d⟩ := h; ⟨v, e, d.ext s⟩
theorem CellIs.same {K : PySem.W.Frag} {H H' : Hp} {X : MS} {t c : Nat} {u : Tr} (h : CellIs K H X t c u) (s : Same H H') : CellIs K H' X t c u := h.ext (.of s)
theorem CellIs.eq {K : PySem.W.Frag} {H : Hp} {X X' : MS} {t c : Nat} {u : Tr} (h : CellIs K H X t c u) (e : cellV X' t c = cellV X t c) : CellIs K H X' t c u := let ⟨v, e', d⟩ := h; ⟨v, e.trans e', d⟩
def Nice (u : Tr) : Prop := u.ok ∧ u.sz < 1000 ∧ u.data.depth ≤ 10
theorem nice_int (i : Int) : Nice (.sc (.int i)) := ⟨rfl, by show 1 < 1000; decide, by show (PyData.int i).depth ≤ 10; simp [PyData.depth]⟩
theorem nice_non : Nice (.sc .non) := ⟨rfl, by show 1 < 1000; decide, by show PyData.none.depth ≤ 10; simp [PyData.depth]⟩
theorem nice_tup4 (a b c d : Int) : Nice (.tup [.sc (.int a), .sc (.int b), .sc (.int c), .sc (.int d)]) := by
  refine ⟨shaped_iff.mpr ⟨?_, ?_⟩, by show 1 + (1 + (1 + (1 + (1 + 0)))) < 1000; decide, ?_⟩
  · simp [Tr.data, datas, PyData.canLay0, PyData.canLayAll0]
  · simp [Tr.data, datas, PyData.depth, PyData.depthAll]
  · simp [Tr.data, datas, PyData.depth, PyData.depthAll]
theorem nice_st (x : Str) (i : Int) (hx : (PyData.str x).canLay0 = true) : Nice (.tup [.sc (.str x), .sc (.int i)]) := by
  refine ⟨shaped_iff.mpr ⟨?_, ?_⟩, by show 1 + (1 + (1 + 0)) < 1000; decide, ?_⟩
  · simp [Tr.data, datas, PyData.canLay0, PyData.canLayAll0] at hx ⊢
    exact hx
  · simp [Tr.data, datas, PyData.depth, PyData.depthAll]
  · simp [Tr.data, datas, PyData.depth, PyData.depthAll]
theorem nice_items : Nice (.tup [.sc (.str "items"), .tup []]) := by
  refine ⟨(show SeqAt.shaped (Tr.tup [.sc (.str "items"), .tup []]).data = true by decide +kernel), by decide, ?_⟩
  simp [Tr.data, datas, PyData.depth, PyData.depthAll]
theorem Nice.dvl {K : PySem.W.Frag} {H : Hp} {v : V} {u : Tr} (n : Nice u) (d : DV K H v u) : Dvl K H v u := ⟨d, n.1, Nat.lt_trans n.2.1 (by decide)⟩
theorem dv_int {K : PySem.W.Frag} {H : Hp} {v : V} {i : Int} (d : DV K H v (.sc (.int i))) : v = .int i := by cases d; rfl
theorem dv_tup {K : PySem.W.Frag} {H : Hp} {v : V} {l : List Tr} (d : DV K H v (.tup l)) : ∃ a xs, v = .ref a ∧ SqT K H a xs ∧ DVs K H xs l := by
  cases d with
  | tup h e => exact ⟨_, _, rfl, h, e⟩
theorem dvs_cons {K : PySem.W.Frag} {H : Hp} {xs : List V} {w : V} {l : List Tr} (d : DVs K H xs (.sc w :: l)) : ∃ ys, xs = w :: ys ∧ DVs K H ys l := by
  cases d with
  | cons a b =>
    cases a
    exact ⟨_, rfl, b⟩
theorem dvs_nil {K : PySem.W.Frag} {H : Hp} {xs : List V} (d : DVs K H xs []) : xs = [] := by cases d; rfl
end Dk

set_option maxHeartbeats 4000000
/-! is_many -/
namespace Dk
open PySem PySem.Spec PyProof.Rows L2
abbrev sMany : Stmt := top 10
def spMany : Sp := fun vs H Q _ => ∃ v t, vs = [v] ∧ vty v = some t ∧ Q (.bl (manyB v)) H
section
variable {P : Program} {w : World} {K : PySem.W.Frag} {mg : Str → Option Value} {base : Heap} {C M NV LE : Addr}
theorem scMany : FnScope ["value"] ["value"] (defScope sMany) := ⟨rfl, rfl, rfl, by decide +kernel, rfl, by decide +kernel, by decide +kernel⟩
theorem go_many (F : GT K mg "is_many" sMany ["value"]) (G : GO P w K mg base CX0 1 "is_whole" ["value"] spWhole) : GO P w K mg base CX0 2 "is_many" ["value"] spMany := by
  obtain ⟨f, fd, F, hm, hb⟩ := F
  refine ⟨f, fd, ?_, hm, F.kp, hb⟩
  refine F.ok scMany (fun vs H Q E h => ?_) (fun cdv A outer s H vs Q E hr h => ?_)
  · obtain ⟨v, t, rfl, _⟩ := h
    rfl
  · obtain ⟨v, t, rfl, ht, k⟩ := h
    refine ⟨_, pss_one (ps_ret (pe_and (pc_ G hr (pa_cons (pv 0) pa_nil)) (pe_one (pe_cmpR op_ge (pv 0) pe_int (nomark _))))), ?_⟩
    refine ⟨_, rfl, v, t, rfl, ht, _, rfl, ?_⟩
    cases v <;> cases ht
    · exact iteF k
    · exact iteF k
    · exact iteT ⟨_, rfl, _, _, rfl, rfl, k⟩
    · exact iteF k
end
end Dk

set_option maxHeartbeats 4000000
/-! drift -/
namespace Dk
open PySem PySem.Spec PyProof.Rows L2
abbrev sDrift : Stmt := inClass (top 23) 5
def spDrift (C M : Addr) : Sp := fun vs H Q _ => ∃ (m : Addr) (t w r j k : Nat) (A : Adr) (S : MS), vs = [.ref m, .int ((1 + t + j : Nat) : Int), .int (k : Int)] ∧ NOk t w r ∧ MemAt C M H m t w r A S ∧ j < t + w + r ∧ S.tr j ≠ [] ∧
  ∀ H', MemAt C M H' m t w r A (S.short j k) → Step m (t + w + r) A H A H' → Q .non H'
section
variable {P : Program} {w : World} {K : PySem.W.Frag} {mg : Str → Option Value} {base : Heap} {C M NV LE : Addr}
theorem scDrift : FnScope ["self", "cell", "steps"] ["self", "cell", "steps"] (defScope sDrift) := ⟨rfl, rfl, rfl, by decide +kernel, rfl, by decide +kernel, by decide +kernel⟩
theorem mo_drift (F : MT K M "drift" "Memory.drift" sDrift ["self", "cell", "steps"]) (TM : MTxt K M) (GA : MO P w K mg base (L2.CX P w) M 8 "_ask_lasting" ["self", "cell"] (spAsk C M NV)) (GM : GO P w K mg base CX0 2 "is_many" ["value"] spMany)
    (GS : MO P w K mg base CX0 M 1 "_shorten" ["self", "cell", "steps"] (spShort C M)) : MO P w K mg base CX0 M 9 "drift" ["self", "cell", "steps"] (spDrift C M) := by
  obtain ⟨f, fd, F, hm, hb⟩ := F
  refine ⟨f, fd, ?_, hm, hb⟩
  refine F.ok scDrift (fun vs H Q E h => ?_) (fun cdv A outer s H vs Q E hr h => ?_)
  · obtain ⟨m, t, w, r, j, k, A, S, rfl, _⟩ := h
    rfl
  · obtain ⟨m, t, w, r, j, x, A0, S, rfl, nok, D, hj, hne, k⟩ := h
    obtain ⟨dx, h1⟩ := D.ob
    refine ⟨_, pss_cons (ps_expr (pmX_ GA TM.cl hr (pv 0) (pa_cons (pv 1) pa_nil))) (pss_cons (ps_if (pt_not (pt_val (pc_ GM (hr.mono (by decide)) (pa_cons (pv 2) pa_nil)))) (pss_one ps_never) pss_nil)
      (pss_one (ps_expr (pm_ GS TM.cl (hr.mono (by decide)) (pv 0) (pa_cons (pv 1) (pa_cons (pv 2) pa_nil)))))), ?_⟩
    refine ⟨_, rfl, m, dx, _, rfl, h1, rfl, _, rfl, m, t, w, r, 1 + t + j, A0, S, rfl, D, fun _ => ?_, fun c => absurd (by omega) c⟩
    refine ⟨_, rfl, _, "int", rfl, rfl, _, rfl, ?_⟩
    have e : manyB (.int (x : Int)) = true := by
      show decide ((0 : Int) ≤ (x : Int)) = true
      exact decide_eq_true (by omega)
    rw [e]
    refine iteF ?_
    exact ⟨_, rfl, m, dx, _, rfl, h1, rfl, _, rfl, _, rfl, m, t, w, r, j, A0, S, _, rfl, nok, D, hj, hne, fun H' D' st => k H' D' st⟩
end
end Dk

set_option maxHeartbeats 4000000
/-! a tuple has one reading -/
namespace Dk
open PySem PySem.Spec PyProof.Rows L2
def Uq (K : PySem.W.Frag) (H : Hp) : Prop := ∀ a xs ys, SqT K H a xs → SqT K H a ys → xs = ys
theorem rd_one {H : Hp} {a : Addr} {xs ys : List V} (h : Rd H a (.tup xs)) (h' : Rd H a (.tup ys)) : xs = ys := by
  rcases h with h | ⟨o, h⟩
  · rcases h' with h' | ⟨o', h'⟩
    · rw [h] at h'
      cases h'
      rfl
    · rw [h] at h'
      cases h'
  · rcases h' with h' | ⟨o', h'⟩
    · rw [h] at h'
      cases h'
    · rw [h] at h'
      cases h'
      rfl
/-- where a def is asked, what the law's own module holds stands apart from what is tracked: so each tuple has one reading -/
theorem uq_of {P : Program} {w : World} {K : PySem.W.Frag} {mg : Str → Option Value} {base : Heap} {A : Around} {outer : List Env} {s : Shared} {H : Hp} (e0 : Env0 P w K mg base A outer s H) : Uq K H := by
  have apart : ∀ a o, K.lookup a = some o → H a = none := fun a o h => (e0.bs a o (e0.mod.kin a o h)).2
  have no : ∀ {a : Addr} {xs : List V} {o : Obj}, Rd H a (.tup xs) → K.lookup a = some o → False := fun {a xs o} r h => by
    have := apart _ _ h
    rcases r with r | ⟨o', r⟩ <;> (rw [this] at r; cases r)
  intro a xs ys h h'
  rcases h with h | ⟨o, its, n, hk, hc, hd, hz, r⟩
  · rcases h' with h' | ⟨o', its', n', hk', _⟩
    · exact rd_one h h'
    · exact (no h hk').elim
  · rcases h' with h' | ⟨o', its', n', hk', hc', hd', hz', r'⟩
    · exact (no h' hk).elim
    · rw [hk] at hk'
      cases hk'
      rw [hd] at hd'
      injection hd' with d1 _
      subst d1
      exact r.inj r'
theorem FnR.uq {P : Program} {w : World} {K : PySem.W.Frag} {mg : Str → Option Value} {base : Heap} {CX : CXT} {k : Nat} {f : Addr} {sp : Sp} (F : FnR P w K mg base CX k f sp) : FnR P w K mg base CX k f (fun vs H Q E => Uq K H → sp vs H Q E) :=
  fun A outer s H us vs Q E hr e0 r hs => F A outer s H us vs Q E hr e0 r (hs (uq_of e0))
mutual
theorem DV.one {K : PySem.W.Frag} {H : Hp} (u : Uq K H) : ∀ (t : Tr) (v : V) (t' : Tr), DV K H v t → DV K H v t' → t = t'
  | .sc _, _, t', h, h' => by
    cases h with
    | sc e =>
      cases h' with
      | sc e' => rfl
      | tup q d => cases e
  | .tup l, _, t', h, h' => by
    cases h with
    | tup q d =>
      cases h' with
      | sc e' => cases e'
      | @tup _ xs' l' q' d' =>
        have := u _ _ _ q q'
        subst this
        rw [DVs.one u l _ l' d d']
theorem DVs.one {K : PySem.W.Frag} {H : Hp} (u : Uq K H) : ∀ (l : List Tr) (xs : List V) (l' : List Tr), DVs K H xs l → DVs K H xs l' → l = l'
  | [], _, l', h, h' => by
    cases h
    cases h'
    rfl
  | t :: l, _, l', h, h' => by
    cases h with
    | cons d e =>
      cases h' with
      | cons d' e' => rw [DV.one u t _ _ d d', DVs.one u l _ _ e e']
end
end Dk

set_option maxHeartbeats 4000000
/-! a machine that ends behind at most so many accesses; one access after the other -/
namespace Dk
open PySem PySem.Spec PyProof.Rows L2
def Zst (Z : Addr → Prop) (H : Hp) (Z' : Addr → Prop) (H' : Hp) : Prop := (∀ b o, H b = some o → ¬ Z b → H' b = some o) ∧ ∀ b, Z' b → Z b ∨ H b = none
theorem Zst.trans {Z Z1 Z2 : Addr → Prop} {H H1 H2 : Hp} (a : Zst Z H Z1 H1) (b : Zst Z1 H1 Z2 H2) : Zst Z H Z2 H2 := by
  have keep : ∀ c o, H c = some o → ¬ Z c → ¬ Z1 c := fun c o e hc h => by
    rcases a.2 c h with q | q
    · exact hc q
    · rw [e] at q; cases q
  refine ⟨fun c o e hc => b.1 c o (a.1 c o e hc) (keep c o e hc), fun c h => ?_⟩
  rcases b.2 c h with q | q
  · exact a.2 c q
  · by_cases hc : Z c
    · exact .inl hc
    · refine .inr ?_
      cases e : H c with
      | none => rfl
      | some o =>
        rw [a.1 c o e hc] at q
        cases q
theorem Zst.out {Z Z' : Addr → Prop} {H H' : Hp} (a : Zst Z H Z' H') {c : Addr} {o : HO} (e : H c = some o) (hc : ¬ Z c) : H' c = some o ∧ ¬ Z' c :=
  ⟨a.1 c o e hc, fun h => (a.2 c h).elim hc fun q => by rw [e] at q; cases q⟩
theorem foot_some {C M : Addr} {H : Hp} {m : Addr} {t w r : Nat} {A : Adr} {S : MS} (D : MemAt C M H m t w r A S) {b : Addr} (hb : Foot m A (t + w + r) b) : ∃ u, H b = some u := by
  obtain ⟨dx, h1⟩ := D.ob
  rcases hb with q | q | q | q | q | q | ⟨j, hj, q⟩ | q
  · exact ⟨_, q ▸ h1⟩
  · exact ⟨_, q ▸ D.ps⟩
  · exact ⟨_, q ▸ D.tr.d⟩
  · exact ⟨_, q ▸ D.ld⟩
  · exact ⟨_, q ▸ D.nl⟩
  · exact ⟨_, q ▸ D.gl⟩
  · exact ⟨_, q ▸ D.tr.l j hj⟩
  · obtain ⟨z, hz⟩ := List.getElem?_of_mem q
    obtain ⟨ns, _, e2⟩ := D.no z b hz
    exact ⟨_, e2⟩
theorem MemAt.on {C M : Addr} {H H' : Hp} {m : Addr} {t w r : Nat} {A : Adr} {S : MS} (D : MemAt C M H m t w r A S) (f : ∀ c o, H c = some o → Foot m A (t + w + r) c → H' c = some o) (g : ∀ o, H A.a = some o → H' A.a = some o) : MemAt C M H' m t w r A S := by
  obtain ⟨dx, ho⟩ := D.ob
  obtain ⟨da, hlay⟩ := D.lay
  exact ⟨⟨dx, f _ _ ho (.inl rfl)⟩, ⟨da, g _ hlay⟩, f _ _ D.ps (.inr (.inl rfl)), ⟨f _ _ D.tr.d (.inr (.inr (.inl rfl))), fun j hj => f _ _ (D.tr.l j hj) (.inr (.inr (.inr (.inr (.inr (.inr (.inl ⟨j, hj, rfl⟩))))))), D.tr.inj⟩, f _ _ D.ld (.inr (.inr (.inr (.inl rfl)))),
    f _ _ D.nl (.inr (.inr (.inr (.inr (.inl rfl))))), D.nn, D.nd, fun i c hc => let ⟨ns, e1, e2⟩ := D.no i c hc; ⟨ns, e1, f _ _ e2 (.inr (.inr (.inr (.inr (.inr (.inr (.inr (List.mem_of_getElem? hc))))))))⟩, f _ _ D.gl (.inr (.inr (.inr (.inr (.inr (.inl rfl)))))), D.d1, D.d2, D.d3, D.d4, D.d5⟩
abbrev QG := V → Hp → Adr → MS → Nat → (Addr → Prop) → Prop
def Go (P : Program) (W : World) (K : PySem.W.Frag) (mg : Str → Option Value) (base : Heap) (ka : Nat) (C M a CM dxm m : Addr) (t w r th : Nat) (Q : QG) : Nat → Hp → Adr → MS → Nat → (Addr → Prop) → Prop
  | 0, _, _, _, _, _ => False
  | n + 1, H, A, X, B, Z => ∃ (q l fa : Addr) (th' : V) (left : List V) (rest : List (Str × V)) (rq : Rq) (spa : Sp), Mach P W K mg base CM H a dxm (.ref q) l th' left rest ∧ H q = some (.tup rq.vs) ∧ rq.ok t w r ∧ rq.vals K H ∧ rq.flatAt K H X t ∧ Meth K CM "accept" fa ∧ FnR P W K mg base CX0 ka fa spa ∧
      MemAt C M H m t w r A X ∧ SOk X t (t + w + r) B ∧ (∀ b, Foot m A (t + w + r) b → Z b) ∧ ¬ Z A.a ∧
      ∀ (v x : V) (p : Addr) (A' : Adr) (X' : MS) (H1 : Hp), A'.a = A.a → Res K ((X.withCount (X.count + 1)).withLog (X.log ++ [x])) t th H1 H1 rq v X' → H1 p = some (.tup [v, .int (X.count + 1)]) → SOk X' t (t + w + r) (B + 2) → MemAt C M H1 m t w r A' X' → Step m (t + w + r) A H A' H1 →
        ∀ Q' : VK, (∀ u H2 Z', Zst Z H Z' H2 → (Go P W K mg base ka C M a CM dxm m t w r th Q n H2 A' X' (B + 2) Z' ∨
            ∃ (q2 l2 : Addr) (th2 : V) (left2 : List V) (rest2 : List (Str × V)) (y : V), Mach P W K mg base CM H2 a dxm (.ref q2) l2 th2 left2 rest2 ∧ H2 q2 = some (.tup [.str "end", y]) ∧ MemAt C M H2 m t w r A' X' ∧ (∀ b, Foot m A' (t + w + r) b → Z' b) ∧ ¬ Z' A'.a ∧ Q y H2 A' X' (B + 2) Z') → Q' u H2) → spa [.ref a, .ref p] H1 Q' E0
theorem met_out {C M : Addr} {H : Hp} {m : Addr} {t w r : Nat} {A : Adr} {S : MS} (D : MemAt C M H m t w r A S) {u g a : Addr} (hu : H u = some (.met g a)) : ¬ Foot m A (t + w + r) u := fun hf => by
  obtain ⟨dx, h1⟩ := D.ob
  rcases hf with q | q | q | q | q | q | ⟨j, hj, q⟩ | q
  · exact ne_of hu h1 (by intro z; cases z) q
  · exact ne_of hu D.ps (by intro z; cases z) q
  · exact ne_of hu D.tr.d (by intro z; cases z) q
  · exact ne_of hu D.ld (by intro z; cases z) q
  · exact ne_of hu D.nl (by intro z; cases z) q
  · exact ne_of hu D.gl (by intro z; cases z) q
  · exact ne_of hu (D.tr.l j hj) (by intro z; cases z) q
  · obtain ⟨z, hz⟩ := List.getElem?_of_mem q
    obtain ⟨ns, _, e2⟩ := D.no z u hz
    exact ne_of hu e2 (by intro z; cases z) rfl
theorem FnOk.fnr {P : Program} {w : World} {K : PySem.W.Frag} {mg : Str → Option Value} {base : Heap} {k : Nat} {f : Addr} {fd : FuncData} {ps : List Str} {sp : Sp} (F : FnOk P w K mg base CX0 k f fd ps sp) (hb : Binds K fd ps []) : FnR P w K mg base CX0 k f sp :=
  (F.raw hb .nil).imp fun vs H Q E h => by rw [List.append_nil]; exact h
theorem Kept.free {a : Addr} {H H' : Hp} (k : Kept a H H') {p : Addr} (hp : H' p = none) (ha : ∃ o, H' a = some o) : H p = none := by
  cases q : H p with
  | none => rfl
  | some o =>
    by_cases c : p = a
    · subst c
      obtain ⟨o', e⟩ := ha
      rw [e] at hp; cases hp
    · have := k p o q c
      rw [hp] at this; cases this
theorem Kept.trans {a : Addr} {H H1 H2 : Hp} (x : Kept a H H1) (y : Kept a H1 H2) : Kept a H H2 := fun b o e n => y b o (x b o e n) n
theorem Kept.of {a : Addr} {H H1 : Hp} (s : Same H H1) : Kept a H H1 := fun b o e _ => s b o e
def spAcc (P : Program) (W : World) (K : PySem.W.Frag) (mg : Str → Option Value) (base : Heap) (k : Nat) (C : Addr) : Sp := fun vs H Q E => (∀ (a dx : Addr) (fs : List (Str × V)), vs.head? = some (.ref a) → H a = some (.ins C dx fs) → fs.lookup ("_go_on" : Str) = none) ∧ spGo P W K mg base k C vs H Q E
theorem lay_out {C M : Addr} {H : Hp} {m : Addr} {t w r : Nat} {A : Adr} {S : MS} (D : MemAt C M H m t w r A S) : ¬ Foot m A (t + w + r) A.a := fun hf => by
  obtain ⟨da, hu⟩ := D.lay
  rcases hf with q | q | q | q | q | q | ⟨j, hj, q⟩ | q
  · exact D.d5 q.symm
  · exact ne_of hu D.ps (by intro z; cases z) q
  · exact ne_of hu D.tr.d (by intro z; cases z) q
  · exact ne_of hu D.ld (by intro z; cases z) q
  · exact ne_of hu D.nl (by intro z; cases z) q
  · exact ne_of hu D.gl (by intro z; cases z) q
  · exact ne_of hu (D.tr.l j hj) (by intro z; cases z) q
  · obtain ⟨z, hz⟩ := List.getElem?_of_mem q
    obtain ⟨ns, _, e2⟩ := D.no z A.a hz
    exact ne_of hu e2 (by intro z; cases z) rfl
structure MSt (C M CE : Addr) (H : Hp) (m : Addr) (t w r B : Nat) (A : Adr) (X : MS) (Z : Addr → Prop) (a dx q l : Addr) (th : V) (left : List V) (rest : List (Str × V)) : Prop where
  D : MaAt CE H a dx (.ref q) l th left rest
  DM : MemAt C M H m t w r A X
  so : SOk X t (t + w + r) B
  zf : ∀ b, Foot m A (t + w + r) b → Z b
  za : Z a
  zl : Z l
  nfa : ¬ Foot m A (t + w + r) a
  nfl : ¬ Foot m A (t + w + r) l
  zla : ¬ Z A.a
abbrev Zn (m : Addr) (A' : Adr) (n : Nat) (Z N : Addr → Prop) : Addr → Prop := fun b => Foot m A' n b ∨ Z b ∨ N b
section
variable {C M CE : Addr} {H H1 H2 : Hp} {m : Addr} {t w r B : Nat} {A A' : Adr} {X X' : MS} {Z : Addr → Prop} {a dx q l : Addr} {th : V} {left : List V} {rest : List (Str × V)}
theorem MSt.acc (s : MSt C M CE H m t w r B A X Z a dx q l th left rest) (st : Step m (t + w + r) A H A' H1) : MaAt CE H1 a dx (.ref q) l th left rest ∧ ¬ Foot m A' (t + w + r) a ∧ ¬ Foot m A' (t + w + r) l :=
  ⟨⟨(st.out s.D.ob s.nfa).1, (st.out s.D.lf s.nfl).1⟩, (st.out s.D.ob s.nfa).2, (st.out s.D.lf s.nfl).2⟩
theorem MSt.next {q' l' : Addr} {th' : V} {left' : List V} {rest' : List (Str × V)} (s : MSt C M CE H m t w r B A X Z a dx q l th left rest) (st : Step m (t + w + r) A H A' H1) (ea : A'.a = A.a) (D' : MemAt C M H1 m t w r A' X') (so' : SOk X' t (t + w + r) (B + 2)) (Y N : Addr → Prop)
    (kp : ∀ b o, H1 b = some o → ¬ Y b → H2 b = some o) (yz : ∀ b, Y b → Z b) (yf : ∀ b, Y b → ¬ Foot m A' (t + w + r) b) (nn : ∀ b, N b → H1 b = none) (D2 : MaAt CE H2 a dx (.ref q') l' th' left' rest') (hl : l' = l ∨ N l') :
    MSt C M CE H2 m t w r (B + 2) A' X' (Zn m A' (t + w + r) Z N) a dx q' l' th' left' rest' ∧ Zst Z H (Zn m A' (t + w + r) Z N) H2 := by
  obtain ⟨_, fa, fl⟩ := s.acc st
  have zla' : ¬ Z A'.a := by rw [ea]; exact s.zla
  have nf : ∀ b, H1 b = none → ¬ Foot m A' (t + w + r) b := fun b hb hf => by
    obtain ⟨u, hu⟩ := foot_some D' hf
    rw [hb] at hu; cases hu
  obtain ⟨da, hla⟩ := id D'.lay
  refine ⟨⟨D2, D'.on (fun c o e hf => kp c o e fun y => yf c y hf) (fun o e => kp _ o e fun y => zla' (yz _ y)), so', fun b hb => .inl hb, .inr (.inl s.za), ?_, fa, ?_, fun h => ?_⟩, ⟨fun b o e nz => kp b o (st.chg b o e fun h => nz (s.zf b h)) fun y => nz (yz b y), fun b hb => ?_⟩⟩
  · rcases hl with e | e
    · rw [e]; exact .inr (.inl s.zl)
    · exact .inr (.inr e)
  · rcases hl with e | e
    · rw [e]; exact fl
    · exact nf l' (nn l' e)
  · rcases h with h | h | h
    · exact lay_out D' h
    · exact zla' h
    · have := nn _ h
      rw [hla] at this; cases this
  · rcases hb with h | h | h
    · exact (st.foot b h).imp (s.zf b) id
    · exact .inl h
    · by_cases z : Z b
      · exact .inl z
      · refine .inr ?_
        cases e : H b with
        | none => rfl
        | some o =>
          have := st.chg b o e fun h => z (s.zf b h)
          rw [nn b h] at this; cases this
end
structure MCl (P : Program) (W : World) (K : PySem.W.Frag) (mg : Str → Option Value) (base : Heap) (CE fa : Addr) : Prop where
  cl : Cls K CE
  rq : MD P W K mg base 1 CE "request" (spReq CE)
  ma : Meth K CE "accept" fa
  fa : FnR P W K mg base CX0 7 fa (spAcc P W K mg base 5 CE)
structure RsOk (rest : List (Str × V)) : Prop where
  n1 : rest.lookup ("request" : Str) = none
  n2 : rest.lookup ("accept" : Str) = none
  n3 : rest.lookup ("_go_on" : Str) = none
  n : rest.length < 900
section
variable {P : Program} {W : World} {K : PySem.W.Frag} {mg : Str → Option Value} {base : Heap} {C M CE fa : Addr} {H : Hp} {m : Addr} {t w r B th0 : Nat} {A : Adr} {X : MS} {Z : Addr → Prop} {a dx q l : Addr} {th : V} {left : List V} {rest : List (Str × V)} {Qg : QG} {n : Nat}
theorem MSt.mach (s : MSt C M CE H m t w r B A X Z a dx q l th left rest) (mc : MCl P W K mg base CE fa) (ro : RsOk rest) : Mach P W K mg base CE H a dx (.ref q) l th left rest := ⟨s.D, mc.cl, mc.rq, ro.n1, ro.n2, ro.n⟩
theorem go_lk {fs : List (Str × V)} {wv : V} {l' : Addr} {th' : V} (ro : RsOk rest) : (mfs wv l' th' rest).lookup ("_go_on" : Str) = none := by
  show (("_wanted", wv) :: ("_left", V.ref l') :: ("_then", th') :: rest : List (Str × V)).lookup ("_go_on" : Str) = none
  rw [List.lookup_cons, List.lookup_cons, List.lookup_cons]
  exact ro.n3
theorem go_then {qm g : Addr} {rq : Rq} {sp : Sp} (s : MSt C M CE H m t w r B A X Z a dx q l (.ref qm) [] rest) (mc : MCl P W K mg base CE fa) (ro : RsOk rest) (hq : H q = some (.tup rq.vs)) (ok : rq.ok t w r) (vals : rq.vals K H) (fl : rq.flatAt K H X t) (hm : H qm = some (.met g a)) (fi : PySem.W.fnIn K g = true) (FR : FnR P W K mg base CX0 5 g sp)
    (nxt : ∀ (v x : V) (p : Addr) (A' : Adr) (X' : MS) (H1 : Hp), A'.a = A.a → Res K ((X.withCount (X.count + 1)).withLog (X.log ++ [x])) t th0 H1 H1 rq v X' → H1 p = some (.tup [v, .int (X.count + 1)]) → SOk X' t (t + w + r) (B + 2) → MemAt C M H1 m t w r A' X' → Step m (t + w + r) A H A' H1 →
      MaAt CE H1 a dx (.ref q) l (.ref qm) [] rest → Uq K H1 → ∀ Q' : Hp → Prop, (∀ H2 Z', Zst Z H Z' H2 → (Go P W K mg base 7 C M a CE dx m t w r th0 Qg n H2 A' X' (B + 2) Z' ∨
        ∃ (q2 l2 : Addr) (th2 : V) (left2 : List V) (rest2 : List (Str × V)) (y : V), RsOk rest2 ∧ MSt C M CE H2 m t w r (B + 2) A' X' Z' a dx q2 l2 th2 left2 rest2 ∧ H2 q2 = some (.tup [.str "end", y]) ∧ Qg y H2 A' X' (B + 2) Z') → Q' H2) → sp [.ref a, .ref p] H1 (fun _ H' => Q' H') E0) : Go P W K mg base 7 C M a CE dx m t w r th0 Qg (n + 1) H A X B Z := by
  refine ⟨q, l, fa, _, _, rest, rq, _, s.mach mc ro, hq, ok, vals, fl, mc.ma, (FnR.uq mc.fa), s.DM, s.so, s.zf, s.zla, fun v x p A' X' H1 ea R hp so' D' st Q' hQ' uq => ?_⟩
  obtain ⟨D1, f1, f2⟩ := s.acc st
  refine ⟨fun a' dx' fs e1 e2 => ?_, a, dx, l, _, _, .ref p, [], rest, rfl, D1, ro.n, .inr ⟨rfl, qm, g, sp, rfl, (st.out hm (met_out s.DM hm)).1, fi, FR, ?_⟩⟩
  · cases e1
    rw [D1.ob] at e2
    cases e2
    exact go_lk (fs := []) ro
  · refine nxt v x p A' X' H1 ea R hp so' D' st D1 uq (fun H' => Q' .non H') fun H2 Z' zs hc => hQ' .non H2 Z' zs ?_
    rcases hc with g' | ⟨q2, l2, th2, left2, rest2, y, ro2, s2, h1, h2⟩
    · exact .inl g'
    · exact .inr ⟨q2, l2, th2, left2, rest2, y, s2.mach mc ro2, h1, s2.DM, s2.zf, s2.zla, h2⟩
end
end Dk

set_option maxHeartbeats 4000000
/-! words, statuses, marks; lists of accesses; a deed's record -/
namespace Dk
open PySem PySem.Spec PyProof.Rows L2
abbrev sIsMark : Stmt := top 16
abbrev sIsDone : Stmt := top 25
abbrev sShBy : Stmt := top 26
abbrev sLast : Stmt := top 19
abbrev sAsc : Stmt := top 21
inductive Wd where
  | addr (a : Int)
  | mark (d s o n : Int)
def Wd.tr : Wd → Tr
  | .addr a => .sc (.int a)
  | .mark d s o n => .tup [.sc (.int d), .sc (.int s), .sc (.int o), .sc (.int n)]
inductive Sta where
  | zero
  | tup (z : Str) (t : Int)
def Sta.tr : Sta → Tr
  | .zero => .sc (.int 0)
  | .tup z t => .tup [.sc (.str z), .sc (.int t)]
def Sta.done : Sta → Bool
  | .zero => false
  | .tup z _ => decide (z = "done")
def Sta.num : Sta → Int
  | .zero => 0
  | .tup _ t => t
def Sta.ok : Sta → Prop
  | .zero => True
  | .tup z _ => z = "done" ∨ z = "failed"
def Wd.shown (s : Sta) : Wd → Int
  | .addr a => a
  | .mark _ _ o n => if s.done = true then n else o
theorem wd_addr {K : PySem.W.Frag} {H : Hp} {v : V} {a : Int} (d : DV K H v (Wd.addr a).tr) : v = .int a := dv_int d
theorem wd_mark {K : PySem.W.Frag} {H : Hp} {v : V} {d s o n : Int} (h : DV K H v (Wd.mark d s o n).tr) : ∃ p, v = .ref p ∧ SqT K H p [.int d, .int s, .int o, .int n] := by
  obtain ⟨p, xs, e, hq, h0⟩ := dv_tup h
  obtain ⟨x1, rfl, h1⟩ := dvs_cons h0
  obtain ⟨x2, rfl, h2⟩ := dvs_cons h1
  obtain ⟨x3, rfl, h3⟩ := dvs_cons h2
  obtain ⟨x4, rfl, h4⟩ := dvs_cons h3
  have h5 := dvs_nil h4
  subst h5
  exact ⟨p, e, hq⟩
theorem sta_zero {K : PySem.W.Frag} {H : Hp} {v : V} (d : DV K H v Sta.zero.tr) : v = .int 0 := dv_int d
theorem sta_tup {K : PySem.W.Frag} {H : Hp} {v : V} {z : Str} {t : Int} (h : DV K H v (Sta.tup z t).tr) : ∃ p, v = .ref p ∧ SqT K H p [.str z, .int t] := by
  obtain ⟨p, xs, e, hq, h0⟩ := dv_tup h
  obtain ⟨x1, rfl, h1⟩ := dvs_cons h0
  obtain ⟨x2, rfl, h2⟩ := dvs_cons h1
  have h3 := dvs_nil h2
  subst h3
  exact ⟨p, e, hq⟩
theorem str_lay {z : Str} (h : z = "done" ∨ z = "failed") : (PyData.str z).canLay0 = true := by
  rcases h with rfl | rfl <;> decide +kernel
theorem Wd.nice (w : Wd) : Nice w.tr := by
  cases w with
  | addr a => exact nice_int a
  | mark d s o n => exact nice_tup4 d s o n
theorem Sta.nice {s : Sta} (h : s.ok) : Nice s.tr := by
  cases s with
  | zero => exact nice_int 0
  | tup z t => exact nice_st z t (str_lay h)
def spIsMark (K : PySem.W.Frag) : Sp := fun vs H Q _ => ∃ (v : V) (wd : Wd), vs = [v] ∧ DV K H v wd.tr ∧ Q (.bl (match wd with | .addr _ => false | .mark .. => true)) H
def spIsDone (K : PySem.W.Frag) : Sp := fun vs H Q _ => ∃ (v : V) (s : Sta), vs = [v] ∧ DV K H v s.tr ∧ s.ok ∧ ∀ H', Same H H' → Q (.bl s.done) H'
def spShBy (K : PySem.W.Frag) : Sp := fun vs H Q _ => ∃ (p : Addr) (d s o n : Int) (v : V) (st : Sta), vs = [.ref p, v] ∧ SqT K H p [.int d, .int s, .int o, .int n] ∧ DV K H v st.tr ∧ st.ok ∧ ∀ H', Same H H' → Q (.int (if st.done = true then n else o)) H'
/-- lasting_accesses: flushes and a fence, each a new tuple -/
def FlushAt (H : Hp) (p : Addr) (c : Nat) : Prop := H p = some (.tup (Rq.flush c).vs)
def spLastA : Sp := fun vs H Q _ => ∃ (a : Addr) (cs : List Nat), vs = [.ref a] ∧ H a = some (.lst (cs.map fun c : Nat => V.int (c : Int))) ∧ cs.length < 1000 ∧
  ∀ (H' : Hp) (p pf : Addr) (ps : List Addr), Same H H' → H p = none → H' p = some (.lst ((ps ++ [pf]).map V.ref)) → Paired (FlushAt H') ps cs → H' pf = some (.tup Rq.fence.vs) → Q (.ref p) H'
theorem FlushAt.ext {H H' : Hp} (x : ExT H H') {p : Addr} {c : Nat} (h : FlushAt H p c) : FlushAt H' p c := x.1 _ _ h
theorem kept_lst {H : Hp} {D : Addr} {xs ys : List V} (h : H D = some (.lst xs)) : ExT H (upd H D (.lst ys)) := ⟨fun b zs e => by rw [upd_ne (ne_of e h (by intro z; cases z))]; exact e, fun b o zs e => by rw [upd_ne (ne_of e h (by intro z; cases z))]; exact e⟩
theorem papp {α β : Type} {F : α → β → Prop} : ∀ {xs xs' : List α} {ys ys' : List β}, Paired F xs ys → Paired F xs' ys' → Paired F (xs ++ xs') (ys ++ ys')
  | _, _, _, _, .nil, t => t
  | _, _, _, _, .cons r t, u => .cons r (papp t u)
theorem pmono {α β : Type} {F G : α → β → Prop} (h : ∀ a b, F a b → G a b) : ∀ {xs : List α} {ys : List β}, Paired F xs ys → Paired G xs ys
  | _, _, .nil => .nil
  | _, _, .cons r t => .cons (h _ _ r) (pmono h t)
theorem plen {α β : Type} {F : α → β → Prop} : ∀ {xs : List α} {ys : List β}, Paired F xs ys → xs.length = ys.length
  | _, _, .nil => rfl
  | _, _, .cons _ t => by rw [List.length_cons, List.length_cons, plen t]
section
variable {P : Program} {w : World} {K : PySem.W.Frag} {mg : Str → Option Value} {base : Heap} {C M S CD : Addr}
theorem scIsMark : FnScope ["value"] ["value"] (defScope sIsMark) := ⟨rfl, rfl, rfl, by decide +kernel, rfl, by decide +kernel, by decide +kernel⟩
theorem go_ismark (F : GT K mg "is_mark" sIsMark ["value"]) (B0 : Bn mg) : GO P w K mg base CX0 1 "is_mark" ["value"] (spIsMark K) := by
  obtain ⟨f, fd, F, hm, hb⟩ := F
  refine ⟨f, fd, ?_, hm, F.kp, hb⟩
  refine F.ok scIsMark (fun vs H Q E h => ?_) (fun cdv A outer s H vs Q E hr h => ?_)
  · obtain ⟨v, wd, rfl, _⟩ := h
    rfl
  · obtain ⟨v, wd, rfl, d, k⟩ := h
    refine ⟨_, (pss_one (ps_ret (pe_callB call_isi (by rfl) B0.isi (by decide +kernel) (pa_cons (pv 0) (pa_cons (pe_bltn (v := .ty "tuple") (by rfl) B0.tuple (by decide +kernel) rfl) pa_nil))))), ?_⟩
    cases wd with
    | addr a =>
      have := wd_addr d
      subst this
      exact ⟨_, rfl, _, _, _, _, false, rfl, .ty "tuple", .base (.int a), kit_ty (by decide +kernel), k⟩
    | mark d1 s1 o1 n1 =>
      obtain ⟨p, rfl, hp⟩ := wd_mark d
      exact ⟨_, rfl, _, _, _, _, true, rfl, .ty "tuple", tyT hp, kit_ty (by decide +kernel), k⟩
theorem scIsDone : FnScope ["status"] ["status"] (defScope sIsDone) := ⟨rfl, rfl, rfl, by decide +kernel, rfl, by decide +kernel, by decide +kernel⟩
theorem go_isdone (F : GT K mg "is_done" sIsDone ["status"]) (B0 : Bn mg) : GO P w K mg base CX0 1 "is_done" ["status"] (spIsDone K) := by
  obtain ⟨f, fd, F, hm, hb⟩ := F
  refine ⟨f, fd, ?_, hm, F.kp, hb⟩
  refine F.ok scIsDone (fun vs H Q E h => ?_) (fun cdv A outer s H vs Q E hr h => ?_)
  · obtain ⟨v, st, rfl, _⟩ := h
    rfl
  · obtain ⟨v, st, rfl, d, ok, k⟩ := h
    refine ⟨_, (pss_one (ps_ret (pe_and (pe_callB call_isi (by rfl) B0.isi (by decide +kernel) (pa_cons (pv 0) (pa_cons (pe_bltn (v := .ty "tuple") (by rfl) B0.tuple (by decide +kernel) rfl) pa_nil))) (pe_one (pe_cmpR (op_eqD hr.units) (pe_slice sl_tup (pv 0) po_none (po_some pe_int)) (pe_tup (pa_cons pe_str pa_nil)) (nomark _)))))), ?_⟩
    cases st with
    | zero =>
      have := sta_zero d
      subst this
      exact ⟨_, rfl, _, _, _, _, false, rfl, .ty "tuple", .base (.int 0), kit_ty (by decide +kernel), _, rfl, iteF (k H (Same.refl H))⟩
    | tup z t =>
      obtain ⟨p, rfl, hp⟩ := sta_tup d
      refine ⟨_, rfl, _, _, _, _, true, rfl, .ty "tuple", tyT hp, kit_ty (by decide +kernel), _, rfl, iteT ?_⟩
      refine ⟨_, rfl, _, rfl, p, _, rfl, hp, (show ¬ (HT.sIx 2 0 none = 0 ∧ HT.sIx 2 2 (some 1) = 2) by decide), fun p1 hp1 => ?_⟩
      rw [show cutV [V.str z, V.int t] none (some 1) = [V.str z] from rfl]
      have s1 := up1 (o := HO.tup [V.str z]) hp1
      have e1 : upd H p1 (HO.tup [V.str z]) p1 = _ := upd_same
      generalize upd H p1 (HO.tup [V.str z]) = H1 at s1 e1 ⊢
      refine ⟨(by show 1 ≤ sizeLine; decide), fun p2 hp2 => ?_⟩
      have s2 := up1 (o := HO.tup [V.str "done"]) hp2
      have e2 : upd H1 p2 (HO.tup [V.str "done"]) p2 = _ := upd_same
      generalize upd H1 p2 (HO.tup [V.str "done"]) = H2 at s2 e2 ⊢
      refine ⟨.tuple [.str z], .tuple [.str "done"], .tup (SqT.of (s2 _ _ e1)) (.cons (.str _) .nil), .tup (SqT.of e2) (.cons (.str _) .nil), ?_, by decide +kernel, ?_⟩
      · rcases ok with rfl | rfl <;> decide +kernel
      · have : PyData.eqv (.tuple [.str z]) (.tuple [.str "done"]) = (Sta.tup z t).done := by
          rcases ok with rfl | rfl
          · show _ = decide (("done" : Str) = "done")
            decide +kernel
          · show _ = decide (("failed" : Str) = "done")
            decide +kernel
        rw [this]
        exact k H2 (s1.trans s2)
theorem scShBy : FnScope ["mark", "status", "old", "new"] ["mark", "status"] (defScope sShBy) := ⟨rfl, rfl, rfl, by decide +kernel, rfl, by decide +kernel, by decide +kernel⟩
theorem go_shby (F : GT K mg "shown_by" sShBy ["mark", "status"]) (GDn : GO P w K mg base CX0 1 "is_done" ["status"] (spIsDone K)) : GO P w K mg base CX0 2 "shown_by" ["mark", "status"] (spShBy K) := by
  obtain ⟨f, fd, F, hm, hb⟩ := F
  refine ⟨f, fd, ?_, hm, F.kp, hb⟩
  refine F.ok scShBy (fun vs H Q E h => ?_) (fun cdv A outer s H vs Q E hr h => ?_)
  · obtain ⟨p, d, s, o, n, v, st, rfl, _⟩ := h
    rfl
  · obtain ⟨p, d, s1, o, n, v, st, rfl, hp, dv, ok, k⟩ := h
    have nd := scShBy.nd
    have hr1 : Room 1 _ := hr
    refine ⟨_, (pss_cons (ps_asg (pe_slice sl_tup (pv 0) (po_some pe_int) po_none) (pg_tup (by rfl) (pgs_cons (pg_name (i := 2) nd rfl (Or.inl rfl)) (pgs_cons (pg_name (i := 3) nd rfl (Or.inl rfl)) pgs_nil))))
  (pss_one (ps_ret (pe_ifExp (pt_val (pc_ GDn hr1 (pa_cons (pv 1) pa_nil))) (pv 3) (pv 2))))), ?_⟩
    refine ⟨_, rfl, _, rfl, p, _, rfl, hp, (show ¬ (HT.sIx 4 0 (some 2) = 0 ∧ HT.sIx 4 4 none = 4) by decide), fun q hq => ?_⟩
    rw [show cutV [V.int d, V.int s1, V.int o, V.int n] (some 2) none = [V.int o, V.int n] from rfl]
    have s1 := up1 (o := HO.tup [V.int o, V.int n]) hq
    have e1 : upd H q (HO.tup [V.int o, V.int n]) q = _ := upd_same
    generalize upd H q (HO.tup [V.int o, V.int n]) = H1 at s1 e1 ⊢
    refine ⟨q, _, rfl, SqT.of e1, rfl, _, _, rfl, _, _, rfl, rfl, ?_⟩
    refine ⟨_, rfl, v, st, rfl, DV.ext s1 _ _ dv, ok, fun H2 s2 => ?_⟩
    have e := k H2 (s1.trans s2)
    refine ⟨_, rfl, ?_⟩
    cases hd : st.done with
    | false =>
      rw [hd] at e
      exact iteF ⟨_, rfl, e⟩
    | true =>
      rw [hd] at e
      exact iteT ⟨_, rfl, e⟩
theorem scLastA : FnScope ["cells", "cell"] ["cells"] (defScope sLast) := ⟨rfl, rfl, rfl, by decide +kernel, rfl, by decide +kernel, by decide +kernel⟩
theorem go_lasta (F : GT K mg "lasting_accesses" sLast ["cells"]) : GO P w K mg base CX0 1 "lasting_accesses" ["cells"] spLastA := by
  obtain ⟨f, fd, F, hm, hb⟩ := F
  refine ⟨f, fd, ?_, hm, F.kp, hb⟩
  refine F.ok scLastA (fun vs H Q E h => ?_) (fun cdv A outer s H vs Q E hr h => ?_)
  · obtain ⟨a, cs, rfl, _⟩ := h
    rfl
  · obtain ⟨a, cs, rfl, ha, hl, k⟩ := h
    have nd := scLastA.nd
    have hsl : sizeLine = 16777216 := sizeLine_eq
    refine ⟨_, (pss_one (ps_ret (pe_op op_cat (pe_lc (own := [("cell", 1)]) (g := (gName 1)) (tt := tYes) rfl nd (pi_list (pv 0)) (blkOk_by (N := ["cells", "cell"]) (sc := defScope sLast) (by decide +kernel)) (fun _ _ _ _ _ => (pg_name (i := 1) nd rfl (Or.inl rfl))) (fun _ _ _ _ _ => pts_nil) (fun _ _ _ _ _ => (pe_tup (pa_cons pe_str (pa_cons (pv 1) pa_nil))))) (pe_lst (pa_cons (pe_tup (pa_cons pe_str pa_nil)) pa_nil))))), ?_⟩
    refine ⟨_, rfl, a, rfl, ⟨_, SqL.of ha⟩, fun D hD => lc_list (xs := cs.map fun c : Nat => V.int (c : Int)) (fun i H' => ∃ ps : List Addr, H' D = some (.lst (ps.map V.ref)) ∧ Paired (FlushAt H') ps (cs.take i) ∧ Same H H') ⟨[], upd_same, .nil, up1 hD⟩ (fun i H' _ z => by obtain ⟨_, _, _, s⟩ := z; exact SqL.of (s _ _ ha)) ?_ ?_⟩
    · rintro i v H' hi ⟨ps, hD', hp, s1⟩
      have hil : i < cs.length := by
        have := (List.getElem?_eq_some_iff.mp hi).1
        rw [List.length_map] at this
        exact this
      rw [List.getElem?_map, List.getElem?_eq_getElem hil] at hi
      cases hi
      have hpl := plen hp
      rw [List.length_take] at hpl
      refine ⟨rfl, _, rfl, (by show 2 ≤ sizeLine; omega), fun t ht => ?_⟩
      have s2 := up1 (o := HO.tup [V.str "flush", (fun c : Nat => V.int (c : Int)) cs[i]]) ht
      have e2 : upd H' t (HO.tup [V.str "flush", (fun c : Nat => V.int (c : Int)) cs[i]]) t = some (.tup (Rq.flush cs[i]).vs) := upd_same
      generalize upd H' t (HO.tup [V.str "flush", (fun c : Nat => V.int (c : Int)) cs[i]]) = H2 at s2 e2 ⊢
      have x3 := kept_lst (ys := ps.map V.ref ++ [.ref t]) (s2 _ _ hD')
      refine ⟨_, s2 _ _ hD', (by rw [List.length_map]; omega), ps ++ [t], by rw [upd_same, List.map_append]; rfl, ?_, fun b o e => by rw [upd_ne (ne_of_none e hD)]; exact s2 _ _ (s1 _ _ e)⟩
      rw [List.take_succ_eq_append_getElem hil]
      exact papp (pmono (fun _ _ h => (h.ext (.of s2)).ext x3) hp) (.cons (x3.1 _ _ e2) .nil)
    · rintro H1 ⟨ps, hD1, hp, s1⟩
      rw [List.length_map, List.take_length] at hp
      refine ⟨(by show 1 ≤ sizeLine; omega), fun pf hpf => ?_⟩
      have s2 := up1 (o := HO.tup [V.str "fence"]) hpf
      have e2 : upd H1 pf (HO.tup [V.str "fence"]) pf = _ := upd_same
      generalize upd H1 pf (HO.tup [V.str "fence"]) = H2 at s2 e2 ⊢
      refine ⟨(by show 1 ≤ sizeLine; omega), fun q hq => ?_⟩
      have s3 := up1 (o := HO.lst [V.ref pf]) hq
      have e3 : upd H2 q (HO.lst [V.ref pf]) q = _ := upd_same
      generalize upd H2 q (HO.lst [V.ref pf]) = H3 at s3 e3 ⊢
      have hpl := plen hp
      refine ⟨D, q, _, _, rfl, rfl, s3 _ _ (s2 _ _ hD1), e3, (by show _ + 1 ≤ sizeLine; rw [List.length_map]; omega), fun z hz => ?_⟩
      have s4 := up1 (o := HO.lst (ps.map V.ref ++ [V.ref pf])) hz
      have e4 : upd H3 z (HO.lst (ps.map V.ref ++ [V.ref pf])) z = _ := upd_same
      generalize upd H3 z (HO.lst (ps.map V.ref ++ [V.ref pf])) = H4 at s4 e4 ⊢
      have s14 := s2.trans (s3.trans s4)
      exact k H4 z pf ps (s1.trans s14) ((s1.trans (s2.trans s3)).free hz) (by rw [e4, List.map_append]; rfl) (pmono (fun _ _ h => h.ext (.of s14)) hp) ((s3.trans s4) _ _ e2)
end
end Dk

set_option maxHeartbeats 4000000
/-! the machine that brings a deed to its end -/
namespace Dk
open PySem PySem.Spec PyProof.Rows L2
abbrev sDInit : Stmt := inClass (top 29) 0
abbrev sDReq : Stmt := inClass (top 29) 1
abbrev sDAcc : Stmt := inClass (top 29) 2
abbrev sDDeed : Stmt := inClass (top 29) 3
abbrev sDLook : Stmt := inClass (top 29) 5
abbrev sDDec : Stmt := inClass (top 29) 11
abbrev sDMark : Stmt := inClass (top 29) 14
abbrev dorest (ad sc : Int) (es : V) (n : Int) (st : V) : List (Str × V) := [("_address", .int ad), ("_without", .int 0), ("_status_cell", .int sc), ("_entries", es), ("_passed", .int n), ("_status", st)]
structure DTx (K : PySem.W.Frag) (CD : Addr) : Prop where
  m : MTx K CD
  nA : NoAttr K CD "_address"
  nW : NoAttr K CD "_without"
  nC : NoAttr K CD "_status_cell"
  nE : NoAttr K CD "_entries"
  nP : NoAttr K CD "_passed"
  nS : NoAttr K CD "_status"
/-- an entry of a deed: cell, old, new -/
structure En where
  c : Nat
  o : Int
  n : Int
def EnAt (K : PySem.W.Frag) (H : Hp) (v : V) (e : En) : Prop := ∃ p, v = .ref p ∧ SqT K H p [.int (e.c : Int), .int e.o, .int e.n]
theorem EnAt.ext {K : PySem.W.Frag} {H H' : Hp} {v : V} {e : En} (h : EnAt K H v e) (s : ExT H H') : EnAt K H' v e := let ⟨p, e, h⟩ := h; ⟨p, e, h.extT s⟩
/-- the entries of a deed, a tuple at q -/
def EnsAt (K : PySem.W.Frag) (H : Hp) (q : Addr) (es : List En) : Prop := ∃ ts, SqT K H q ts ∧ Paired (EnAt K H) ts es
theorem EnsAt.ext {K : PySem.W.Frag} {H H' : Hp} {q : Addr} {es : List En} (h : EnsAt K H q es) (s : ExT H H') : EnsAt K H' q es := let ⟨ts, h1, h2⟩ := h; ⟨ts, h1.extT s, pmono (fun _ _ h => h.ext s) h2⟩
theorem Kept.extI {a C dx : Addr} {fs : List (Str × V)} {H H' : Hp} (k : Kept a H H') (h : H a = some (.ins C dx fs)) : ExT H H' :=
  ⟨fun b xs e => k b _ e (ne_of e h (by intro z; cases z)), fun b o xs e => k b _ e (ne_of e h (by intro z; cases z))⟩
/-- behind an _ask: the first request waits, the others stand behind it, the answer goes to g -/
structure Asked (CD : Addr) (H H' : Hp) (a dx g : Addr) (r0 : Rq) (rs : List Rq) (rest : List (Str × V)) (q l qm : Addr) (ps : List Addr) : Prop where
  m : MaAt CD H' a dx (.ref q) l (.ref qm) (ps.map V.ref) rest
  q : H' q = some (.tup r0.vs)
  ps : Paired (fun (p : Addr) (r : Rq) => H' p = some (.tup r.vs)) ps rs
  g : H' qm = some (.met g a)
  kp : Kept a H H'
  nl : H l = none
  nm : H qm = none
theorem asked_mk {CD : Addr} {H H5 H6 : Hp} {a dx g q l' qm : Addr} {r0 : Rq} {rs : List Rq} {rest fs : List (Str × V)} {ps : List Addr} (k5 : Kept a H H5) (a5 : H5 a = some (.ins CD dx fs)) (hq : H5 q = some (.tup r0.vs)) (hps : Paired (fun (p : Addr) (r : Rq) => H5 p = some (.tup r.vs)) ps rs) (hg : H5 qm = some (.met g a)) (nqm : H qm = none) (nl : H5 l' = none)
    (D6 : MaAt CD H6 a dx (.ref q) l' (.ref qm) (ps.map V.ref) rest) (kp6 : Kept a H5 H6) : Asked CD H H6 a dx g r0 rs rest q l' qm ps :=
  ⟨D6, kp6 _ _ hq (ne_of hq a5 (by intro z; cases z)), pmono (fun _ _ h => kp6 _ _ h (ne_of h a5 (by intro z; cases z))) hps, kp6 _ _ hg (ne_of hg a5 (by intro z; cases z)), k5.trans kp6, k5.free nl ⟨_, a5⟩, nqm⟩
def spDInit (CD g : Addr) : Sp := fun vs H Q _ => ∃ (a dx : Addr) (ad : Nat), vs = [.ref a, .int (ad : Int)] ∧ H a = some (.ins CD dx []) ∧
  ∀ (H' : Hp) (q l qm : Addr) (es : V), Asked CD H H' a dx g (.read ad) [] (dorest ad 0 es 0 .non) q l qm [] → Q .non H'
def spDDeed (K : PySem.W.Frag) (CD g : Addr) : Sp := fun vs H Q _ => ∃ (a dx p l dd es : Addr) (w th : V) (left : List V) (ad sc0 c : Int) (sc : Nat) (es0 st x1 x2 x3 : V) (n : Int), vs = [.ref a, .ref p] ∧ MaAt CD H a dx w l th left (dorest ad sc0 es0 n st) ∧ H p = some (.tup [.ref dd, .int c]) ∧ SqT K H dd [.str "deed", .int (sc : Int), .ref es, x1, x2, x3] ∧
  ∀ (H' : Hp) (q l' qm : Addr), Asked CD H H' a dx g (.read sc) [] (dorest ad sc (.ref es) n st) q l' qm [] → Q .non H'
def spDMark (K : PySem.W.Frag) (CD : Addr) : Sp := fun vs H Q _ => ∃ (a dx l : Addr) (w th ev : V) (left : List V) (ad sc n : Int) (es st : V) (e : En), vs = [.ref a, ev] ∧ MaAt CD H a dx w l th left (dorest ad sc es n st) ∧ EnAt K H ev e ∧ ∀ p, H p = none → Q (.ref p) (upd H p (.tup [.int ad, .int sc, .int e.o, .int e.n]))
def spDDec (CD g : Addr) : Sp := fun vs H Q _ => ∃ (a dx l : Addr) (w th : V) (left : List V) (ad n : Int) (sc : Nat) (es st : V) (z : Str), vs = [.ref a, .str z] ∧ MaAt CD H a dx w l th left (dorest ad sc es n st) ∧
  ∀ (H' : Hp) (q l' qm p : Addr), Asked CD H H' a dx g (.decide sc z) [.read sc] (dorest ad sc es n st) q l' qm [p] → Q .non H'
def spDLook (K : PySem.W.Frag) (CD gw gs : Addr) : Sp := fun vs H Q _ => ∃ (a dx l q : Addr) (w th : V) (left : List V) (ad : Int) (n : Nat) (sc : Nat) (st : V) (es : List En), vs = [.ref a] ∧ MaAt CD H a dx w l th left (dorest ad sc (.ref q) n st) ∧ EnsAt K H q es ∧ n ≤ es.length ∧
  (∀ e, es[n]? = some e → ∀ (H' : Hp) (q' l' qm : Addr), Asked CD H H' a dx gw (.read e.c) [] (dorest ad sc (.ref q) n st) q' l' qm [] → Q .non H') ∧
  (n = es.length → ∀ (H' : Hp) (q' l' qm p : Addr), Asked CD H H' a dx gs (.decide sc "done") [.read sc] (dorest ad sc (.ref q) n st) q' l' qm [p] → Q .non H')
section
variable {P : Program} {w : World} {K : PySem.W.Frag} {mg : Str → Option Value} {base : Heap} {C M CD g gs gw : Addr}
theorem scDReq : FnScope ["self"] ["self"] (defScope sDReq) := ⟨rfl, rfl, rfl, by decide +kernel, rfl, by decide +kernel, by decide +kernel⟩
theorem mo_dreq (F : MT K CD "request" "Doing.request" sDReq ["self"]) (TC : MTx K CD) : MO P w K mg base CX0 CD 1 "request" ["self"] (spReq CD) := by
  obtain ⟨f, fd, F, hm, hb⟩ := F
  refine ⟨f, fd, ?_, hm, hb⟩
  refine F.ok scDReq (fun vs H Q E h => ?_) (fun cdv A outer s H vs Q E hr h => ?_)
  · obtain ⟨a, dx, l, w, th, left, rest, rfl, _⟩ := h
    rfl
  · obtain ⟨a, dx, l, w, th, left, rest, rfl, D, k⟩ := h
    refine ⟨_, (pss_one (ps_ret (pe_fld (pv 0) rfl))), ?_⟩
    exact ⟨_, rfl, a, CD, dx, _, _, rfl, D.ob, TC.cl, TC.nW, rfl, k⟩
theorem scDAcc : FnScope ["self", "result"] ["self", "result"] (defScope sDAcc) := ⟨rfl, rfl, rfl, by decide +kernel, rfl, by decide +kernel, by decide +kernel⟩
theorem mo_dacc {k : Nat} (F : MT K CD "accept" "Doing.accept" sDAcc ["self", "result"]) (TC : MTx K CD) (GGo : MO P w K mg base CX0 CD (k + 1) "_go_on" ["self", "result"] (spGo P w K mg base k CD)) : MO P w K mg base CX0 CD (k + 2) "accept" ["self", "result"] (spAcc P w K mg base k CD) := by
  obtain ⟨f, fd, F, hm, hb⟩ := F
  refine ⟨f, fd, ?_, hm, hb⟩
  refine F.ok scDAcc (fun vs H Q E h => ?_) (fun cdv A outer s H vs Q E hr h => ?_)
  · obtain ⟨_, a, dx, l, w, th, res, left, rest, rfl, _⟩ := h
    rfl
  · obtain ⟨hl, h'⟩ := h
    obtain ⟨a, dx, l, w, th, res, left, rest, rfl, D, hz, hc⟩ := id h'
    have hrG : Room (k + 1) _ := hr
    refine ⟨_, (pss_one (ps_expr (pm_ GGo TC.cl hrG (pv 0) (pa_cons (pv 1) pa_nil)))), ?_⟩
    exact ⟨_, rfl, a, dx, _, rfl, D.ob, hl a dx _ rfl D.ob, _, rfl, h'⟩
theorem scDMark : FnScope ["self", "entry"] ["self", "entry"] (defScope sDMark) := ⟨rfl, rfl, rfl, by decide +kernel, rfl, by decide +kernel, by decide +kernel⟩
theorem mo_dmark (F : MT K CD "_mark_of" "Doing._mark_of" sDMark ["self", "entry"]) (TD : DTx K CD) : MO P w K mg base CX0 CD 1 "_mark_of" ["self", "entry"] (spDMark K CD) := by
  obtain ⟨f, fd, F, hm, hb⟩ := F
  refine ⟨f, fd, ?_, hm, hb⟩
  refine F.ok scDMark (fun vs H Q E h => ?_) (fun cdv A outer s H vs Q E hr h => ?_)
  · obtain ⟨a, dx, l, w, th, ev, left, ad, sc, n, es, st, e, rfl, _⟩ := h
    rfl
  · obtain ⟨a, dx, l, wv, th, ev, left, ad, sc, n, es, st, e, rfl, D, ⟨p, rfl, hp⟩, k⟩ := h
    have TC := TD.m
    refine ⟨_, (pss_one (ps_ret (pe_tup (pa_cons (pe_fld (pv 0) rfl) (pa_cons (pe_fld (pv 0) rfl) (pa_cons (pe_ix ix_tup (pv 1) pe_int (fun _ _ => rfl)) (pa_cons (pe_ix ix_tup (pv 1) pe_int (fun _ _ => rfl)) pa_nil))))))), ?_⟩
    exact ⟨_, rfl, a, CD, dx, _, _, rfl, D.ob, TC.cl, TD.nA, rfl, _, rfl, a, CD, dx, _, _, rfl, D.ob, TC.cl, TD.nC, rfl, _, rfl, p, _, 1, _, rfl, rfl, hp, rfl, _, rfl, p, _, 2, _, rfl, rfl, hp, rfl, (by show 4 ≤ sizeLine; decide), k⟩
theorem scDDec : FnScope ["self", "word"] ["self", "word"] (defScope sDDec) := ⟨rfl, rfl, rfl, by decide +kernel, rfl, by decide +kernel, by decide +kernel⟩
theorem mo_ddec (F : MT K CD "_decide" "Doing._decide" sDDec ["self", "word"]) (TD : DTx K CD) (bg : BMeth K CD "_take_status" g) (GAs : MO P w K mg base CX0 CD 1 "_ask" ["self", "requests", "then"] (spMaAsk CD)) : MO P w K mg base CX0 CD 2 "_decide" ["self", "word"] (spDDec CD g) := by
  obtain ⟨f, fd, F, hm, hb⟩ := F
  refine ⟨f, fd, ?_, hm, hb⟩
  refine F.ok scDDec (fun vs H Q E h => ?_) (fun cdv A outer s H vs Q E hr h => ?_)
  · obtain ⟨a, dx, l, w, th, left, ad, n, sc, es, st, z, rfl, _⟩ := h
    rfl
  · obtain ⟨a, dx, l, wv, th, left, ad, n, sc, es, st, z, rfl, D, k⟩ := h
    have TC := TD.m
    have hrA : Room 1 _ := hr
    refine ⟨_, (pss_one (ps_expr (pm_ GAs TC.cl hrA (pv 0) (pa_cons (pe_lst (pa_cons (pe_tup (pa_cons pe_str (pa_cons (pe_fld (pv 0) rfl) (pa_cons (pv 1) pa_nil)))) (pa_cons (pe_tup (pa_cons pe_str (pa_cons (pe_fld (pv 0) rfl) pa_nil))) pa_nil))) (pa_cons (Mr.pe_bm_ (pv 0)) pa_nil))))), ?_⟩
    refine ⟨_, rfl, a, dx, _, rfl, D.ob, rfl, ?_⟩
    refine ⟨_, rfl, a, CD, dx, _, _, rfl, D.ob, TC.cl, TD.nC, rfl, _, rfl, (by show 3 ≤ sizeLine; decide), fun q hq => ?_⟩
    have s1 := up1 (o := HO.tup [V.str "decide", V.int (sc : Int), V.str z]) hq
    have e1 : upd H q (HO.tup [V.str "decide", V.int (sc : Int), V.str z]) q = some (.tup (Rq.decide sc z).vs) := upd_same
    generalize upd H q (HO.tup [V.str "decide", V.int (sc : Int), V.str z]) = H1 at s1 e1 ⊢
    refine ⟨_, rfl, a, CD, dx, _, _, rfl, s1 _ _ D.ob, TC.cl, TD.nC, rfl, (by show 2 ≤ sizeLine; decide), fun p hp => ⟨(by show 2 ≤ sizeLine; decide), fun rq hrq => ?_⟩⟩
    have s2 := up1 (o := HO.tup [V.str "read", V.int (sc : Int)]) hp
    have e2 : upd H1 p (HO.tup [V.str "read", V.int (sc : Int)]) p = some (.tup (Rq.read sc).vs) := upd_same
    generalize upd H1 p (HO.tup [V.str "read", V.int (sc : Int)]) = H2 at s2 e2 hrq ⊢
    have s3 := up1 (o := HO.lst [V.ref q, V.ref p]) hrq
    have e3 : upd H2 rq (HO.lst [V.ref q, V.ref p]) rq = _ := upd_same
    generalize upd H2 rq (HO.lst [V.ref q, V.ref p]) = H3 at s3 e3 ⊢
    have s13 := s1.trans (s2.trans s3)
    refine ⟨_, rfl, a, CD, dx, _, g, rfl, s13 _ _ D.ob, TC.cl, bg, rfl, fun qm hqm => ?_⟩
    have s4 := up1 (o := HO.met g a) hqm
    have e4 : upd H3 qm (HO.met g a) qm = _ := upd_same
    generalize upd H3 qm (HO.met g a) = H4 at s4 e4 ⊢
    have s14 := s13.trans s4
    have D4 := D.same s14
    refine ⟨a, dx, l, rq, _, _, .ref qm, left, _, .ref q, [.ref p], rfl, D4, (by show 6 < 900; decide), s4 _ _ e3, fun H6 l' hl' D6 kp6 => ?_⟩
    exact k H6 q l' qm p (asked_mk (Kept.of s14) D4.ob ((s2.trans (s3.trans s4)) _ _ e1) (.cons ((s3.trans s4) _ _ e2) .nil) e4 (s13.free hqm) hl' D6 kp6)
theorem en_len {K : PySem.W.Frag} {H : Hp} {q : Addr} {es : List En} (h : EnsAt K H q es) : ∃ ts, SqT K H q ts ∧ ts.length = es.length ∧ ∀ (n : Nat) (e : En), es[n]? = some e → ∃ v, ts[n]? = some v ∧ EnAt K H v e := by
  obtain ⟨ts, h1, h2⟩ := h
  refine ⟨ts, h1, plen h2, ?_⟩
  clear h1
  induction h2 with
  | nil => intro n e h; cases h
  | cons r t ih =>
    intro n e h
    cases n with
    | zero => cases h; exact ⟨_, rfl, r⟩
    | succ n => exact ih n e h
theorem scDLook : FnScope ["self"] ["self"] (defScope sDLook) := ⟨rfl, rfl, rfl, by decide +kernel, rfl, by decide +kernel, by decide +kernel⟩
theorem mo_dlook (F : MT K CD "_look" "Doing._look" sDLook ["self"]) (B0 : Bn mg) (TD : DTx K CD) (bg : BMeth K CD "_take_word" gw) (GAs : MO P w K mg base CX0 CD 1 "_ask" ["self", "requests", "then"] (spMaAsk CD)) (GDc : MO P w K mg base CX0 CD 2 "_decide" ["self", "word"] (spDDec CD gs)) : MO P w K mg base CX0 CD 3 "_look" ["self"] (spDLook K CD gw gs) := by
  obtain ⟨f, fd, F, hm, hb⟩ := F
  refine ⟨f, fd, ?_, hm, hb⟩
  refine F.ok scDLook (fun vs H Q E h => ?_) (fun cdv A outer s H vs Q E hr h => ?_)
  · obtain ⟨a, dx, l, q, w, th, left, ad, n, sc, st, es, rfl, _⟩ := h
    rfl
  · obtain ⟨a, dx, l, qe, wv, th, left, ad, n, sc, st, es, rfl, D, hes, hn, kr, kd⟩ := h
    have TC := TD.m
    have hrA : Room 1 _ := hr.mono (by decide)
    have hr2 : Room 2 _ := hr
    obtain ⟨ts, h1, hln, hget⟩ := en_len hes
    refine ⟨_, (pss_one (ps_if (pt_cmpR op_eq (pe_fld (pv 0) rfl) (pe_callB call_len_seq (by rfl) B0.len PySem.boot_len (pa_cons (pe_fld (pv 0) rfl) pa_nil)) (nomark _))
  (pss_one (ps_expr (pm_ GDc TC.cl hr2 (pv 0) (pa_cons pe_str pa_nil))))
  (pss_one (ps_expr (pm_ GAs TC.cl hrA (pv 0) (pa_cons (pe_lst (pa_cons (pe_tup (pa_cons pe_str (pa_cons (pe_ix ix_tup (pe_ix ix_tup (pe_fld (pv 0) rfl) (pe_fld (pv 0) rfl) (fun _ _ => rfl)) pe_int (fun _ _ => rfl)) pa_nil))) pa_nil)) (pa_cons (Mr.pe_bm_ (pv 0)) pa_nil))))))), ?_⟩
    refine ⟨_, rfl, a, CD, dx, _, _, rfl, D.ob, TC.cl, TD.nP, rfl, _, rfl, a, CD, dx, _, _, rfl, D.ob, TC.cl, TD.nE, rfl, qe, _, rfl, .inr h1, rfl, _, rfl, ?_⟩
    by_cases c : n = es.length
    · refine iteD (by rw [hln, c]) ?_
      refine ⟨_, rfl, a, dx, _, rfl, D.ob, rfl, a, dx, l, _, _, left, ad, n, sc, _, st, "done", rfl, D, fun H' q' l' qm p hA => kd c H' q' l' qm p hA⟩
    · refine iteND (fun z => c (by have := V.int.inj z; omega)) ?_
      have hnl : n < es.length := by omega
      obtain ⟨v, hv, p, rfl, hp⟩ := hget n es[n] (List.getElem?_eq_getElem hnl)
      refine ⟨_, rfl, a, dx, _, rfl, D.ob, rfl, ?_⟩
      refine ⟨_, rfl, a, CD, dx, _, _, rfl, D.ob, TC.cl, TD.nE, rfl, _, rfl, a, CD, dx, _, _, rfl, D.ob, TC.cl, TD.nP, rfl, qe, _, _, _, rfl, rfl, h1, atI_nat hv, p, _, 0, _, rfl, rfl, hp, rfl, (by show 2 ≤ sizeLine; decide), fun q hq => ⟨(by show 1 ≤ sizeLine; decide), fun rq hrq => ?_⟩⟩
      have s1 := up1 (o := HO.tup [V.str "read", V.int (es[n].c : Int)]) hq
      have e1 : upd H q (HO.tup [V.str "read", V.int (es[n].c : Int)]) q = some (.tup (Rq.read es[n].c).vs) := upd_same
      generalize upd H q (HO.tup [V.str "read", V.int (es[n].c : Int)]) = H1 at s1 e1 hrq ⊢
      have s2 := up1 (o := HO.lst [V.ref q]) hrq
      have e2 : upd H1 rq (HO.lst [V.ref q]) rq = _ := upd_same
      generalize upd H1 rq (HO.lst [V.ref q]) = H2 at s2 e2 ⊢
      have s12 := s1.trans s2
      refine ⟨_, rfl, a, CD, dx, _, gw, rfl, s12 _ _ D.ob, TC.cl, bg, rfl, fun qm hqm => ?_⟩
      have s4 := up1 (o := HO.met gw a) hqm
      have e4 : upd H2 qm (HO.met gw a) qm = _ := upd_same
      generalize upd H2 qm (HO.met gw a) = H4 at s4 e4 ⊢
      have s14 := s12.trans s4
      have D4 := D.same s14
      refine ⟨a, dx, l, rq, _, _, .ref qm, left, _, .ref q, [], rfl, D4, (by show 6 < 900; decide), s4 _ _ e2, fun H6 l' hl' D6 kp6 => ?_⟩
      exact kr es[n] (List.getElem?_eq_getElem hnl) H6 q l' qm (asked_mk (Kept.of s14) D4.ob ((s2.trans s4) _ _ e1) .nil e4 (s12.free hqm) hl' D6 kp6)
end
end Dk

set_option maxHeartbeats 4000000
/-! the machine that brings a deed to its end: its making, the deed, the words -/
namespace Dk
open PySem PySem.Spec PyProof.Rows L2
abbrev sDWord : Stmt := inClass (top 29) 6
abbrev sDSwap : Stmt := inClass (top 29) 9
abbrev sDPass : Stmt := inClass (top 29) 10
abbrev sDClo2 : Stmt := inClass (top 29) 13
/-- taking a word: it holds what the entry asks, or not -/
def spDWord (K : PySem.W.Frag) (CD gsw gs : Addr) : Sp := fun vs H Q _ => ∃ (a dx p l q : Addr) (w th : V) (left : List V) (ad held c : Int) (n sc : Nat) (st : V) (es : List En) (e : En), vs = [.ref a, .ref p] ∧ MaAt CD H a dx w l th left (dorest ad sc (.ref q) n st) ∧ H p = some (.tup [.int held, .int c]) ∧ EnsAt K H q es ∧ es[n]? = some e ∧
  (held = e.o → ∀ (H' : Hp) (q' l' qm mk : Addr), H' mk = some (.tup [.int ad, .int (sc : Int), .int e.o, .int e.n]) → Asked CD H H' a dx gsw (.swap e.c (.int held) (.ref mk)) [] (dorest ad sc (.ref q) n st) q' l' qm [] → Q .non H') ∧
  (held ≠ e.o → ∀ (H' : Hp) (q' l' qm p' : Addr), Asked CD H H' a dx gs (.decide sc "failed") [.read sc] (dorest ad sc (.ref q) n st) q' l' qm [p'] → Q .non H')
/-- behind a word that was set: the next one, or the end -/
def Nxt (K : PySem.W.Frag) (CD gw gs : Addr) (H : Hp) (a dx q : Addr) (ad : Int) (n sc : Nat) (st : V) (es : List En) (Q : VK) : Prop :=
  (∀ e, es[n]? = some e → ∀ (H' : Hp) (q' l' qm : Addr), Asked CD H H' a dx gw (.read e.c) [] (dorest ad sc (.ref q) n st) q' l' qm [] → Q .non H') ∧
  (n = es.length → ∀ (H' : Hp) (q' l' qm p : Addr), Asked CD H H' a dx gs (.decide sc "done") [.read sc] (dorest ad sc (.ref q) n st) q' l' qm [p] → Q .non H')
def spDPass (K : PySem.W.Frag) (CD gw gs : Addr) : Sp := fun vs H Q _ => ∃ (a dx l q : Addr) (w th : V) (left : List V) (ad : Int) (n sc : Nat) (st : V) (es : List En), vs = [.ref a] ∧ MaAt CD H a dx w l th left (dorest ad sc (.ref q) n st) ∧ EnsAt K H q es ∧ n + 1 ≤ es.length ∧ Nxt K CD gw gs H a dx q ad (n + 1) sc st es Q
def spDSwap (K : PySem.W.Frag) (CD gw gs : Addr) : Sp := fun vs H Q _ => ∃ (a dx p l q : Addr) (w th : V) (left : List V) (ad c : Int) (n sc : Nat) (st : V) (es : List En), vs = [.ref a, .ref p] ∧ MaAt CD H a dx w l th left (dorest ad sc (.ref q) n st) ∧ H p = some (.tup [.bl true, .int c]) ∧ EnsAt K H q es ∧ n + 1 ≤ es.length ∧ Nxt K CD gw gs H a dx q ad (n + 1) sc st es Q
theorem Asked.from {CD : Addr} {H H1 H' : Hp} {a dx g q l qm : Addr} {r0 : Rq} {rs : List Rq} {rest : List (Str × V)} {ps : List Addr} (h : Asked CD H1 H' a dx g r0 rs rest q l qm ps) (k : Kept a H H1) {o : HO} (ha : H1 a = some o) : Asked CD H H' a dx g r0 rs rest q l qm ps :=
  ⟨h.m, h.q, h.ps, h.g, k.trans h.kp, k.free h.nl ⟨_, ha⟩, k.free h.nm ⟨_, ha⟩⟩
section
variable {P : Program} {w : World} {K : PySem.W.Frag} {mg : Str → Option Value} {base : Heap} {C M CD g gs gw gsw : Addr}
theorem scDDeed : FnScope ["self", "result", "deed"] ["self", "result"] (defScope sDDeed) := ⟨rfl, rfl, rfl, by decide +kernel, rfl, by decide +kernel, by decide +kernel⟩
theorem mo_ddeed (F : MT K CD "_take_deed" "Doing._take_deed" sDDeed ["self", "result"]) (TD : DTx K CD) (bg : BMeth K CD "_take_status" g) (GAs : MO P w K mg base CX0 CD 1 "_ask" ["self", "requests", "then"] (spMaAsk CD)) : MO P w K mg base CX0 CD 5 "_take_deed" ["self", "result"] (spDDeed K CD g) := by
  obtain ⟨f, fd, F, hm, hb⟩ := F
  refine ⟨f, fd, ?_, hm, hb⟩
  refine F.ok scDDeed (fun vs H Q E h => ?_) (fun cdv A outer s H vs Q E hr h => ?_)
  · obtain ⟨a, dx, p, l, dd, es, w, th, left, ad, sc0, c, sc, es0, st, x1, x2, x3, n, rfl, _⟩ := h
    rfl
  · obtain ⟨a, dx, p, l, dd, es, wv, th, left, ad, sc0, c, sc, es0, st, x1, x2, x3, n, rfl, D, hp, hdd, k⟩ := h
    have nd := scDDeed.nd
    have TC := TD.m
    have hrA : Room 1 _ := hr.mono (by decide)
    refine ⟨_, (pss_cons (ps_set (i := 2) nd rfl (Or.inl rfl) (pe_ix ix_tup (pv 1) pe_int (fun _ _ => rfl)))
  (pss_cons (ps_fld (pv 0) (pe_ix ix_tup (pv 2) pe_int (fun _ _ => rfl)) rfl)
  (pss_cons (ps_fld (pv 0) (pe_ix ix_tup (pv 2) pe_int (fun _ _ => rfl)) rfl)
  (pss_one (ps_expr (pm_ GAs TC.cl hrA (pv 0) (pa_cons (pe_lst (pa_cons (pe_tup (pa_cons pe_str (pa_cons (pe_fld (pv 0) rfl) pa_nil))) pa_nil)) (pa_cons (Mr.pe_bm_ (pv 0)) pa_nil)))))))), ?_⟩
    refine ⟨_, rfl, p, _, 0, _, rfl, rfl, SqT.of hp, rfl, ?_⟩
    refine ⟨_, rfl, dd, _, 1, _, rfl, rfl, hdd, rfl, _, rfl, a, CD, dx, _, rfl, D.ob, TC.cl, TD.nC, (by show 9 < 1000; decide), ?_⟩
    have hdd1 : ∀ fs : List (Str × V), SqT K (upd H a (.ins CD dx fs)) dd [.str "deed", .int (sc : Int), .ref es, x1, x2, x3] := fun fs => hdd.extT (Kept.extI (a := a) (fun b o e n => by rw [upd_ne n]; exact e) D.ob)
    refine ⟨_, rfl, dd, _, 2, _, rfl, rfl, hdd1 _, rfl, _, rfl, a, CD, dx, _, rfl, upd_same, TC.cl, TD.nE, (by show 9 < 1000; decide), ?_⟩
    have l_a : l ≠ a := ne_of D.lf D.ob (by intro z; cases z)
    generalize hH2 : upd (upd H a _) a _ = H2
    have k2 : Kept a H H2 := fun b o e n => by rw [← hH2, upd_ne n, upd_ne n]; exact e
    have a2 : H2 a = some (.ins CD dx (mfs wv l th (dorest ad sc (.ref es) n st))) := by rw [← hH2]; exact upd_same
    have l2 := k2 _ _ D.lf l_a
    refine ⟨_, rfl, a, dx, _, rfl, a2, rfl, ?_⟩
    refine ⟨_, rfl, a, CD, dx, _, _, rfl, a2, TC.cl, TD.nC, rfl, (by show 2 ≤ sizeLine; decide), fun q hq => ⟨(by show 1 ≤ sizeLine; decide), fun rq hrq => ?_⟩⟩
    have s3 := up1 (o := HO.tup [V.str "read", V.int (sc : Int)]) hq
    have e3 : upd H2 q (HO.tup [V.str "read", V.int (sc : Int)]) q = some (.tup (Rq.read sc).vs) := upd_same
    generalize upd H2 q (HO.tup [V.str "read", V.int (sc : Int)]) = H3 at s3 e3 hrq ⊢
    have s4 := up1 (o := HO.lst [V.ref q]) hrq
    have e4 : upd H3 rq (HO.lst [V.ref q]) rq = _ := upd_same
    generalize upd H3 rq (HO.lst [V.ref q]) = H4 at s4 e4 ⊢
    have s24 := s3.trans s4
    refine ⟨_, rfl, a, CD, dx, _, g, rfl, s24 _ _ a2, TC.cl, bg, rfl, fun qm hqm => ?_⟩
    have s5 := up1 (o := HO.met g a) hqm
    have e5 : upd H4 qm (HO.met g a) qm = _ := upd_same
    generalize upd H4 qm (HO.met g a) = H5 at s5 e5 ⊢
    have s25 := s24.trans s5
    refine ⟨a, dx, l, rq, _, _, .ref qm, left, _, .ref q, [], rfl, ⟨s25 _ _ a2, s25 _ _ l2⟩, (by show 6 < 900; decide), s5 _ _ e4, fun H6 l' hl' D6 kp6 => ?_⟩
    exact k H6 q l' qm (asked_mk (k2.trans (Kept.of s25)) (s25 _ _ a2) ((s4.trans s5) _ _ e3) .nil e5 ((k2.trans (Kept.of s24)).free hqm ⟨_, s24 _ _ a2⟩) hl' D6 kp6)
theorem scDWord : FnScope ["self", "result", "held", "entry"] ["self", "result"] (defScope sDWord) := ⟨rfl, rfl, rfl, by decide +kernel, rfl, by decide +kernel, by decide +kernel⟩
theorem mo_dword (F : MT K CD "_take_word" "Doing._take_word" sDWord ["self", "result"]) (TD : DTx K CD) (bg : BMeth K CD "_take_swap" gsw) (GAs : MO P w K mg base CX0 CD 1 "_ask" ["self", "requests", "then"] (spMaAsk CD)) (GDc : MO P w K mg base CX0 CD 2 "_decide" ["self", "word"] (spDDec CD gs)) (GMo : MO P w K mg base CX0 CD 1 "_mark_of" ["self", "entry"] (spDMark K CD)) (GMk : GO P w K mg base CX0 1 "is_mark" ["value"] (spIsMark K)) : MO P w K mg base CX0 CD 5 "_take_word" ["self", "result"] (spDWord K CD gsw gs) := by
  obtain ⟨f, fd, F, hm, hb⟩ := F
  refine ⟨f, fd, ?_, hm, hb⟩
  refine F.ok scDWord (fun vs H Q E h => ?_) (fun cdv A outer s H vs Q E hr h => ?_)
  · obtain ⟨a, dx, p, l, q, w, th, left, ad, held, c, n, sc, st, es, e, rfl, _⟩ := h
    rfl
  · obtain ⟨a, dx, p, l, qe, wv, th, left, ad, held, c, n, sc, st, es, e, rfl, D, hp, hes, he, ks, kf⟩ := h
    have nd := scDWord.nd
    have TC := TD.m
    have hrA : Room 1 _ := hr.mono (by decide)
    have hr1 : Room 1 _ := hr.mono (by decide)
    have hr2 : Room 2 _ := hr.mono (by decide)
    obtain ⟨ts, h1, hln, hget⟩ := en_len hes
    obtain ⟨v, hv, pe', rfl, hpe⟩ := hget n e he
    refine ⟨_, (pss_cons (ps_set (i := 2) nd rfl (Or.inl rfl) (pe_ix ix_tup (pv 1) pe_int (fun _ _ => rfl)))
  (pss_cons (ps_set (i := 3) nd rfl (Or.inl rfl) (pe_ix ix_tup (pe_fld (pv 0) rfl) (pe_fld (pv 0) rfl) (fun _ _ => rfl)))
  (pss_one (ps_if (pt_val (pc_ GMk hr1 (pa_cons (pv 2) pa_nil)))
  (pss_one ps_never)
  (pss_one (ps_if (pt_cmpR op_eq (pv 2) (pe_ix ix_tup (pv 3) pe_int (fun _ _ => rfl)) (nomark _))
  (pss_one (ps_expr (pm_ GAs TC.cl hrA (pv 0) (pa_cons (pe_lst (pa_cons (pe_tup (pa_cons pe_str (pa_cons (pe_ix ix_tup (pv 3) pe_int (fun _ _ => rfl)) (pa_cons (pv 2) (pa_cons (pm_ GMo TC.cl hr1 (pv 0) (pa_cons (pv 3) pa_nil)) pa_nil))))) pa_nil)) (pa_cons (Mr.pe_bm_ (pv 0)) pa_nil)))))
  (pss_one (ps_expr (pm_ GDc TC.cl hr2 (pv 0) (pa_cons pe_str pa_nil)))))))))), ?_⟩
    refine ⟨_, rfl, p, _, 0, _, rfl, rfl, SqT.of hp, rfl, ?_⟩
    refine ⟨_, rfl, a, CD, dx, _, _, rfl, D.ob, TC.cl, TD.nE, rfl, _, rfl, a, CD, dx, _, _, rfl, D.ob, TC.cl, TD.nP, rfl, qe, _, _, _, rfl, rfl, h1, atI_nat hv, ?_⟩
    refine ⟨_, rfl, _, .addr held, rfl, .sc (t := "int") rfl, _, rfl, iteF ?_⟩
    refine ⟨_, rfl, _, rfl, pe', _, 1, _, rfl, rfl, hpe, rfl, rfl, _, rfl, ?_⟩
    by_cases ce : held = e.o
    · refine iteD (congrArg V.int ce) ?_
      refine ⟨_, rfl, a, dx, _, rfl, D.ob, rfl, ?_⟩
      refine ⟨_, rfl, pe', _, 0, _, rfl, rfl, hpe, rfl, _, rfl, _, rfl, a, dx, _, rfl, D.ob, rfl, _, rfl, a, dx, l, _, _, _, left, ad, sc, n, _, st, e, rfl, D, ⟨pe', rfl, hpe⟩, fun mk hmk => ⟨(by show 4 ≤ sizeLine; decide), fun q hq => ⟨(by show 1 ≤ sizeLine; decide), fun rq hrq => ?_⟩⟩⟩
      have s1 := up1 (o := HO.tup [V.int ad, V.int (sc : Int), V.int e.o, V.int e.n]) hmk
      have e1 : upd H mk (HO.tup [V.int ad, V.int (sc : Int), V.int e.o, V.int e.n]) mk = _ := upd_same
      generalize upd H mk (HO.tup [V.int ad, V.int (sc : Int), V.int e.o, V.int e.n]) = H1 at s1 e1 hq hrq ⊢
      have s2 := up1 (o := HO.tup [V.str "swap", V.int (e.c : Int), V.int held, V.ref mk]) hq
      have e2 : upd H1 q (HO.tup [V.str "swap", V.int (e.c : Int), V.int held, V.ref mk]) q = some (.tup (Rq.swap e.c (.int held) (.ref mk)).vs) := upd_same
      generalize upd H1 q (HO.tup [V.str "swap", V.int (e.c : Int), V.int held, V.ref mk]) = H2 at s2 e2 hrq ⊢
      have s3 := up1 (o := HO.lst [V.ref q]) hrq
      have e3 : upd H2 rq (HO.lst [V.ref q]) rq = _ := upd_same
      generalize upd H2 rq (HO.lst [V.ref q]) = H3 at s3 e3 ⊢
      have s13 := s1.trans (s2.trans s3)
      refine ⟨_, rfl, a, CD, dx, _, gsw, rfl, s13 _ _ D.ob, TC.cl, bg, rfl, fun qm hqm => ?_⟩
      have s4 := up1 (o := HO.met gsw a) hqm
      have e4 : upd H3 qm (HO.met gsw a) qm = _ := upd_same
      generalize upd H3 qm (HO.met gsw a) = H4 at s4 e4 ⊢
      have s14 := s13.trans s4
      have D4 := D.same s14
      refine ⟨a, dx, l, rq, _, _, .ref qm, left, _, .ref q, [], rfl, D4, (by show 6 < 900; decide), s4 _ _ e3, fun H6 l' hl' D6 kp6 => ?_⟩
      have mk4 := (s2.trans (s3.trans s4)) _ _ e1
      exact ks ce H6 q l' qm mk (kp6 _ _ mk4 (ne_of mk4 D4.ob (by intro z; cases z))) (asked_mk (Kept.of s14) D4.ob ((s3.trans s4) _ _ e2) .nil e4 (s13.free hqm) hl' D6 kp6)
    · refine iteND (fun z => ce (V.int.inj z)) ?_
      exact ⟨_, rfl, a, dx, _, rfl, D.ob, rfl, a, dx, l, _, _, left, ad, n, sc, _, st, "failed", rfl, D, fun H' q' l' qm p' hA => kf ce H' q' l' qm p' hA⟩
theorem scDPass : FnScope ["self"] ["self"] (defScope sDPass) := ⟨rfl, rfl, rfl, by decide +kernel, rfl, by decide +kernel, by decide +kernel⟩
theorem mo_dpass (F : MT K CD "_pass" "Doing._pass" sDPass ["self"]) (TD : DTx K CD) (GLk : MO P w K mg base CX0 CD 3 "_look" ["self"] (spDLook K CD gw gs)) : MO P w K mg base CX0 CD 4 "_pass" ["self"] (spDPass K CD gw gs) := by
  obtain ⟨f, fd, F, hm, hb⟩ := F
  refine ⟨f, fd, ?_, hm, hb⟩
  refine F.ok scDPass (fun vs H Q E h => ?_) (fun cdv A outer s H vs Q E hr h => ?_)
  · obtain ⟨a, dx, l, q, w, th, left, ad, n, sc, st, es, rfl, _⟩ := h
    rfl
  · obtain ⟨a, dx, l, qe, wv, th, left, ad, n, sc, st, es, rfl, D, hes, hn, kr, kd⟩ := h
    have TC := TD.m
    have hr3 : Room 3 _ := hr
    refine ⟨_, (pss_cons (ps_fldaug (pv 0) pe_int in_add)
  (pss_one (ps_expr (pm0_ GLk TC.cl hr3 (pv 0))))), ?_⟩
    have l_a : l ≠ a := ne_of D.lf D.ob (by intro z; cases z)
    have go : ∀ H2, H2 = upd H a (.ins CD dx (mfs wv l th (dorest ad sc (.ref qe) ((n : Int) + 1) st))) → spDLook K CD gw gs [.ref a] H2 (fun _ H' => Q .non H') E0 := fun H2 e2 => by
      have a2 : H2 a = some (.ins CD dx (mfs wv l th (dorest ad sc (.ref qe) ((n : Int) + 1) st))) := by rw [e2]; exact upd_same
      have k2 : Kept a H H2 := fun b o e n => by rw [e2, upd_ne n]; exact e
      exact ⟨a, dx, l, qe, _, _, left, ad, n + 1, sc, st, es, rfl, ⟨by rw [a2]; rfl, k2 _ _ D.lf l_a⟩, hes.ext (k2.extI D.ob), hn, fun e he H' q' l' qm hA => kr e he H' q' l' qm (hA.from k2 a2), fun hn' H' q' l' qm p hA => kd hn' H' q' l' qm p (hA.from k2 a2)⟩
    refine ⟨_, rfl, a, CD, dx, _, _, rfl, D.ob, TC.cl, TD.nP, rfl, _, _, rfl, rfl, dx, _, D.ob, (by show 9 < 1000; decide), ?_⟩
    exact ⟨_, rfl, a, dx, _, rfl, upd_same, rfl, go _ rfl⟩
theorem scDSwap : FnScope ["self", "result"] ["self", "result"] (defScope sDSwap) := ⟨rfl, rfl, rfl, by decide +kernel, rfl, by decide +kernel, by decide +kernel⟩
theorem mo_dswap (F : MT K CD "_take_swap" "Doing._take_swap" sDSwap ["self", "result"]) (TD : DTx K CD) (GPa : MO P w K mg base CX0 CD 4 "_pass" ["self"] (spDPass K CD gw gs)) (GLk : MO P w K mg base CX0 CD 3 "_look" ["self"] (spDLook K CD gw gs)) : MO P w K mg base CX0 CD 5 "_take_swap" ["self", "result"] (spDSwap K CD gw gs) := by
  obtain ⟨f, fd, F, hm, hb⟩ := F
  refine ⟨f, fd, ?_, hm, hb⟩
  refine F.ok scDSwap (fun vs H Q E h => ?_) (fun cdv A outer s H vs Q E hr h => ?_)
  · obtain ⟨a, dx, p, l, q, w, th, left, ad, c, n, sc, st, es, rfl, _⟩ := h
    rfl
  · obtain ⟨a, dx, p, l, qe, wv, th, left, ad, c, n, sc, st, es, rfl, D, hp, hes, hn, kn⟩ := h
    have TC := TD.m
    have hr3 : Room 3 _ := hr.mono (by decide)
    have hr4 : Room 4 _ := hr
    refine ⟨_, (pss_one (ps_if (pt_truth (pe_ix ix_tup (pv 1) pe_int (fun _ _ => rfl)) (by intro _; rfl))
  (pss_one (ps_expr (pm0_ GPa TC.cl hr4 (pv 0))))
  (pss_one (ps_expr (pm0_ GLk TC.cl hr3 (pv 0)))))), ?_⟩
    refine ⟨_, rfl, p, _, 0, _, rfl, rfl, SqT.of hp, rfl, ?_⟩
    exact ⟨true, rfl, iteT ⟨_, rfl, a, dx, _, rfl, D.ob, rfl, a, dx, l, qe, _, _, left, ad, n, sc, st, es, rfl, D, hes, hn, kn⟩⟩
end
end Dk

set_option maxHeartbeats 4000000
/-! the machine that brings a deed to its end: the status, the closing -/
namespace Dk
open PySem PySem.Spec PyProof.Rows L2
abbrev sDStat : Stmt := inClass (top 29) 4
abbrev sDClo : Stmt := inClass (top 29) 12
abbrev sDClose : Stmt := inClass (top 29) 13
def SwAt (H : Hp) (ad sc : Int) (st : Sta) (r : Rq) (e : En) : Prop := ∃ mk, r = .swap e.c (.ref mk) (.int (if st.done = true then e.n else e.o)) ∧ H mk = some (.tup [.int ad, .int sc, .int e.o, .int e.n])
theorem StPget {α β : Type} {F : α → β → Prop} : ∀ {xs : List α} {ys : List β}, Paired F xs ys → ∀ {i : Nat} {x : α}, xs[i]? = some x → ∃ y, ys[i]? = some y ∧ F x y
  | _, _, .nil, i, x, h => by cases h
  | _, _, .cons r t, 0, x, h => by
    have e := Option.some.inj h
    subst e
    exact ⟨_, rfl, r⟩
  | _, _, .cons r t, i + 1, x, h => StPget t h
theorem SwAt.ext {H H' : Hp} (x : ExT H H') {ad sc : Int} {st : Sta} {r : Rq} {e : En} (h : SwAt H ad sc st r e) : SwAt H' ad sc st r e := let ⟨mk, h1, h2⟩ := h; ⟨mk, h1, x.1 _ _ h2⟩
abbrev RqAt (H : Hp) (p : Addr) (r : Rq) : Prop := H p = some (.tup r.vs)
theorem flush_rq {H : Hp} : ∀ {ps : List Addr} {cs : List Nat}, Paired (FlushAt H) ps cs → Paired (RqAt H) ps (cs.map Rq.flush)
  | _, _, .nil => .nil
  | _, _, .cons h t => .cons h (flush_rq t)
def closing (sc : Nat) (sw : List Rq) (es : List En) : List Rq := .fence :: (sw ++ (es.map fun e => Rq.flush e.c) ++ [.fence])
def spDClo (K : PySem.W.Frag) (CD : Addr) : Sp := fun vs H Q _ => ∃ (a dx l q : Addr) (w th : V) (left : List V) (ad : Int) (n sc : Nat) (v : V) (st : Sta) (es : List En), vs = [.ref a] ∧ MaAt CD H a dx w l th left (dorest ad sc (.ref q) n v) ∧ DV K H v st.tr ∧ st.ok ∧ EnsAt K H q es ∧ es.length < 100 ∧
  ∀ (H' : Hp) (p p0 : Addr) (ps : List Addr) (sw : List Rq), Same H H' → H' p = some (.lst ((p0 :: ps).map V.ref)) → RqAt H' p0 (.flush sc) → Paired (RqAt H') ps (closing sc sw es) → Paired (SwAt H' ad sc st) sw es → Q (.ref p) H'
def spDClose (CD : Addr) : Sp := fun vs H Q _ => ∃ (a dx l : Addr) (w th res v : V) (left : List V) (ad n : Int) (sc : Nat) (es : V), vs = [.ref a, res] ∧ MaAt CD H a dx w l th left (dorest ad sc es n v) ∧
  ∀ (H' : Hp) (e : Addr), H e = none → H' e = some (.tup [.str "end", v]) → MaAt CD H' a dx (.ref e) l th left (dorest ad sc es n v) → Kept a H H' → Q .non H'
section
variable {P : Program} {w : World} {K : PySem.W.Frag} {mg : Str → Option Value} {base : Heap} {C M CD g gs gw gc : Addr}
theorem scDClose : FnScope ["self", "result"] ["self", "result"] (defScope sDClose) := ⟨rfl, rfl, rfl, by decide +kernel, rfl, by decide +kernel, by decide +kernel⟩
theorem mo_dclose (F : MT K CD "_close" "Doing._close" sDClose ["self", "result"]) (TD : DTx K CD) (GEd : MO P w K mg base CX0 CD 1 "_end" ["self", "value"] (spMaEnd CD)) : MO P w K mg base CX0 CD 5 "_close" ["self", "result"] (spDClose CD) := by
  obtain ⟨f, fd, F, hm, hb⟩ := F
  refine ⟨f, fd, ?_, hm, hb⟩
  refine F.ok scDClose (fun vs H Q E h => ?_) (fun cdv A outer s H vs Q E hr h => ?_)
  · obtain ⟨a, dx, l, w, th, res, v, left, ad, n, sc, es, rfl, _⟩ := h
    rfl
  · obtain ⟨a, dx, l, wv, th, res, v, left, ad, n, sc, es, rfl, D, k⟩ := h
    have TC := TD.m
    have hrA : Room 1 _ := hr.mono (by decide)
    refine ⟨_, (pss_one (ps_expr (pm_ GEd TC.cl hrA (pv 0) (pa_cons (pe_fld (pv 0) rfl) pa_nil)))), ?_⟩
    exact ⟨_, rfl, a, dx, _, rfl, D.ob, rfl, _, rfl, a, CD, dx, _, _, rfl, D.ob, TC.cl, TD.nS, rfl, a, dx, l, _, _, v, left, _, rfl, D, (by show 6 < 900; decide), fun H' e he e1 D' kp => k H' e he e1 D' kp⟩
theorem scDClo : FnScope ["self", "cleaning", "before", "behind", "entry", "mark"] ["self"] (defScope sDClo) := ⟨rfl, rfl, rfl, by decide +kernel, rfl, by decide +kernel, by decide +kernel⟩
theorem mo_dclo (F : MT K CD "_closing_accesses" "Doing._closing_accesses" sDClo ["self"]) (TD : DTx K CD) (GMo : MO P w K mg base CX0 CD 1 "_mark_of" ["self", "entry"] (spDMark K CD)) (GSb : GO P w K mg base CX0 2 "shown_by" ["mark", "status"] (spShBy K)) (GLa : GO P w K mg base CX0 1 "lasting_accesses" ["cells"] spLastA) : MO P w K mg base CX0 CD 3 "_closing_accesses" ["self"] (spDClo K CD) := by
  obtain ⟨f, fd, F, hm, hb⟩ := F
  refine ⟨f, fd, ?_, hm, hb⟩
  refine F.ok scDClo (fun vs H Q E h => ?_) (fun cdv A outer s H vs Q E hr h => ?_)
  · obtain ⟨a, dx, l, q, w, th, left, ad, n, sc, v, st, es, rfl, _⟩ := h
    rfl
  · obtain ⟨a, dx, l, qe, wv, th, left, ad, n, sc, v, st, es, rfl, D, dv, ok, ⟨ts, h1, h2⟩, hl, k⟩ := h
    have nd := scDClo.nd
    have TC := TD.m
    have hr1 : Room 1 _ := hr.mono (by decide)
    have hr2 : Room 2 _ := hr
    have hsl : sizeLine = 16777216 := sizeLine_eq
    have hln := plen h2
    refine ⟨_, (pss_cons (ps_set (i := 1) nd rfl (Or.inl rfl) (pe_lst pa_nil))
  (pss_cons (ps_for PassesOwn.never rfl (pi_tup (pe_fld (pv 0) rfl)) (pg_name (i := 4) nd rfl (Or.inl rfl))
  (pss_cons (ps_set (i := 5) nd rfl (Or.inl rfl) (pm_ GMo TC.cl hr1 (pv 0) (pa_cons (pv 4) pa_nil)))
  (pss_one (ps_expr (pe_bm PySem.F.plainAttrs_list PySem.F.slot_list_append PySem.F.type_list_append mt_append (pv 1) (pa_cons (pe_tup (pa_cons pe_str (pa_cons (pe_ix ix_tup (pv 4) pe_int (fun _ _ => rfl)) (pa_cons (pv 5) (pa_cons (pc_ GSb hr2 (pa_cons (pv 5) (pa_cons (pe_fld (pv 0) rfl) pa_nil))) pa_nil))))) pa_nil))))))
  (pss_cons (ps_set (i := 2) nd rfl (Or.inl rfl) (pe_ifExp (pt_cmpR op_eq (pe_fld (pv 0) rfl) pe_int (nomark _)) (pe_lst pa_nil) (pc_ GLa hr1 (pa_cons (pe_lst (pa_cons (pe_fld (pv 0) rfl) pa_nil)) pa_nil))))
  (pss_cons (ps_set (i := 3) nd rfl (Or.inl rfl) (pe_ifExp (pt_cmpR op_eq (pe_fld (pv 0) rfl) pe_int (nomark _)) (pe_lst pa_nil) (pc_ GLa hr1 (pa_cons (pe_lc (own := [("entry", 4)]) (g := (gName 4)) (tt := tYes) (te := (tOp (rIxT K) (tVar 4) (tC (.int 0)))) rfl nd (pi_tup (pe_fld (pv 0) rfl)) (blkOk_by (N := ["self", "cleaning", "before", "behind", "entry", "mark"]) (sc := defScope sDClo) (by decide +kernel)) (fun _ _ _ _ _ => (pg_name (i := 4) nd rfl (Or.inl rfl))) (fun _ _ _ _ _ => pts_nil) (fun _ _ _ _ _ => (pe_ix ix_tup (pv 4) pe_int (fun _ _ => rfl)))) pa_nil))))
  (pss_one (ps_ret (pe_op op_cat (pe_op op_cat (pv 2) (pv 1)) (pv 3)))))))), ?_⟩
    refine ⟨(by show 0 ≤ sizeLine; omega), fun L hL => ?_⟩
    have s1 := up1 (o := HO.lst []) hL
    have e1 : upd H L (HO.lst []) L = _ := upd_same
    generalize upd H L (HO.lst []) = H1 at s1 e1 ⊢
    refine ⟨_, rfl, a, CD, dx, _, _, rfl, s1 _ _ D.ob, TC.cl, TD.nE, rfl, qe, rfl, ⟨_, h1.same s1⟩, for_tup (K := K) (a := qe) (xs := ts) (fun i σ H' => ∃ (x4 x5 : Option V) (ps : List Addr) (sw : List Rq), σ = [some (.ref a), some (.ref L), none, none, x4, x5] ∧ H' L = some (.lst (ps.map V.ref)) ∧ Paired (RqAt H') ps sw ∧ Paired (SwAt H' ad sc st) sw (es.take i) ∧ Same H H') ⟨_, _, [], [], rfl, e1, .nil, .nil, s1⟩ (fun i σ H' _ z => by obtain ⟨_, _, _, _, _, _, _, _, s⟩ := z; exact h1.same s) ?_ ?_⟩
    · rintro i vv σ H' hi ⟨x4, x5, ps, sw, rfl, hL', hps, hsw, s2⟩
      obtain ⟨e, he, p, rfl, hp⟩ := StPget h2 hi
      have hil : i < es.length := (List.getElem?_eq_some_iff.mp he).1
      have ee : es[i] = e := by rw [List.getElem?_eq_getElem hil] at he; exact Option.some.inj he
      have D2 := D.same s2
      have hp2 := hp.same s2
      refine ⟨_, rfl, a, dx, _, rfl, D2.ob, rfl, _, rfl, a, dx, l, _, _, _, left, ad, sc, n, _, v, e, rfl, D2, ⟨p, rfl, hp2⟩, fun mk hmk => ?_⟩
      have s3 := up1 (o := HO.tup [V.int ad, V.int (sc : Int), V.int e.o, V.int e.n]) hmk
      have e3 : upd H' mk (HO.tup [V.int ad, V.int (sc : Int), V.int e.o, V.int e.n]) mk = _ := upd_same
      generalize upd H' mk (HO.tup [V.int ad, V.int (sc : Int), V.int e.o, V.int e.n]) = H3 at s3 e3 ⊢
      have D3 := D2.same s3
      have hpl := plen hps
      have hsl2 := plen hsw
      rw [List.length_take] at hsl2
      refine ⟨_, rfl, .inl ⟨rfl, _, SqL.of (s3 _ _ hL')⟩, _, rfl, p, _, 0, _, rfl, rfl, hp2.same s3, rfl, _, rfl, _, rfl, _, rfl, a, CD, dx, _, _, rfl, D3.ob, TC.cl, TD.nS, rfl, mk, ad, sc, e.o, e.n, v, st, rfl, SqT.of e3, DV.ext (s2.trans s3) _ _ dv, ok, fun H4 s4 => ⟨(by show 4 ≤ sizeLine; omega), fun t ht => ?_⟩⟩
      have s5 := up1 (o := HO.tup [V.str "swap", V.int (e.c : Int), V.ref mk, V.int (if st.done = true then e.n else e.o)]) ht
      have e5 : upd H4 t (HO.tup [V.str "swap", V.int (e.c : Int), V.ref mk, V.int (if st.done = true then e.n else e.o)]) t = some (.tup (Rq.swap e.c (.ref mk) (.int (if st.done = true then e.n else e.o))).vs) := upd_same
      generalize upd H4 t (HO.tup [V.str "swap", V.int (e.c : Int), V.ref mk, V.int (if st.done = true then e.n else e.o)]) = H5 at s5 e5 ⊢
      have s35 := s3.trans (s4.trans s5)
      have hL5 := s35 _ _ hL'
      have x6 := kept_lst (ys := ps.map V.ref ++ [.ref t]) hL5
      refine ⟨L, _, _, rfl, rfl, hL5, (by rw [List.length_map]; omega), ?_⟩
      refine ⟨_, _, ps ++ [t], sw ++ [Rq.swap e.c (.ref mk) (.int (if st.done = true then e.n else e.o))], rfl, by rw [upd_same, List.map_append]; rfl, papp (pmono (fun _ _ h => x6.1 _ _ (s35 _ _ h)) hps) (.cons (x6.1 _ _ e5) .nil), ?_, fun b o e => by rw [upd_ne (ne_of_none e hL)]; exact s35 _ _ (s2 _ _ e)⟩
      rw [List.take_succ_eq_append_getElem hil, ee]
      exact papp (pmono (fun _ _ h => (h.ext (.of s35)).ext x6) hsw) (.cons ⟨mk, rfl, x6.1 _ _ ((s4.trans s5) _ _ e3)⟩ .nil)
    · rintro σ H' ⟨x4, x5, ps, sw, rfl, hL', hps, hsw, s2⟩
      rw [hln, List.take_length] at hsw
      have hpl := plen hps
      have hsl2 := plen hsw
      have D2 := D.same s2
      -- before
      refine ⟨_, rfl, a, CD, dx, _, _, rfl, D2.ob, TC.cl, TD.nW, rfl, rfl, _, rfl, iteND (by decide) ?_⟩
      refine ⟨_, rfl, a, CD, dx, _, _, rfl, D2.ob, TC.cl, TD.nC, rfl, (by show 1 ≤ sizeLine; omega), fun c1 hc1 => ?_⟩
      have s3 := up1 (o := HO.lst [V.int (sc : Int)]) hc1
      have e3 : upd H' c1 (HO.lst [V.int (sc : Int)]) c1 = some (.lst ([sc].map fun c : Nat => V.int (c : Int))) := upd_same
      generalize upd H' c1 (HO.lst [V.int (sc : Int)]) = H3 at s3 e3 ⊢
      refine ⟨c1, [sc], rfl, e3, (by show 1 < 1000; omega), fun H4 pb pf1 pbs s4 hpb hb4 hbs hf1 => ?_⟩
      obtain ⟨pb1, rfl⟩ : ∃ x, pbs = [x] := by
        match pbs, hbs with
        | [x], _ => exact ⟨x, rfl⟩
      have hb1 : FlushAt H4 pb1 sc := by cases hbs with | cons h _ => exact h
      have s24 := s3.trans s4
      have D4 := D2.same s24
      -- behind
      refine ⟨_, rfl, a, CD, dx, _, _, rfl, D4.ob, TC.cl, TD.nW, rfl, rfl, _, rfl, iteND (by decide) ?_⟩
      refine ⟨_, rfl, a, CD, dx, _, _, rfl, D4.ob, TC.cl, TD.nE, rfl, qe, rfl, ⟨_, h1.same (s2.trans s24)⟩, fun E2 hE2 => lc_tup (K := K) (a := qe) (xs := ts) (fun i H5 => H5 E2 = some (.lst ((es.take i).map fun e => V.int (e.c : Int))) ∧ Same H4 H5) ⟨upd_same, up1 hE2⟩ (fun i H5 _ z => (h1.same (s2.trans s24)).same z.2) ?_ ?_⟩
      · rintro i vv H5 hi ⟨hE5, s5⟩
        obtain ⟨e, he, p, rfl, hp⟩ := StPget h2 hi
        have hil : i < es.length := (List.getElem?_eq_some_iff.mp he).1
        have ee : es[i] = e := by rw [List.getElem?_eq_getElem hil] at he; exact Option.some.inj he
        refine ⟨rfl, _, rfl, p, _, 0, _, rfl, rfl, ((hp.same s2).same s24).same s5, rfl, _, hE5, (by rw [List.length_map, List.length_take]; omega), ?_, fun b o e => by rw [upd_ne (ne_of_none e hE2)]; exact s5 b o e⟩
        rw [upd_same, List.take_succ_eq_append_getElem hil, ee, List.map_append]
        rfl
      · rintro H5 ⟨hE5, s5⟩
        rw [hln, List.take_length] at hE5
        have hE5' : H5 E2 = some (.lst ((es.map fun e => e.c).map fun c : Nat => V.int (c : Int))) := by rw [hE5, List.map_map]; rfl
        refine ⟨E2, es.map fun e => e.c, rfl, hE5', (by rw [List.length_map]; omega), fun H6 p2 pf2 ps2 s6 hp2 hl6 hfl hf2 => ?_⟩
        have hL6 := s6 _ _ (s5 _ _ (s24 _ _ hL'))
        have hb6 := s6 _ _ (s5 _ _ hb4)
        have hpl2 := plen hfl
        rw [List.length_map] at hpl2
        -- before + cleaning
        refine ⟨_, rfl, _, rfl, pb, L, _, _, rfl, rfl, hb6, hL6, (by rw [List.length_map, List.length_map]; show 2 + ps.length ≤ sizeLine; omega), fun z1 hz1 => ?_⟩
        generalize hH7 : upd H6 z1 _ = H7
        have s7 : Same H6 H7 := by rw [← hH7]; exact up1 hz1
        have e7 : H7 z1 = some (.lst ([pb1, pf1].map V.ref ++ ps.map V.ref)) := by rw [← hH7]; exact upd_same
        refine ⟨_, rfl, z1, p2, _, _, rfl, rfl, e7, s7 _ _ hl6, (by rw [List.length_append, List.length_map, List.length_map, List.length_map, List.length_append]; show 2 + ps.length + (ps2.length + 1) ≤ sizeLine; omega), fun z2 hz2 => ?_⟩
        generalize hH8 : upd H7 z2 _ = H8
        have s8 : Same H7 H8 := by rw [← hH8]; exact up1 hz2
        have e8 : H8 z2 = some (.lst (([pb1, pf1].map V.ref ++ ps.map V.ref) ++ (ps2 ++ [pf2]).map V.ref)) := by rw [← hH8]; exact upd_same
        have s68 := s7.trans s8
        have s48 := s5.trans (s6.trans s68)
        have sA := s24.trans s48
        have xA : ExT H' H8 := .of sA
        refine k H8 z2 pb1 (pf1 :: (ps ++ ps2 ++ [pf2])) sw (s2.trans sA) (by rw [e8]; simp [List.map_append]) (s48 _ _ hb1) ?_ (pmono (fun _ _ h => h.ext xA) hsw)
        refine .cons (s48 _ _ hf1) (papp (papp (pmono (fun _ _ h => sA _ _ h) hps) ?_) (.cons (s68 _ _ hf2) .nil))
        have := flush_rq hfl
        rw [List.map_map] at this
        exact pmono (fun _ _ h => s68 _ _ h) this
end
end Dk

set_option maxHeartbeats 4000000
/-! the machine that brings a deed to its end: the status taken, its making -/
namespace Dk
open PySem PySem.Spec PyProof.Rows L2
def spDStat (K : PySem.W.Frag) (CD gw gs gc : Addr) : Sp := fun vs H Q _ => ∃ (a dx p l q : Addr) (w th : V) (left : List V) (ad c : Int) (n sc : Nat) (st0 v : V) (st : Sta) (es : List En), vs = [.ref a, .ref p] ∧ MaAt CD H a dx w l th left (dorest ad sc (.ref q) n st0) ∧ H p = some (.tup [v, .int c]) ∧ DV K H v st.tr ∧ st.ok ∧ EnsAt K H q es ∧ es.length < 100 ∧ n ≤ es.length ∧
  (st = .zero → Nxt K CD gw gs H a dx q ad n sc st0 es Q) ∧
  (st ≠ .zero → ∀ (H' : Hp) (q' l' qm : Addr) (ps : List Addr) (sw : List Rq), Asked CD H H' a dx gc (.flush sc) (closing sc sw es) (dorest ad sc (.ref q) n v) q' l' qm ps → Paired (SwAt H' ad sc st) sw es → Q .non H')
theorem sta_ok {s : Sta} (h : s.ok) : s.tr.ok ∧ s.tr.sz < 1000 := ⟨(Sta.nice h).1, (Sta.nice h).2.1⟩
section
variable {P : Program} {w : World} {K : PySem.W.Frag} {mg : Str → Option Value} {base : Heap} {C M CD g gs gw gc : Addr}
theorem scDStat : FnScope ["self", "result", "status"] ["self", "result"] (defScope sDStat) := ⟨rfl, rfl, rfl, by decide +kernel, rfl, by decide +kernel, by decide +kernel⟩
theorem mo_dstat (F : MT K CD "_take_status" "Doing._take_status" sDStat ["self", "result"]) (TD : DTx K CD) (bg : BMeth K CD "_close" gc) (GAs : MO P w K mg base CX0 CD 1 "_ask" ["self", "requests", "then"] (spMaAsk CD)) (GLk : MO P w K mg base CX0 CD 3 "_look" ["self"] (spDLook K CD gw gs)) (GCl : MO P w K mg base CX0 CD 3 "_closing_accesses" ["self"] (spDClo K CD)) (GIs : GO P w K mg base CX0 1 "is_same" ["one", "other"] (spIsSameD K)) : MO P w K mg base CX0 CD 5 "_take_status" ["self", "result"] (spDStat K CD gw gs gc) := by
  obtain ⟨f, fd, F, hm, hb⟩ := F
  refine ⟨f, fd, ?_, hm, hb⟩
  refine F.ok scDStat (fun vs H Q E h => ?_) (fun cdv A outer s H vs Q E hr h => ?_)
  · obtain ⟨a, dx, p, l, q, w, th, left, ad, c, n, sc, st0, v, st, es, rfl, _⟩ := h
    rfl
  · obtain ⟨a, dx, p, l, qe, wv, th, left, ad, c, n, sc, st0, v, st, es, rfl, D, hp, dv, ok, hes, hl, hn, kz, kn⟩ := h
    have nd := scDStat.nd
    have TC := TD.m
    have hr1 : Room 1 _ := hr.mono (by decide)
    have hrA : Room 1 _ := hr.mono (by decide)
    have hr3 : Room 3 _ := hr.mono (by decide)
    have hsl : sizeLine = 16777216 := sizeLine_eq
    refine ⟨_, (pss_cons (ps_set (i := 2) nd rfl (Or.inl rfl) (pe_ix ix_tup (pv 1) pe_int (fun _ _ => rfl)))
  (pss_one (ps_if (pt_val (pc_ GIs hr1 (pa_cons (pv 2) (pa_cons pe_int pa_nil))))
  (pss_one (ps_expr (pm0_ GLk TC.cl hr3 (pv 0))))
  (pss_cons (ps_fld (pv 0) (pv 2) rfl)
  (pss_one (ps_expr (pm_ GAs TC.cl hrA (pv 0) (pa_cons (pm0_ GCl TC.cl hr3 (pv 0)) (pa_cons (Mr.pe_bm_ (pv 0)) pa_nil))))))))), ?_⟩
    obtain ⟨ok1, ok2⟩ := sta_ok ok
    refine ⟨_, rfl, p, _, 0, _, rfl, rfl, SqT.of hp, rfl, ?_⟩
    refine ⟨_, rfl, v, .int 0, st.tr, .sc (.int 0), rfl, dv, .sc (t := "int") rfl, ok1, (nice_int 0).1, by omega, fun b H1 s1 hb1 => ⟨_, rfl, ?_⟩⟩
    have D1 := D.same s1
    have hes1 := hes.ext (.of s1)
    have from1 : ∀ {H' : Hp} {g' : Addr} {r0 : Rq} {rs : List Rq} {rest : List (Str × V)} {q' l' qm : Addr} {ps : List Addr}, Asked CD H1 H' a dx g' r0 rs rest q' l' qm ps → Asked CD H H' a dx g' r0 rs rest q' l' qm ps := fun h => h.from (Kept.of s1) D1.ob
    cases hb2 : b with
    | true =>
      have hz : st = .zero := by
        have := hb1.mp hb2
        cases st with
        | zero => rfl
        | tup z t => cases this
      obtain ⟨kr, kd⟩ := kz hz
      refine iteT ⟨_, rfl, a, dx, _, rfl, D1.ob, rfl, a, dx, l, qe, _, _, left, ad, n, sc, st0, es, rfl, D1, hes1, hn, fun e he H' q' l' qm hA => kr e he H' q' l' qm (from1 hA), fun hn' H' q' l' qm p hA => kd hn' H' q' l' qm p (from1 hA)⟩
    | false =>
      have hz : st ≠ .zero := fun z => by
        have := hb1.mpr (by rw [z]; rfl)
        rw [hb2] at this
        cases this
      refine iteF ⟨_, rfl, _, rfl, a, CD, dx, _, rfl, D1.ob, TC.cl, TD.nS, (by show 9 < 1000; decide), ?_⟩
      have l_a : l ≠ a := ne_of D1.lf D1.ob (by intro z; cases z)
      generalize hH2 : upd H1 a _ = H2
      have k2 : Kept a H1 H2 := fun b o e n => by rw [← hH2, upd_ne n]; exact e
      have a2 : H2 a = some (.ins CD dx (mfs wv l th (dorest ad sc (.ref qe) n v))) := by rw [← hH2]; exact upd_same
      have l2 := k2 _ _ D1.lf l_a
      have x2 := k2.extI D1.ob
      have D2 : MaAt CD H2 a dx wv l th left (dorest ad sc (.ref qe) n v) := ⟨a2, l2⟩
      refine ⟨_, rfl, a, dx, _, rfl, a2, rfl, _, rfl, a, dx, _, rfl, a2, rfl, a, dx, l, qe, _, _, left, ad, n, sc, v, st, es, rfl, D2, DV.extT ((ExT.of s1).trans x2) _ _ dv, ok, hes1.ext x2, hl, fun H3 rq p0 ps sw s3 hrq h0 hps hsw => ?_⟩
      refine ⟨_, rfl, a, CD, dx, _, gc, rfl, s3 _ _ a2, TC.cl, bg, rfl, fun qm hqm => ?_⟩
      have s4 := up1 (o := HO.met gc a) hqm
      have e4 : upd H3 qm (HO.met gc a) qm = _ := upd_same
      generalize upd H3 qm (HO.met gc a) = H4 at s4 e4 ⊢
      have s24 := s3.trans s4
      have kA : Kept a H H4 := ((Kept.of s1).trans k2).trans (Kept.of s24)
      refine ⟨a, dx, l, rq, _, _, .ref qm, left, _, .ref p0, ps.map V.ref, rfl, D2.same s24, (by show 6 < 900; decide), s4 _ _ hrq, fun H6 l' hl' D6 kp6 => ?_⟩
      have hA := asked_mk (r0 := .flush sc) (rs := closing sc sw es) kA (s24 _ _ a2) (s4 _ _ h0) (pmono (fun _ _ h => s4 _ _ h) hps) e4 ((((Kept.of s1).trans k2).trans (Kept.of s3)).free hqm ⟨_, s3 _ _ a2⟩) hl' D6 kp6
      exact kn hz H6 p0 l' qm ps sw hA (pmono (fun _ _ h => (h.ext (.of s4)).ext (kp6.extI (s24 _ _ a2))) hsw)
end
end Dk

set_option maxHeartbeats 4000000
/-! the machine that brings a deed to its end: its making -/
namespace Dk
open PySem PySem.Spec PyProof.Rows L2
def spDNew (CD g : Addr) : Sp := fun vs H Q _ => ∃ (a dx : Addr) (ad : Nat), vs = [.ref a, .int (ad : Int), .int 0] ∧ H a = some (.ins CD dx []) ∧
  ∀ (H' : Hp) (q l qm : Addr) (es : V), Asked CD H H' a dx g (.read ad) [] (dorest ad 0 es 0 .non) q l qm [] → Q .non H'
theorem funD_okN {P : Program} {w : World} {K : PySem.W.Frag} {mg : Str → Option Value} {base : Heap} {x qual : Str} {params : Arguments} {body : List Stmt} {scope : Scope} {dvs : List V} {kws : List (Str × V)} {f : Addr} {fd : FuncData} {N ps : List Str} {k : Nat} {sp : Sp} (F : FunD K x qual params body scope dvs kws f fd) (S : FnScope N ps scope) (len : ∀ vs H Q E, sp vs H Q E → vs.length = ps.length)
    (hbody : ∀ (cdv : Value) (A : Around) (outer : List Env) (s : Shared) (H : Hp) (vs : List V) (Q : VK) (E : XK), Room k (A.deeper (envOfC qual scope s.heap.objs.size f cdv)) → sp vs H Q E →
      ∃ t, PSs (cxOf CX0 P w K mg base N qual scope f cdv A outer s H E).nox body t ∧ t { nx := fun _ H' => Q .non H', rt := Q } (start N vs) H) : FnOk P w K mg base CX0 (k + 1) f fd ps sp :=
  F.ok S len fun cdv A outer s H vs Q E hr hsp => let ⟨t, h, q⟩ := hbody cdv A outer s H vs Q E hr hsp; ⟨t, h.nox, q⟩
section
variable {P : Program} {w : World} {K : PySem.W.Frag} {mg : Str → Option Value} {base : Heap} {C M CD g gs gw gc : Addr}
theorem scDInit : FnScope ["self", "address", "without"] ["self", "address", "without"] (defScope sDInit) := ⟨rfl, rfl, rfl, by decide +kernel, rfl, by decide +kernel, by decide +kernel⟩
theorem ok_dinit {f fMi Ma : Addr} {fd : FuncData} (F : FunD K "__init__" "Doing.__init__" (defArgs sDInit) (defBody sDInit) (defScope sDInit) [V.int 0] [] f fd) (TD : DTx K CD) (gMa : mg "Machine" = some (.ref Ma)) (cMi : Mr.CFn K Ma "__init__" fMi) (FMi : FnR P w K mg base CX0 1 fMi (spMaInit CD)) (bg : BMeth K CD "_take_deed" g)
    (GAs : MO P w K mg base CX0 CD 1 "_ask" ["self", "requests", "then"] (spMaAsk CD)) : FnOk P w K mg base CX0 2 f fd ["self", "address", "without"] (spDNew CD g) := by
  refine funD_okN F scDInit (fun vs H Q E h => ?_) (fun cdv A outer s H vs Q E hr h => ?_)
  · obtain ⟨a, dx, ad, rfl, _⟩ := h
    rfl
  · obtain ⟨a, dx, ad, rfl, ha, k⟩ := h
    have hr1 : Room 1 _ := hr
    have hrA : Room 1 _ := hr
    have TC := TD.m
    refine ⟨_, (pss_cons (ps_expr (Mr.pe_cls rfl gMa cMi FMi hr1 (pa_cons (pv 0) pa_nil)))
  (pss_cons (ps_fld (pv 0) (pv 1) rfl)
  (pss_cons (ps_fld (pv 0) (pv 2) rfl)
  (pss_cons (ps_fld (pv 0) pe_int rfl)
  (pss_cons (ps_fld (pv 0) (pe_tup pa_nil) rfl)
  (pss_cons (ps_fld (pv 0) pe_int rfl)
  (pss_cons (ps_fld (pv 0) pe_non rfl)
  (pss_one (ps_expr (pm_ GAs TC.cl hrA (pv 0) (pa_cons (pe_lst (pa_cons (pe_tup (pa_cons pe_str (pa_cons (pv 1) pa_nil))) pa_nil)) (pa_cons (Mr.pe_bm_ (pv 0)) pa_nil)))))))))))), ?_⟩
    refine ⟨_, rfl, a, dx, rfl, ha, fun H1 e l he hl h1 D1 kp1 => ?_⟩
    refine ⟨_, rfl, _, rfl, a, CD, dx, _, rfl, D1.ob, TC.cl, TD.nA, (by show 3 < 1000; decide), ?_⟩
    refine ⟨_, rfl, _, rfl, a, CD, dx, _, rfl, upd_same, TC.cl, TD.nW, (by show 4 < 1000; decide), ?_⟩
    refine ⟨_, rfl, a, CD, dx, _, rfl, upd_same, TC.cl, TD.nC, (by show 5 < 1000; decide), ?_⟩
    generalize hH2 : upd (upd (upd H1 a _) a _) a _ = H2
    have kp2 : Kept a H1 H2 := fun b o q n => by rw [← hH2, upd_ne n, upd_ne n, upd_ne n]; exact q
    have a2 : H2 a = some (.ins CD dx (mfs (.ref e) l .non [("_address", .int ad), ("_without", .int 0), ("_status_cell", .int 0)])) := by rw [← hH2]; exact upd_same
    have l_a : l ≠ a := ne_of D1.lf D1.ob (by intro z; cases z)
    have l2 := kp2 _ _ D1.lf l_a
    dsimp only [tSeq]
    refine ⟨(by show 0 ≤ sizeLine; exact Nat.zero_le _), fun es hes => ?_⟩
    have s3 := up1 (o := HO.tup []) hes
    generalize upd H2 es (HO.tup []) = H3 at s3 ⊢
    have a3 := s3 _ _ a2
    refine ⟨_, rfl, a, CD, dx, _, rfl, a3, TC.cl, TD.nE, (by show 6 < 1000; decide), ?_⟩
    refine ⟨_, rfl, a, CD, dx, _, rfl, upd_same, TC.cl, TD.nP, (by show 7 < 1000; decide), ?_⟩
    refine ⟨_, rfl, a, CD, dx, _, rfl, upd_same, TC.cl, TD.nS, (by show 8 < 1000; decide), ?_⟩
    generalize hH4 : upd (upd (upd H3 a _) a _) a _ = H4
    have kp4 : Kept a H3 H4 := fun b o q n => by rw [← hH4, upd_ne n, upd_ne n, upd_ne n]; exact q
    have a4 : H4 a = some (.ins CD dx (mfs (.ref e) l .non (dorest ad 0 (.ref es) 0 .non))) := by rw [← hH4]; exact upd_same
    have l4 := kp4 _ _ (s3 _ _ l2) l_a
    have k4 : Kept a H H4 := ((kp1.trans kp2).trans (Kept.of s3)).trans kp4
    refine ⟨_, rfl, a, dx, _, rfl, a4, rfl, _, rfl, (by show 2 ≤ sizeLine; decide), fun q hq => ⟨(by show 1 ≤ sizeLine; decide), fun rq hrq => ?_⟩⟩
    have s5 := up1 (o := HO.tup [V.str "read", V.int (ad : Int)]) hq
    have e5 : upd H4 q (HO.tup [V.str "read", V.int (ad : Int)]) q = some (.tup (Rq.read ad).vs) := upd_same
    generalize upd H4 q (HO.tup [V.str "read", V.int (ad : Int)]) = H5 at s5 e5 hrq ⊢
    have s6 := up1 (o := HO.lst [V.ref q]) hrq
    have e6 : upd H5 rq (HO.lst [V.ref q]) rq = _ := upd_same
    generalize upd H5 rq (HO.lst [V.ref q]) = H6 at s6 e6 ⊢
    have s46 := s5.trans s6
    refine ⟨_, rfl, a, CD, dx, _, g, rfl, s46 _ _ a4, TC.cl, bg, rfl, fun qm hqm => ?_⟩
    have s7 := up1 (o := HO.met g a) hqm
    have e7 : upd H6 qm (HO.met g a) qm = _ := upd_same
    generalize upd H6 qm (HO.met g a) = H7 at s7 e7 ⊢
    have s47 := s46.trans s7
    refine ⟨a, dx, l, rq, _, _, .ref qm, [], _, .ref q, [], rfl, ⟨s47 _ _ a4, s47 _ _ l4⟩, (by show 6 < 900; decide), s7 _ _ e6, fun H8 l' hl' D8 kp8 => ?_⟩
    exact k H8 q l' qm (.ref es) (asked_mk (k4.trans (Kept.of s47)) (s47 _ _ a4) ((s6.trans s7) _ _ e5) .nil e7 ((k4.trans (Kept.of s46)).free hqm ⟨_, s46 _ _ a4⟩) hl' D8 kp8)
end
end Dk

set_option maxHeartbeats 4000000
/-! a list of accesses, one after the other, under an invariant -/
namespace Dk
open PySem PySem.Spec PyProof.Rows L2
theorem dors {ad sc : Int} {es : V} {n : Int} {st : V} : RsOk (dorest ad sc es n st) := ⟨rfl, rfl, rfl, by show 6 < 900; decide⟩
section
variable {P : Program} {W : World} {K : PySem.W.Frag} {mg : Str → Option Value} {base : Heap} {C M CE fa : Addr} {m : Addr} {t w r th0 : Nat} {a dx : Addr} {rest : List (Str × V)} {Qg : QG}
/-- an access behind which the next request waits; what the heap keeps is told -/
theorem go_pop2 {H : Hp} {B : Nat} {A : Adr} {X : MS} {Z : Addr → Prop} {q l : Addr} {th : V} {n : Nat} {q' : Addr} {rs : List V} {rq : Rq} (s : MSt C M CE H m t w r B A X Z a dx q l th (.ref q' :: rs) rest) (mc : MCl P W K mg base CE fa) (ro : RsOk rest) (hq : H q = some (.tup rq.vs)) (ok : rq.ok t w r) (vals : rq.vals K H) (fl : rq.flatAt K H X t)
    (nxt : ∀ (v x : V) (A' : Adr) (X' : MS) (H1 H2 : Hp) (Z' : Addr → Prop), Res K ((X.withCount (X.count + 1)).withLog (X.log ++ [x])) t th0 H1 H1 rq v X' → MSt C M CE H2 m t w r (B + 2) A' X' Z' a dx q' l th rs rest → Zst Z H Z' H2 → (∀ b, Z b → Z' b) → A'.a = A.a → ExT H H1 → ExT H1 H2 → Uq K H1 →
      (∀ b o, H b = some o → b ≠ a → b ≠ l → ¬ Foot m A (t + w + r) b → H2 b = some o ∧ ¬ Foot m A' (t + w + r) b) → Go P W K mg base 7 C M a CE dx m t w r th0 Qg n H2 A' X' (B + 2) Z') : Go P W K mg base 7 C M a CE dx m t w r th0 Qg (n + 1) H A X B Z := by
  refine ⟨q, l, fa, th, _, rest, rq, _, s.mach mc ro, hq, ok, vals, fl, mc.ma, (FnR.uq mc.fa), s.DM, s.so, s.zf, s.zla, fun v x p A' X' H1 ea R hp so' D' st Q' hQ' uq => ?_⟩
  obtain ⟨D1, f1, f2⟩ := s.acc st
  refine ⟨fun a' dx' fs e1 e2 => ?_, a, dx, l, _, th, .ref p, _, rest, rfl, D1, ro.n, .inl ⟨.ref q', rs, rfl, fun H2 D2 kp => ?_⟩⟩
  · cases e1
    rw [D1.ob] at e2
    cases e2
    exact go_lk (fs := []) ro
  · obtain ⟨s2, zs⟩ := s.next st ea D' so' (fun b => b = a ∨ b = l) (fun _ => False) (fun b o e y => kp b o e (fun z => y (.inl z)) fun z => y (.inr z)) (fun b y => y.elim (fun e => e ▸ s.za) fun e => e ▸ s.zl) (fun b y => y.elim (fun e => e ▸ f1) fun e => e ▸ f2) (fun b y => y.elim) D2 (.inl rfl)
    have x2 : ExT H1 H2 := ⟨fun b xs e => kp b _ e (ne_of e D1.ob (by intro z; cases z)) (ne_of e D1.lf (by intro z; cases z)), fun b o xs e => kp b _ e (ne_of e D1.ob (by intro z; cases z)) (ne_of e D1.lf (by intro z; cases z))⟩
    exact hQ' .non H2 _ zs (.inl (nxt v x A' X' H1 H2 _ R s2 zs (fun b h => .inr (.inl h)) ea (st.ext s.DM) x2 uq fun b o e n1 n2 nf => ⟨kp b o (st.chg b o e nf) n1 n2, (st.out e nf).2⟩))
/-- the last accesses of a machine: an invariant over what is still to do -/
theorem go_all {g : Addr} {ad sc n : Int} {es y : V} (mc : MCl P W K mg base CE fa) (fi : PySem.W.fnIn K g = true) (FR : ∀ (ad n : Int) (sc : Nat), FnR P W K mg base CX0 5 g (spDClose CE)) (I : List Rq → Hp → MS → Prop)
    (iext : ∀ rs H H' X, ExT H H' → I rs H X → I rs H' X)
    (iok : ∀ r0 rs H X, I (r0 :: rs) H X → r0.ok t w r ∧ r0.vals K H ∧ r0.flatAt K H X t)
    (istep : ∀ r0 rs H X v x X', Uq K H → I (r0 :: rs) H X → Res K ((X.withCount (X.count + 1)).withLog (X.log ++ [x])) t th0 H H r0 v X' → I rs H X')
    (nz : ∃ sc' : Nat, sc = (sc' : Int)) (A0 : Addr) (H0 : Hp) (Z0 : Addr → Prop)
    (fin : ∀ (H2 : Hp) (A' : Adr) (X' : MS) (B' : Nat) (Z' : Addr → Prop), A'.a = A0 → I [] H2 X' → MemAt C M H2 m t w r A' X' → SOk X' t (t + w + r) B' → (∀ b, Foot m A' (t + w + r) b → Z' b) → ¬ Z' A'.a → Zst Z0 H0 Z' H2 → Qg y H2 A' X' B' Z') :
    ∀ (rs : List Rq) (r0 : Rq) (ps : List Addr) {H : Hp} {B : Nat} {A : Adr} {X : MS} {Z : Addr → Prop} {q l qm : Addr}, MSt C M CE H m t w r B A X Z a dx q l (.ref qm) (ps.map V.ref) (dorest ad sc es n y) → H q = some (.tup r0.vs) → Paired (RqAt H) ps rs → H qm = some (.met g a) → I (r0 :: rs) H X → A.a = A0 → Zst Z0 H0 Z H → Go P W K mg base 7 C M a CE dx m t w r th0 Qg (rs.length + 1) H A X B Z := by
  obtain ⟨sc', rfl⟩ := nz
  intro rs
  induction rs with
  | nil =>
    intro r0 ps H B A X Z q l qm s hq hps hqm hI ea hz
    cases hps
    obtain ⟨ok, vals, fl⟩ := iok _ _ _ _ hI
    refine go_then s mc dors hq ok vals fl hqm fi (FR 0 0 0) fun v x p A' X' H1 ea' R hp so' D' st M1 uq Q' hQ' => ?_
    have x1 := st.ext s.DM
    have hI1 := istep _ _ _ _ _ _ _ uq (iext _ _ _ _ x1 hI) R
    refine ⟨a, dx, l, _, _, .ref p, y, [], ad, n, sc', es, rfl, M1, fun H2 e he h2 D2 kp => ?_⟩
    obtain ⟨s2, z2⟩ := s.next st ea' D' so' (fun b => b = a) (fun b => False) (fun b o q n => kp b o q n) (fun b y => y ▸ s.za) (fun b y => y ▸ (s.acc st).2.1) (fun b y => y.elim) D2 (.inl rfl)
    refine hQ' H2 _ z2 (.inr ⟨e, l, _, [], _, y, dors, s2, h2, ?_⟩)
    exact fin H2 A' X' _ _ (ea'.trans ea) (iext _ _ _ _ (kp.extI M1.ob) hI1) s2.DM s2.so s2.zf s2.zla (hz.trans z2)
  | cons r1 rs ih =>
    intro r0 ps H B A X Z q l qm s hq hps hqm hI ea hz
    cases hps with
    | @cons p1 _ ps' _ h1 hps' =>
      obtain ⟨ok, vals, fl⟩ := iok _ _ _ _ hI
      refine go_pop2 s mc dors hq ok vals fl fun v x A' X' H1 H2 Z' R s2 zs zz ea' x1 x2 uq kp => ?_
      have hI1 := istep _ _ _ _ _ _ _ uq (iext _ _ _ _ x1 hI) R
      have x12 := x1.trans x2
      have hqm2 := (kp _ _ hqm (ne_of hqm s.D.ob (by intro z; cases z)) (ne_of hqm s.D.lf (by intro z; cases z)) (met_out s.DM hqm)).1
      exact ih r1 ps' s2 (x12.1 _ _ h1) (pmono (fun _ _ h => x12.1 _ _ h) hps') hqm2 (iext _ _ _ _ x2 hI1) (ea'.trans ea) (hz.trans zs)
end
end Dk

set_option maxHeartbeats 4000000
/-! what a fence does to the trails; the closing of a deed on the memory -/
namespace Dk
open PySem PySem.Spec PyProof.Rows L2
theorem fence_cell {t c : Nat} : ∀ {l : List (Nat × Int)} {S : MS}, cellV (fenceS S l) t c = cellV S t c
  | [], _ => rfl
  | p :: l, S => (fence_cell (l := l) (S := S.short p.1 (p.2 - S.lost p.1))).trans cellV_short
theorem fence_notes : ∀ {l : List (Nat × Int)} {S : MS}, (fenceS S l).notes = S.notes
  | [], _ => rfl
  | p :: l, S => fence_notes (l := l) (S := S.short p.1 (p.2 - S.lost p.1))
theorem fence_off {j : Nat} : ∀ {l : List (Nat × Int)} {S : MS}, j ∉ l.map (·.1) → (fenceS S l).tr j = S.tr j ∧ (fenceS S l).lost j = S.lost j
  | [], _, _ => ⟨rfl, rfl⟩
  | p :: l, S, h => by
    have h1 : j ≠ p.1 := fun z => h (by rw [z]; exact List.mem_cons_self)
    have ih := fence_off (l := l) (S := S.short p.1 (p.2 - S.lost p.1)) fun z => h (List.mem_cons_of_mem _ z)
    refine ⟨ih.1.trans ?_, ih.2.trans ?_⟩
    · show sett S.tr p.1 _ j = _
      exact sett_ne h1
    · show setl S.lost p.1 _ j = _
      unfold setl
      rw [if_neg h1]
theorem fence_on {j : Nat} {pl : Int} : ∀ {l : List (Nat × Int)} {S : MS}, (l.map (·.1)).Nodup → (j, pl) ∈ l → (fenceS S l).tr j = (S.tr j).drop (cutN (S.tr j).length (pl - S.lost j))
  | [], _, _, h => by cases h
  | p :: l, S, nd, h => by
    have nd' : p.1 ∉ l.map (·.1) ∧ (l.map (·.1)).Nodup := List.nodup_cons.mp nd
    rcases List.mem_cons.mp h with e | h
    · subst e
      have ih := fence_off (l := l) (S := S.short j (pl - S.lost j)) nd'.1
      refine ih.1.trans ?_
      show sett S.tr j _ j = _
      exact sett_same
    · have hne : j ≠ p.1 := fun z => nd'.1 (by rw [← z]; exact List.mem_map.mpr ⟨_, h, rfl⟩)
      have ih := fence_on (l := l) (S := S.short p.1 (p.2 - S.lost p.1)) nd'.2 h
      have e1 : (S.short p.1 (p.2 - S.lost p.1)).tr j = S.tr j := sett_ne hne
      have e2 : (S.short p.1 (p.2 - S.lost p.1)).lost j = S.lost j := by
        show setl S.lost p.1 _ j = _
        unfold setl
        rw [if_neg hne]
      refine ih.trans ?_
      rw [e1, e2]
/-- a trail whose end was noted: one value is left -/
theorem fence_one {j : Nat} {l : List (Nat × Int)} {S : MS} {v : V} (nd : (l.map (·.1)).Nodup) (h : (j, S.lost j + ((S.tr j).length : Int) - 1) ∈ l) (hv : (S.tr j).getLast? = some v) : (fenceS S l).tr j = [v] := by
  rw [fence_on nd h]
  have hne : S.tr j ≠ [] := fun z => by rw [z] at hv; cases hv
  have hl : 0 < (S.tr j).length := List.length_pos_iff.mpr hne
  have e : cutN (S.tr j).length (S.lost j + ((S.tr j).length : Int) - 1 - S.lost j) = (S.tr j).length - 1 := by
    unfold cutN
    omega
  rw [e]
  obtain ⟨ys, hy⟩ := List.getLast?_eq_some_iff.mp hv
  rw [hy]
  simp
theorem give_last {S : MS} {t c : Nat} {v : V} : (S.give t c v).lost = S.lost ∧ (S.give t c v).notes = S.notes := by
  unfold MS.give
  split <;> exact ⟨rfl, rfl⟩
theorem give_tr {S : MS} {t c j : Nat} {v : V} (h : c - (1 + t) ≠ j) : (S.give t c v).tr j = S.tr j := by
  unfold MS.give
  split
  · rfl
  · exact sett_ne fun z => h z.symm
end Dk

set_option maxHeartbeats 4000000
/-! what an access does to the cells -/
namespace Dk
open PySem PySem.Spec PyProof.Rows L2
abbrev Lg (X : MS) (x : V) : MS := (X.withCount (X.count + 1)).withLog (X.log ++ [x])
section
variable {K : PySem.W.Frag} {X X' : MS} {t th i : Nat} {H : Hp} {v x p : V} {tp to : Tr}
theorem res_swapT {o n : V} (R : Res K (Lg X x) t th H H (.swap i o n) v X') (uq : Uq K H) (hp : cellV X t i = some p) (dp : DV K H p tp) (d : DV K H o to) : (tp = to → v = .bl true ∧ X' = (Lg X x).give t i n) ∧ (tp ≠ to → v = .bl false ∧ X' = Lg X x) := by
  obtain ⟨p', tp', to', h1, h2, h3, hc⟩ := R
  have h1 : cellV X t i = some p' := h1
  rw [hp] at h1
  cases h1
  have e1 := DV.one uq _ _ _ dp h2.d
  have e2 := DV.one uq _ _ _ d h3.d
  subst e1
  subst e2
  rcases hc with ⟨h, a, b⟩ | ⟨h, a, b⟩
  · exact ⟨fun _ => ⟨a, b⟩, fun z => absurd h z⟩
  · exact ⟨fun z => absurd z h, fun _ => ⟨a, b⟩⟩
theorem res_decT {z : Str} (R : Res K (Lg X x) t th H H (.decide i z) v X') (uq : Uq K H) (hp : cellV X t i = some p) (dp : DV K H p tp) : (tp = .sc (.int 0) → v = .bl true ∧ ∃ q, H q = some (.tup [.str z, .int (X.count + 1)]) ∧ X' = (Lg X x).give t i (.ref q)) ∧ (tp ≠ .sc (.int 0) → v = .bl false ∧ X' = Lg X x) := by
  obtain ⟨p', tp', h1, h2, hc⟩ := R
  have h1 : cellV X t i = some p' := h1
  rw [hp] at h1
  cases h1
  have e1 := DV.one uq _ _ _ dp h2.d
  subst e1
  rcases hc with ⟨h, a, q, hq, b⟩ | ⟨h, a, b⟩
  · exact ⟨fun _ => ⟨a, q, hq, b⟩, fun z => absurd h z⟩
  · exact ⟨fun z => absurd z h, fun _ => ⟨a, b⟩⟩
theorem res_readT (R : Res K (Lg X x) t th H H (.read i) v X') (hp : cellV X t i = some p) : v = p ∧ X' = Lg X x := by
  obtain ⟨h1, h2⟩ := R
  have h1 : cellV X t i = some v := h1
  rw [hp] at h1
  cases h1
  exact ⟨rfl, h2⟩
end
theorem putN_new {l : List (Nat × Int)} {j : Nat} {x : Int} (h : j ∉ l.map (·.1)) : putN l j x = l ++ [(j, x)] := by
  unfold putN
  rw [if_neg]
  intro z
  obtain ⟨p, hp, e⟩ := List.any_eq_true.mp z
  exact h (List.mem_map.mpr ⟨p, hp, of_decide_eq_true e⟩)
/-- the keys of a thread's notes tell them -/
theorem nkv_inj {t : Nat} : ∀ {l m : List (Nat × Int)}, nkv t l = nkv t m → l = m
  | [], [], _ => rfl
  | [], _ :: _, h => by cases h
  | _ :: _, [], h => by cases h
  | p :: l, q :: m, h => by
    have h : ((Sum.inl ((1 + t + p.1 : Nat) : Int) : Key), V.int p.2) :: nkv t l = ((Sum.inl ((1 + t + q.1 : Nat) : Int) : Key), V.int q.2) :: nkv t m := h
    obtain ⟨h1, h2⟩ := List.cons.inj h
    have e1 := Sum.inl.inj (Prod.mk.inj h1).1
    have e2 := V.int.inj (Prod.mk.inj h1).2
    rw [nkv_inj h2, show p = q from Prod.ext (by omega) e2]
theorem res_flushT {K : PySem.W.Frag} {X X' : MS} {t th i : Nat} {H : Hp} {v x : V} {l : List (Nat × Int)} (R : Res K (Lg X x) t th H H (.flush i) v X') (hn : X.notes[th]? = some (nkv t l)) : v = .non ∧ X' = (Lg X x).withNotes (X.notes.set th (nkv t (putN l (i - (1 + t)) (X.lost (i - (1 + t)) + ((X.tr (i - (1 + t))).length : Int) - 1)))) := by
  obtain ⟨h1, l', h2, h3⟩ := R
  have h2 : X.notes[th]? = some (nkv t l') := h2
  rw [hn] at h2
  have e := nkv_inj (Option.some.inj h2)
  subst e
  exact ⟨h1, h3⟩
theorem res_fenceT {K : PySem.W.Frag} {X X' : MS} {t th : Nat} {H : Hp} {v x : V} {l : List (Nat × Int)} (R : Res K (Lg X x) t th H H .fence v X') (hn : X.notes[th]? = some (nkv t l)) : v = .non ∧ X' = fenceS ((Lg X x).withNotes (X.notes.set th [])) l := by
  obtain ⟨h1, l', h2, h3⟩ := R
  have h2 : X.notes[th]? = some (nkv t l') := h2
  rw [hn] at h2
  have e := nkv_inj (Option.some.inj h2)
  subst e
  exact ⟨h1, h3⟩
end Dk

set_option maxHeartbeats 4000000
/-! the closing of a deed: an invariant over what is still to do -/
namespace Dk
open PySem PySem.Spec PyProof.Rows L2
theorem cellV_tr {X : MS} {c : Nat} (h : 2 ≤ c) : cellV X 1 c = (X.tr (c - 2)).getLast? := by
  unfold cellV
  rw [if_neg (by omega)]
inductive Stg where
  | a
  | b
  | c (k : Nat)
  | d (k : Nat)
  | e
abbrev fl (e : En) : Rq := .flush e.c
def todo (sc : Nat) (sw : List Rq) (es : List En) : Stg → List Rq
  | .a => .flush sc :: closing sc sw es
  | .b => closing sc sw es
  | .c k => sw.drop k ++ es.map fl ++ [.fence]
  | .d k => (es.drop k).map fl ++ [.fence]
  | .e => []
/-- what a deed's cells are -/
structure DCl (sc : Nat) (es : List En) : Prop where
  s : 2 ≤ sc ∧ sc < 157
  e : ∀ e ∈ es, 2 ≤ e.c ∧ e.c < 157 ∧ e.c ≠ sc
  nd : (es.map En.c).Nodup
section
variable (K : PySem.W.Frag) (ad : Int) (sc : Nat) (st : Sta) (es : List En) (fin : En → Int) (y : V) (X0 : MS) (ce : Int)
def FinE (H : Hp) (X : MS) (e : En) : Prop := cellV X 1 e.c = some (.int (fin e))
def PreE (H : Hp) (X : MS) (e : En) : Prop := (CellIs K H X 1 e.c (Wd.mark ad sc e.o e.n).tr ∧ fin e = if st.done = true then e.n else e.o) ∨ FinE fin H X e
def notesE (X : MS) (l : List En) : List (Nat × Int) := l.map fun e => (e.c - 2, X.lost (e.c - 2) + ((X.tr (e.c - 2)).length : Int) - 1)
def stF (H : Hp) (X : MS) : Stg → Prop
  | .a => X.notes[0]? = some (nkv 1 []) ∧ ∀ e ∈ es, PreE K ad sc st fin H X e
  | .b => X.notes[0]? = some (nkv 1 [(sc - 2, X.lost (sc - 2) + ((X.tr (sc - 2)).length : Int) - 1)]) ∧ ∀ e ∈ es, PreE K ad sc st fin H X e
  | .c k => X.notes[0]? = some (nkv 1 []) ∧ X.tr (sc - 2) = [y] ∧ k ≤ es.length ∧ ∀ j e, es[j]? = some e → (j < k → FinE fin H X e) ∧ (k ≤ j → PreE K ad sc st fin H X e)
  | .d k => X.notes[0]? = some (nkv 1 (notesE X (es.take k))) ∧ X.tr (sc - 2) = [y] ∧ k ≤ es.length ∧ ∀ e ∈ es, FinE fin H X e
  | .e => X.notes[0]? = some (nkv 1 []) ∧ X.tr (sc - 2) = [y] ∧ ∀ e ∈ es, X.tr (e.c - 2) = [.int (fin e)]
structure Cl0 (H : Hp) (X : MS) (sw : List Rq) (many : Nat) : Prop where
  sw : Paired (SwAt H ad sc st) sw es
  c0 : ∀ c, c ∉ es.map En.c → cellV X 1 c = cellV X0 1 c
  n : X.count + (many : Int) = ce
  ps : X.ps.length = 2
def ClI (rs : List Rq) (H : Hp) (X : MS) : Prop := ∃ g sw, rs = todo sc sw es g ∧ Cl0 ad sc st es X0 ce H X sw rs.length ∧ stF K ad sc st es fin y H X g
end
section
variable {K : PySem.W.Frag} {ad : Int} {sc : Nat} {st : Sta} {es : List En} {fin : En → Int} {y : V} {X0 : MS} {ce : Int}
theorem PreE.ext {H H' : Hp} {X : MS} {e : En} (h : PreE K ad sc st fin H X e) (s : ExT H H') : PreE K ad sc st fin H' X e := h.imp (fun ⟨a, b⟩ => ⟨a.ext s, b⟩) id
theorem PreE.eq {H : Hp} {X X' : MS} {e : En} (h : PreE K ad sc st fin H X e) (c : cellV X' 1 e.c = cellV X 1 e.c) : PreE K ad sc st fin H X' e := h.imp (fun ⟨a, b⟩ => ⟨a.eq c, b⟩) fun a => c.trans a
theorem ClI.ext {rs : List Rq} {H H' : Hp} {X : MS} (s : ExT H H') (h : ClI K ad sc st es fin y X0 ce rs H X) : ClI K ad sc st es fin y X0 ce rs H' X := by
  obtain ⟨g, sw, e, c, f⟩ := h
  refine ⟨g, sw, e, ⟨pmono (fun _ _ h => h.ext s) c.sw, c.c0, c.n, c.ps⟩, ?_⟩
  cases g with
  | a => exact ⟨f.1, fun e he => (f.2 e he).ext s⟩
  | b => exact ⟨f.1, fun e he => (f.2 e he).ext s⟩
  | c k => exact ⟨f.1, f.2.1, f.2.2.1, fun j e he => ⟨(f.2.2.2 j e he).1, fun hj => ((f.2.2.2 j e he).2 hj).ext s⟩⟩
  | d k => exact f
  | e => exact f
/-- behind the swaps stand the flushes -/
theorem ClI.norm {r0 : Rq} {rs : List Rq} {H : Hp} {X : MS} (h : ClI K ad sc st es fin y X0 ce (r0 :: rs) H X) : ∃ g sw, r0 :: rs = todo sc sw es g ∧ Cl0 ad sc st es X0 ce H X sw (rs.length + 1) ∧ stF K ad sc st es fin y H X g ∧ ∀ k, g = .c k → k < es.length := by
  obtain ⟨g, sw, e, c, f⟩ := h
  cases g with
  | c k =>
    by_cases hk : k < es.length
    · exact ⟨.c k, sw, e, c, f, fun k' h => by cases h; exact hk⟩
    · obtain ⟨f1, f2, f3, f4⟩ := f
      have hk : k = es.length := by omega
      have hsl := plen c.sw
      refine ⟨.d 0, sw, ?_, c, ⟨f1, f2, Nat.zero_le _, fun e he => ?_⟩, fun k h => by cases h⟩
      · rw [e]
        show sw.drop k ++ es.map fl ++ [.fence] = es.map fl ++ [.fence]
        rw [hk, ← hsl, List.drop_length, List.nil_append]
      · obtain ⟨j, hj⟩ := List.mem_iff_getElem?.mp he
        exact (f4 j e hj).1 (by rw [hk]; exact (List.getElem?_eq_some_iff.mp hj).1)
  | a => exact ⟨_, sw, e, c, f, fun k h => by cases h⟩
  | b => exact ⟨_, sw, e, c, f, fun k h => by cases h⟩
  | d k => exact ⟨_, sw, e, c, f, fun k h => by cases h⟩
  | e => exact ⟨_, sw, e, c, f, fun k h => by cases h⟩
theorem PreE.flat {H : Hp} {X : MS} {e : En} (h : PreE K ad sc st fin H X e) : ∃ p tp, cellV X 1 e.c = some p ∧ Dvl K H p tp := by
  rcases h with ⟨⟨v, h1, h2⟩, _⟩ | h
  · exact ⟨v, _, h1, h2⟩
  · exact ⟨_, _, h, Dvl.int _⟩
theorem ClI.ok (dc : DCl sc es) {r0 : Rq} {rs : List Rq} {H : Hp} {X : MS} (h : ClI K ad sc st es fin y X0 ce (r0 :: rs) H X) : r0.ok 1 4 150 ∧ r0.vals K H ∧ r0.flatAt K H X 1 := by
  obtain ⟨g, sw, e, c, f, hg⟩ := h.norm
  cases g with
  | a => cases e; exact ⟨⟨dc.s.1, dc.s.2⟩, trivial, trivial⟩
  | b => cases e; exact ⟨trivial, trivial, trivial⟩
  | c k =>
    have hk := hg k rfl
    have hsl := plen c.sw
    have hks : k < sw.length := by omega
    have e : r0 :: rs = sw.drop k ++ es.map fl ++ [.fence] := e
    rw [List.drop_eq_getElem_cons hks] at e
    cases e
    obtain ⟨en, hen, mk, er, hmk⟩ := StPget c.sw (List.getElem?_eq_getElem hks)
    rw [er]
    have hm := List.mem_of_getElem? hen
    refine ⟨(dc.e _ hm).2.1, ⟨⟨_, (Wd.nice (.mark ad sc en.o en.n)).dvl (.tup (SqT.of hmk) (.cons (.sc (t := "int") rfl) (.cons (.sc (t := "int") rfl) (.cons (.sc (t := "int") rfl) (.cons (.sc (t := "int") rfl) .nil)))))⟩, _, Dvl.int _⟩, ?_⟩
    exact ((f.2.2.2 k en hen).2 (Nat.le_refl _)).flat
  | d k =>
    have e : r0 :: rs = (es.drop k).map fl ++ [.fence] := e
    by_cases hk : k < es.length
    · rw [List.drop_eq_getElem_cons hk] at e
      cases e
      have := dc.e _ (List.getElem_mem hk)
      exact ⟨⟨this.1, this.2.1⟩, trivial, trivial⟩
    · rw [List.drop_of_length_le (by omega)] at e
      cases e
      exact ⟨trivial, trivial, trivial⟩
  | e => cases e
end
end Dk

set_option maxHeartbeats 4000000
/-! the closing of a deed: one access more -/
namespace Dk
open PySem PySem.Spec PyProof.Rows L2
section
variable {K : PySem.W.Frag} {ad : Int} {sc : Nat} {st : Sta} {es : List En} {fin : En → Int} {y : V} {X0 : MS} {ce : Int}
theorem cl0_of {H : Hp} {X X' : MS} {sw : List Rq} {n : Nat} (c : Cl0 ad sc st es X0 ce H X sw (n + 1)) (h0 : ∀ c, c ∉ es.map En.c → cellV X' 1 c = cellV X 1 c) (hc : X'.count = X.count + 1) (hp : X'.ps.length = X.ps.length) : Cl0 ad sc st es X0 ce H X' sw n :=
  ⟨c.sw, fun i hi => (h0 i hi).trans (c.c0 i hi), by have := c.n; rw [hc]; omega, hp.trans c.ps⟩
theorem notes_set {X : MS} {l m : List (Nat × Int)} (h : X.notes[0]? = some (nkv 1 l)) : (X.notes.set 0 (nkv 1 m))[0]? = some (nkv 1 m) := by
  have := (List.getElem?_eq_some_iff.mp h).1
  rw [List.getElem?_set, if_pos rfl, if_pos this]
theorem ClI.step (dc : DCl sc es) (hst : ∀ H X, Cl0 ad sc st es X0 ce H X [] 0 → True) (hy : cellV X0 1 sc = some y) {r0 : Rq} {rs : List Rq} {H : Hp} {X X' : MS} {v x : V} (uq : Uq K H) (h : ClI K ad sc st es fin y X0 ce (r0 :: rs) H X) (R : Res K (Lg X x) 1 0 H H r0 v X') : ClI K ad sc st es fin y X0 ce rs H X' := by
  obtain ⟨g, sw, e, c, f, hg⟩ := h.norm
  have scn : sc ∉ es.map En.c := fun z => by
    obtain ⟨en, hen, e⟩ := List.mem_map.mp z
    exact (dc.e en hen).2.2 e
  have hsc2 := dc.s.1
  have hyX : (X.tr (sc - 2)).getLast? = some y := by
    rw [← cellV_tr hsc2, c.c0 sc scn, hy]
  cases g with
  | a =>
    cases e
    obtain ⟨f1, f2⟩ := f
    obtain ⟨_, rfl⟩ := res_flushT R f1
    refine ⟨.b, sw, rfl, cl0_of c (fun _ _ => rfl) rfl rfl, ?_, fun e he => (f2 e he).eq rfl⟩
    exact notes_set f1
  | b =>
    cases e
    obtain ⟨f1, f2⟩ := f
    obtain ⟨_, rfl⟩ := res_fenceT R f1
    have hce : ∀ c, cellV (fenceS ((Lg X x).withNotes (X.notes.set 0 [])) [(sc - 2, X.lost (sc - 2) + ((X.tr (sc - 2)).length : Int) - 1)]) 1 c = cellV X 1 c := fun c => fence_cell
    refine ⟨.c 0, sw, rfl, cl0_of c (fun c _ => hce c) (fence_count (l := [_])).1 rfl, ?_, ?_, Nat.zero_le _, fun j e he => ⟨fun h => by omega, fun _ => (f2 e (List.mem_of_getElem? he)).eq (hce _)⟩⟩
    · rw [fence_notes]
      exact notes_set (m := []) f1
    · exact fence_one (S := (Lg X x).withNotes (X.notes.set 0 [])) (by simp) (List.mem_singleton.mpr rfl) hyX
  | c k =>
    have hk := hg k rfl
    have hsl := plen c.sw
    have hks : k < sw.length := by omega
    obtain ⟨f1, f2, f3, f4⟩ := f
    have e : r0 :: rs = sw.drop k ++ es.map fl ++ [.fence] := e
    rw [List.drop_eq_getElem_cons hks] at e
    obtain ⟨e1, e2⟩ := List.cons.inj e
    obtain ⟨en, hen, mk, er, hmk⟩ := StPget c.sw (List.getElem?_eq_getElem hks)
    rw [← e1] at er
    subst er
    have hm := List.mem_of_getElem? hen
    have hc2 := (dc.e _ hm).1
    have dmk : DV K H (.ref mk) (Wd.mark ad sc en.o en.n).tr := .tup (SqT.of hmk) (.cons (.sc (t := "int") rfl) (.cons (.sc (t := "int") rfl) (.cons (.sc (t := "int") rfl) (.cons (.sc (t := "int") rfl) .nil))))
    have other : ∀ j e, es[j]? = some e → j ≠ k → e.c ≠ en.c := fun j e he n z => by
      have h1 : (es.map En.c)[j]? = some e.c := by rw [List.getElem?_map, he]; rfl
      have h2 : (es.map En.c)[k]? = some en.c := by rw [List.getElem?_map, hen]; rfl
      rw [z] at h1
      have hj := (List.getElem?_eq_some_iff.mp h1).1
      exact n ((List.getElem?_inj hj dc.nd).mp (h1.trans h2.symm))
    have fin' : ∀ X', X'.notes = X.notes → X'.tr (sc - 2) = X.tr (sc - 2) → X'.count = X.count + 1 → X'.ps.length = X.ps.length → (∀ c, c ≠ en.c → cellV X' 1 c = cellV X 1 c) → cellV X' 1 en.c = some (.int (fin en)) → ClI K ad sc st es fin y X0 ce rs H X' := fun X' g1 g2 g3 g4 g5 g6 => by
      refine ⟨.c (k + 1), sw, e2, cl0_of c (fun c hc => g5 c fun z => hc (by rw [z]; exact List.mem_map.mpr ⟨_, hm, rfl⟩)) g3 g4, by rw [g1]; exact f1, g2.trans f2, hk, fun j e he => ⟨fun hj => ?_, fun hj => ?_⟩⟩
      · by_cases hjk : j = k
        · subst hjk
          rw [hen] at he
          cases he
          exact g6
        · exact (g5 _ (other j e he hjk)).trans ((f4 j e he).1 (by omega))
      · exact ((f4 j e he).2 (by omega)).eq (g5 _ (other j e he (by omega)))
    rcases (f4 k en hen).2 (Nat.le_refl _) with ⟨⟨p, hp, dp⟩, hf⟩ | hf
    · obtain ⟨_, rfl⟩ := (res_swapT R uq hp dp.d dmk).1 rfl
      refine fin' _ (give_last (S := Lg X x)).2 (give_tr (S := Lg X x) (by have := (dc.e _ hm).2.2; omega)) (give_count (S := Lg X x)).1 ?_ (fun c hc => cellV_give_ne (S := Lg X x) hc) ?_
      · unfold MS.give
        rw [if_neg (by omega)]
        rfl
      · rw [hf]
        exact cellV_give_same (S := Lg X x) (by show X.ps.length = 1 + 1; rw [c.ps])
    · obtain ⟨_, rfl⟩ := (res_swapT R uq hf (.sc (t := "int") rfl) dmk).2 (by intro z; cases z)
      exact fin' _ rfl rfl rfl rfl (fun _ _ => rfl) hf
  | d k =>
    obtain ⟨f1, f2, f3, f4⟩ := f
    have e : r0 :: rs = (es.drop k).map fl ++ [.fence] := e
    have ndj : (es.map fun e => e.c - 2).Nodup := by
      have : es.map (fun e => e.c - 2) = (es.map En.c).map (fun c => c - 2) := by rw [List.map_map]; rfl
      rw [this]
      refine List.pairwise_map.mpr (dc.nd.imp_of_mem fun {a b} ha hb hab z => hab ?_)
      obtain ⟨ea, h1, rfl⟩ := List.mem_map.mp ha
      obtain ⟨eb, h2, rfl⟩ := List.mem_map.mp hb
      have := (dc.e _ h1).1
      have := (dc.e _ h2).1
      omega
    by_cases hk : k < es.length
    · rw [List.drop_eq_getElem_cons hk] at e
      obtain ⟨e1, e2⟩ := List.cons.inj e
      subst e1
      have hm := List.getElem_mem hk
      obtain ⟨_, rfl⟩ := res_flushT R f1
      have hnew : es[k].c - 2 ∉ (notesE X (es.take k)).map (·.1) := fun z => by
        unfold notesE at z
        rw [List.map_map] at z
        obtain ⟨e', he', z⟩ := List.mem_map.mp z
        have z : e'.c - 2 = es[k].c - 2 := z
        obtain ⟨j, hj⟩ := List.mem_iff_getElem?.mp he'
        rw [List.getElem?_take] at hj
        split at hj
        · rename_i hjk
          have h1 : (es.map fun e => e.c - 2)[j]? = some (es[k].c - 2) := by rw [List.getElem?_map, hj, ← z]; rfl
          have h2 : (es.map fun e => e.c - 2)[k]? = some (es[k].c - 2) := by rw [List.getElem?_map, List.getElem?_eq_getElem hk]; rfl
          have := (List.getElem?_inj (List.getElem?_eq_some_iff.mp h1).1 ndj).mp (h1.trans h2.symm)
          omega
        · cases hj
      refine ⟨.d (k + 1), sw, e2, cl0_of c (fun _ _ => rfl) rfl rfl, ?_, f2, hk, f4⟩
      show (X.notes.set 0 (nkv 1 (putN (notesE X (es.take k)) (es[k].c - 2) _)))[0]? = some (nkv 1 (notesE X (es.take (k + 1))))
      rw [putN_new hnew, List.take_succ_eq_append_getElem hk]
      have : notesE X (es.take k ++ [es[k]]) = notesE X (es.take k) ++ [(es[k].c - 2, X.lost (es[k].c - 2) + ((X.tr (es[k].c - 2)).length : Int) - 1)] := by
        unfold notesE
        rw [List.map_append]
        rfl
      rw [this]
      exact notes_set f1
    · rw [List.drop_of_length_le (by omega)] at e
      cases e
      have hkl : k = es.length := by omega
      rw [hkl, List.take_length] at f1
      obtain ⟨_, rfl⟩ := res_fenceT R f1
      have hkeys : (notesE X es).map (·.1) = es.map fun e => e.c - 2 := by
        unfold notesE
        rw [List.map_map]
        rfl
      refine ⟨.e, sw, rfl, cl0_of c (fun c _ => fence_cell) fence_count.1 ?_, ?_, ?_, fun e he => ?_⟩
      · have : ∀ {l : List (Nat × Int)} {S : MS}, (fenceS S l).ps = S.ps := by
          intro l
          induction l with
          | nil => intro S; rfl
          | cons p l ih => intro S; exact ih (S := S.short p.1 (p.2 - S.lost p.1))
        rw [this]
        rfl
      · rw [fence_notes]
        exact notes_set (m := []) f1
      · refine ((fence_off (S := (Lg X x).withNotes (X.notes.set 0 [])) fun z => ?_).1).trans f2
        rw [hkeys] at z
        obtain ⟨e', he', z⟩ := List.mem_map.mp z
        have := dc.e e' he'
        have z : e'.c - 2 = sc - 2 := z
        omega
      · have hF : cellV X 1 e.c = some (.int (fin e)) := f4 e he
        rw [cellV_tr (dc.e e he).1] at hF
        exact fence_one (S := (Lg X x).withNotes (X.notes.set 0 [])) (by rw [hkeys]; exact ndj) (List.mem_map.mpr ⟨e, he, rfl⟩) hF
  | e => cases e
end
end Dk

set_option maxHeartbeats 8000000
/-! a deed from its decision to its end -/
namespace Dk
open PySem PySem.Spec PyProof.Rows L2
/-- the cells of a deed on its way: m entries are set -/
structure DcI (K : PySem.W.Frag) (ad : Int) (sc : Nat) (es : List En) (u : En → Int) (Xs : MS) (m : Nat) (H : Hp) (X : MS) : Prop where
  st0 : cellV X 1 sc = some (.int 0)
  ent : ∀ j e, es[j]? = some e → (j < m → CellIs K H X 1 e.c (Wd.mark ad sc e.o e.n).tr) ∧ (m ≤ j → cellV X 1 e.c = some (.int (u e)))
  c0 : ∀ c, c ≠ sc → c ∉ es.map En.c → cellV X 1 c = cellV Xs 1 c
  no : X.notes[0]? = some (nkv 1 [])
  ps : X.ps.length = 2
theorem DcI.ext {K : PySem.W.Frag} {ad : Int} {sc : Nat} {es : List En} {u : En → Int} {Xs : MS} {m : Nat} {H H' : Hp} {X : MS} (h : DcI K ad sc es u Xs m H X) (s : ExT H H') : DcI K ad sc es u Xs m H' X :=
  ⟨h.st0, fun j e he => ⟨fun hj => ((h.ent j e he).1 hj).ext s, (h.ent j e he).2⟩, h.c0, h.no, h.ps⟩
/-- the end of a deed -/
structure DEnd (sc : Nat) (es : List En) (u : En → Int) (Xs X' : MS) (m : Nat) (y : V) (n : Int) : Prop where
  s : X'.tr (sc - 2) = [y]
  e : ∀ e ∈ es, X'.tr (e.c - 2) = [.int (if m = es.length then e.n else u e)]
  c0 : ∀ c, c ≠ sc → c ∉ es.map En.c → cellV X' 1 c = cellV Xs 1 c
  no : X'.notes[0]? = some (nkv 1 [])
  n : X'.count = n
abbrev zOf (m l : Nat) : Str := if m = l then "done" else "failed"
section
variable {P : Program} {W : World} {K : PySem.W.Frag} {mg : Str → Option Value} {base : Heap} {C M CD fa g gs gw gc : Addr} {mm : Addr} {a dx : Addr} {Qg : QG} {ad : Nat} {sc : Nat} {es : List En} {u : En → Int} {Xs : MS} {m : Nat}
theorem dec_go {H : Hp} {B : Nat} {A : Adr} {X : MS} {Z : Addr → Prop} {q l qm qe p1 : Addr} (mc : MCl P W K mg base CD fa) (fi : PySem.W.fnIn K gs = true) (FT : FnR P W K mg base CX0 5 gs (spDStat K CD gw gs gc)) (fic : PySem.W.fnIn K gc = true) (FC : FnR P W K mg base CX0 5 gc (spDClose CD)) (dc : DCl sc es) (hl : es.length < 100) (hm : m ≤ es.length) (hmu : ∀ j e, es[j]? = some e → j < m → u e = e.o)
    (A0 : Addr) (H0 : Hp) (Z0 : Addr → Prop)
    (s : MSt C M CD H mm 1 4 150 B A X Z a dx q l (.ref qm) [.ref p1] (dorest ad sc (.ref qe) m .non)) (hq : H q = some (.tup (Rq.decide sc (zOf m es.length)).vs)) (hp1 : RqAt H p1 (.read sc)) (hqm : H qm = some (.met gs a)) (hes : EnsAt K H qe es) (I : DcI K ad sc es u Xs m H X) (ea : A.a = A0) (hz : Zst Z0 H0 Z H)
    (fin : ∀ (H2 : Hp) (A' : Adr) (X' : MS) (B' : Nat) (Z' : Addr → Prop) (y : Addr), A'.a = A0 → H2 y = some (.tup [.str (zOf m es.length), .int (X.count + 1)]) → DEnd sc es u Xs X' m (.ref y) (X.count + 2 + (2 * es.length + 3)) → MemAt C M H2 mm 1 4 150 A' X' → SOk X' 1 155 B' → (∀ b, Foot mm A' 155 b → Z' b) → ¬ Z' A'.a → Zst Z0 H0 Z' H2 → Qg (.ref y) H2 A' X' B' Z') :
    Go P W K mg base 7 C M a CD dx mm 1 4 150 0 Qg (2 * es.length + 3 + 2) H A X B Z := by
  have hsc := dc.s
  refine go_pop2 (rq := .decide sc (zOf m es.length)) s mc dors hq hsc.2 trivial ⟨_, _, I.st0, Dvl.int 0⟩ fun v x A1 X1 H1 H2 Z2 R s2 z2 zz ea1 x1 x2 uq kp => ?_
  have I1 := I.ext x1
  obtain ⟨_, y, hy, rfl⟩ := (res_decT R uq I.st0 (.sc (t := "int") rfl)).1 rfl
  have x12 := x1.trans x2
  have hqm2 := (kp _ _ hqm (ne_of hqm s.D.ob (by intro z; cases z)) (ne_of hqm s.D.lf (by intro z; cases z)) (met_out s.DM hqm)).1
  have hy2 := x2.1 _ _ hy
  generalize hX1 : (Lg X x).give 1 sc (.ref y) = X1 at R s2
  have scn : sc ∉ es.map En.c := fun z => by
    obtain ⟨en, hen, e⟩ := List.mem_map.mp z
    exact (dc.e en hen).2.2 e
  have c1 : ∀ c, c ≠ sc → cellV X1 1 c = cellV X 1 c := fun c hc => by rw [← hX1]; exact cellV_give_ne (S := Lg X x) hc
  have cs : cellV X1 1 sc = some (.ref y) := by rw [← hX1]; exact cellV_give_same (S := Lg X x) (by show X.ps.length = 1 + 1; rw [I.ps])
  have n1 : X1.notes[0]? = some (nkv 1 []) := by rw [← hX1, (give_last (S := Lg X x)).2]; exact I.no
  have k1 : X1.count = X.count + 1 := by rw [← hX1]; exact (give_count (S := Lg X x)).1
  have p1' : X1.ps.length = 2 := by
    rw [← hX1]
    unfold MS.give
    rw [if_neg (by omega)]
    exact I.ps
  refine go_then (rq := .read sc) s2 mc dors (x12.1 _ _ hp1) hsc.2 trivial trivial hqm2 fi FT fun v3 x3 p3 A3 X3 H3 ea3 R3 hp3 so3 D3 st3 M3 uq3 Q' hQ' => ?_
  obtain ⟨rfl, rfl⟩ := res_readT R3 cs
  have x3' := st3.ext s2.DM
  have hy3 := x3'.1 _ _ hy2
  have x13 := x12.trans x3'
  have hzn : (Sta.tup (zOf m es.length) (X.count + 1)).ok := by
    show zOf m es.length = "done" ∨ zOf m es.length = "failed"
    unfold zOf
    split
    · exact .inl rfl
    · exact .inr rfl
  refine ⟨a, dx, p3, l, qe, _, _, [], ad, _, m, sc, .non, .ref y, .tup (zOf m es.length) (X.count + 1), es, rfl, M3, hp3, .tup (SqT.of hy3) (.cons (.sc (t := "str") rfl) (.cons (.sc (t := "int") rfl) .nil)), hzn, hes.ext x13, hl, hm, (fun z => by cases z), fun _ H4 q4 l4 qm4 ps sw hA hsw => ?_⟩
  obtain ⟨s4, z4⟩ := s2.next st3 ea3 D3 so3 (fun b => b = a) (fun b => b = l4) (fun b o q n => hA.kp b o q n) (fun b y => y ▸ s2.za) (fun b y => y ▸ (s2.acc st3).2.1) (fun b y => y ▸ hA.nl) hA.m (.inr rfl)
  refine hQ' H4 _ z4 (.inl ?_)
  have x34 := hA.kp.extI M3.ob
  have x14 := x13.trans x34
  have hcl : (closing sc sw es).length = 2 * es.length + 2 := by
    have := plen hsw
    unfold closing
    simp only [List.length_cons, List.length_append, List.length_map, List.length_nil]
    omega
  have hI0 : ClI K ad sc (.tup (zOf m es.length) (X.count + 1)) es (fun e => if m = es.length then e.n else u e) (.ref y) X1 (X.count + 2 + (2 * es.length + 3)) (.flush sc :: closing sc sw es) H4 (Lg X1 x3) := by
    refine ⟨.a, sw, rfl, ⟨hsw, fun c hc => rfl, ?_, p1'⟩, n1, fun e he => ?_⟩
    · show X1.count + 1 + (((closing sc sw es).length + 1 : Nat) : Int) = _
      rw [hcl, k1]
      omega
    · obtain ⟨j, hj⟩ := List.mem_iff_getElem?.mp he
      have hne := (dc.e e he).2.2
      by_cases hjm : j < m
      · refine .inl ⟨(((I.ent j e hj).1 hjm).ext x14).eq (c1 _ hne), ?_⟩
        have := hmu j e hj hjm
        show (if m = es.length then e.n else u e) = if decide (zOf m es.length = "done") = true then e.n else e.o
        unfold zOf
        by_cases hml : m = es.length
        · rw [if_pos hml, if_pos hml]; rfl
        · rw [if_neg hml, if_neg hml, this]; rfl
      · have hjl := (List.getElem?_eq_some_iff.mp hj).1
        refine .inr ?_
        show cellV X1 1 e.c = some (.int (if m = es.length then e.n else u e))
        rw [c1 _ hne, (I.ent j e hj).2 (by omega), if_neg (by omega)]
  have key := go_all (K := K) (C := C) (M := M) (CE := CD) (m := mm) (t := 1) (w := 4) (r := 150) (th0 := 0) (a := a) (dx := dx) (ad := ad) (sc := sc) (n := m) (es := .ref qe) (y := .ref y) (Qg := Qg) mc fic (fun _ _ _ => FC)
    (fun rs H X' => ClI K ad sc (.tup (zOf m es.length) (X.count + 1)) es (fun e => if m = es.length then e.n else u e) (.ref y) X1 (X.count + 2 + (2 * es.length + 3)) rs H X' ∧ H y = some (.tup [.str (zOf m es.length), .int (X.count + 1)]))
    (fun rs H H' X s h => ⟨h.1.ext s, s.1 _ _ h.2⟩) (fun r0 rs H X h => h.1.ok dc) (fun r0 rs H X v x X' uq h R => ⟨h.1.step dc (fun _ _ _ => trivial) cs uq R, h.2⟩) ⟨sc, rfl⟩ A0 H0 Z0
    (fun H2' A' X' B' Z' e1 hI D' so' zf' zl' zs' => by
      obtain ⟨⟨g, sw', eg, c, f⟩, hy'⟩ := hI
      have hge : g = .e := by
        cases g with
        | a => cases eg
        | b => cases eg
        | c k => exact absurd eg (by unfold todo; simp)
        | d k => exact absurd eg (by unfold todo; simp)
        | e => rfl
      subst hge
      obtain ⟨f1, f2, f3⟩ := f
      exact fin H2' A' X' B' Z' y e1 hy' ⟨f2, f3, fun c0 h1 h2 => (c.c0 c0 h2).trans ((c1 c0 h1).trans (I.c0 c0 h1 h2)), f1, by have := c.n; simpa using this⟩ D' so' zf' zl' zs')
  have := key (closing sc sw es) (.flush sc) ps s4 hA.q hA.ps hA.g ⟨hI0, x34.1 _ _ hy3⟩ (ea3.trans (ea1.trans ea)) ((hz.trans z2).trans z4)
  rw [hcl] at this
  exact this
end
end Dk

set_option maxHeartbeats 8000000
/-! a deed: its words -/
namespace Dk
open PySem PySem.Spec PyProof.Rows L2
/-- accesses from word n to the decision; to the end -/
def toDec (m l n : Nat) : Nat := 2 * (m - n) + (if m = l then 0 else 1)
section
variable {P : Program} {W : World} {K : PySem.W.Frag} {mg : Str → Option Value} {base : Heap} {C M CD fa g gs gw gc gsw : Addr} {mm : Addr} {a dx : Addr} {Qg : QG} {ad : Nat} {sc : Nat} {es : List En} {u : En → Int} {Xs : MS} {m : Nat}
theorem word_go {qe : Addr} (mc : MCl P W K mg base CD fa) (fi : PySem.W.fnIn K gs = true) (FT : FnR P W K mg base CX0 5 gs (spDStat K CD gw gs gc)) (fic : PySem.W.fnIn K gc = true) (FC : FnR P W K mg base CX0 5 gc (spDClose CD)) (fiw : PySem.W.fnIn K gw = true) (FW : FnR P W K mg base CX0 5 gw (spDWord K CD gsw gs)) (fis : PySem.W.fnIn K gsw = true) (FS : FnR P W K mg base CX0 5 gsw (spDSwap K CD gw gs))
    (dc : DCl sc es) (hl : es.length < 100) (hm : m ≤ es.length) (hmu : ∀ j e, es[j]? = some e → j < m → u e = e.o) (hmn : ∀ e, es[m]? = some e → u e ≠ e.o) (A0 : Addr) (H0 : Hp) (Z0 : Addr → Prop) (c0 : Int) (base0 : Int)
    (fin : ∀ (H2 : Hp) (A' : Adr) (X' : MS) (B' : Nat) (Z' : Addr → Prop) (y : Addr), A'.a = A0 → H2 y = some (.tup [.str (zOf m es.length), .int (c0 + 1)]) → DEnd sc es u Xs X' m (.ref y) (c0 + 2 + (2 * es.length + 3)) → MemAt C M H2 mm 1 4 150 A' X' → SOk X' 1 155 B' → (∀ b, Foot mm A' 155 b → Z' b) → ¬ Z' A'.a → Zst Z0 H0 Z' H2 → Qg (.ref y) H2 A' X' B' Z') :
    ∀ (k n : Nat), n + k = m → ∀ (e : En), es[n]? = some e → ∀ {H : Hp} {B : Nat} {A : Adr} {X : MS} {Z : Addr → Prop} {q l qm : Addr}, MSt C M CD H mm 1 4 150 B A X Z a dx q l (.ref qm) [] (dorest ad sc (.ref qe) n .non) → H q = some (.tup (Rq.read e.c).vs) → H qm = some (.met gw a) → EnsAt K H qe es → DcI K ad sc es u Xs n H X → X.count + (toDec m es.length n : Int) = c0 → A.a = A0 → Zst Z0 H0 Z H →
      Go P W K mg base 7 C M a CD dx mm 1 4 150 0 Qg (2 * es.length + 3 + 2 + toDec m es.length n) H A X B Z := by
  intro k
  induction k with
  | zero =>
    intro n hn e he H B A X Z q l qm s hq hqm hes I hc ea hz
    have hn : n = m := by omega
    subst hn
    have hml : n ≠ es.length := by have := (List.getElem?_eq_some_iff.mp he).1; omega
    have hed := dc.e e (List.mem_of_getElem? he)
    have htd : toDec n es.length n = 1 := by unfold toDec; rw [if_neg hml]; omega
    rw [htd] at hc ⊢
    have hv := (I.ent n e he).2 (Nat.le_refl _)
    refine go_then (rq := .read e.c) s mc dors hq hed.2.1 trivial trivial hqm fiw FW fun v x p A1 X1 H1 ea1 R hp so1 D1 st1 M1 uq Q' hQ' => ?_
    obtain ⟨rfl, rfl⟩ := res_readT R hv
    have x1 := st1.ext s.DM
    refine ⟨a, dx, p, l, qe, _, _, [], ad, u e, _, n, sc, .non, es, e, rfl, M1, hp, hes.ext x1, he, fun z => absurd z (hmn e he), fun _ H2 q2 l2 qm2 p2 hA => ?_⟩
    obtain ⟨s2, z2⟩ := s.next st1 ea1 D1 so1 (fun b => b = a) (fun b => b = l2) (fun b o q n => hA.kp b o q n) (fun b y => y ▸ s.za) (fun b y => y ▸ (s.acc st1).2.1) (fun b y => y ▸ hA.nl) hA.m (.inr rfl)
    refine hQ' H2 _ z2 (.inl ?_)
    have x12 := x1.trans (hA.kp.extI M1.ob)
    have hpa : RqAt H2 p2 (.read sc) := by cases hA.ps with | cons h _ => exact h
    have I2 : DcI K ad sc es u Xs n H2 (Lg X x) := ⟨I.st0, fun j e he => ⟨fun hj => ((I.ent j e he).1 hj).ext x12, (I.ent j e he).2⟩, I.c0, I.no, I.ps⟩
    refine dec_go mc fi FT fic FC dc hl hm hmu A0 H0 Z0 s2 ?_ hpa hA.g (hes.ext x12) I2 (ea1.trans ea) (hz.trans z2) ?_
    · rw [show zOf n es.length = "failed" from if_neg hml]
      exact hA.q
    · have hcc : (Lg X x).count = c0 := by show X.count + 1 = c0; omega
      rw [hcc]
      exact fin
  | succ k ih =>
    intro n hn e he H B A X Z q l qm s hq hqm hes I hc ea hz
    have hnl := (List.getElem?_eq_some_iff.mp he).1
    have hed := dc.e e (List.mem_of_getElem? he)
    have hue : u e = e.o := hmu n e he (by omega)
    have hv := (I.ent n e he).2 (Nat.le_refl _)
    have htd : toDec m es.length n = toDec m es.length (n + 1) + 2 := by unfold toDec; omega
    rw [htd] at hc ⊢
    refine go_then (rq := .read e.c) s mc dors hq hed.2.1 trivial trivial hqm fiw FW fun v x p A1 X1 H1 ea1 R hp so1 D1 st1 M1 uq Q' hQ' => ?_
    obtain ⟨rfl, rfl⟩ := res_readT R hv
    have x1 := st1.ext s.DM
    refine ⟨a, dx, p, l, qe, _, _, [], ad, u e, _, n, sc, .non, es, e, rfl, M1, hp, hes.ext x1, he, fun _ H2 q2 l2 qm2 mk hmk hA => ?_, fun z => absurd hue z⟩
    obtain ⟨s2, z2⟩ := s.next st1 ea1 D1 so1 (fun b => b = a) (fun b => b = l2) (fun b o q n => hA.kp b o q n) (fun b y => y ▸ s.za) (fun b y => y ▸ (s.acc st1).2.1) (fun b y => y ▸ hA.nl) hA.m (.inr rfl)
    refine hQ' H2 _ z2 (.inl ?_)
    have x12 := x1.trans (hA.kp.extI M1.ob)
    have dmk : DV K H2 (.ref mk) (Wd.mark ad sc e.o e.n).tr := .tup (SqT.of hmk) (.cons (.sc (t := "int") rfl) (.cons (.sc (t := "int") rfl) (.cons (.sc (t := "int") rfl) (.cons (.sc (t := "int") rfl) .nil))))
    refine go_then (rq := .swap e.c (.int (u e)) (.ref mk)) s2 mc dors hA.q hed.2.1 ⟨⟨_, Dvl.int _⟩, _, (Wd.nice (.mark ad sc e.o e.n)).dvl dmk⟩ ⟨_, _, hv, Dvl.int _⟩ hA.g fis FS fun v3 x3 p3 A3 X3 H3 ea3 R3 hp3 so3 D3 st3 M3 uq3 Q3 hQ3 => ?_
    obtain ⟨rfl, rfl⟩ := (res_swapT R3 uq3 hv (.sc (t := "int") rfl) (.sc (t := "int") rfl)).1 rfl
    have x3' := st3.ext s2.DM
    have x13 := x12.trans x3'
    have ps2 : (Lg (Lg X x) x3).ps.length = 1 + 1 := by show X.ps.length = 1 + 1; rw [I.ps]
    have cother : ∀ c, c ≠ e.c → cellV ((Lg (Lg X x) x3).give 1 e.c (.ref mk)) 1 c = cellV X 1 c := fun c hc => cellV_give_ne (S := Lg (Lg X x) x3) hc
    have hmark : ∀ H', ExT H3 H' → CellIs K H' ((Lg (Lg X x) x3).give 1 e.c (.ref mk)) 1 e.c (Wd.mark ad sc e.o e.n).tr := fun H' s => ⟨_, cellV_give_same (S := Lg (Lg X x) x3) ps2, (Wd.nice (.mark ad sc e.o e.n)).dvl (DV.extT (x3'.trans s) _ _ dmk)⟩
    have hne : ∀ j e', es[j]? = some e' → j ≠ n → e'.c ≠ e.c := fun j e' he' hj z => by
      have h1 : (es.map En.c)[j]? = some e'.c := by rw [List.getElem?_map, he']; rfl
      have h2 : (es.map En.c)[n]? = some e.c := by rw [List.getElem?_map, he]; rfl
      rw [z] at h1
      exact hj ((List.getElem?_inj (List.getElem?_eq_some_iff.mp h1).1 dc.nd).mp (h1.trans h2.symm))
    have I3 : ∀ H', ExT H3 H' → DcI K ad sc es u Xs (n + 1) H' ((Lg (Lg X x) x3).give 1 e.c (.ref mk)) := fun H' sx => by
      refine ⟨(cother sc (Ne.symm hed.2.2)).trans I.st0, fun j e' he' => ⟨fun hj => ?_, fun hj => ?_⟩, fun c h1 h2 => (cother c fun z => h2 (by rw [z]; exact List.mem_map.mpr ⟨_, List.mem_of_getElem? he, rfl⟩)).trans (I.c0 c h1 h2), ?_, ?_⟩
      · by_cases hjn : j = n
        · subst hjn
          rw [he] at he'
          cases he'
          exact hmark H' sx
        · exact (((I.ent j e' he').1 (by omega)).ext (x13.trans sx)).eq (cother _ (hne j e' he' hjn))
      · exact (cother _ (hne j e' he' (by omega))).trans ((I.ent j e' he').2 (by omega))
      · rw [(give_last (S := Lg (Lg X x) x3)).2]
        exact I.no
      · unfold MS.give
        rw [if_neg (by omega)]
        exact I.ps
    have hcnt : ((Lg (Lg X x) x3).give 1 e.c (.ref mk)).count = X.count + 2 := by
      rw [(give_count (S := Lg (Lg X x) x3)).1]
      show X.count + 1 + 1 = _
      omega
    refine ⟨a, dx, p3, l2, qe, _, _, [], ad, _, n, sc, .non, es, rfl, M3, hp3, hes.ext x13, hnl, ⟨fun e' he' H4 q4 l4 qm4 hA4 => ?_, fun hn' H4 q4 l4 qm4 p4 hA4 => ?_⟩⟩
    · obtain ⟨s4, z4⟩ := s2.next st3 ea3 D3 so3 (fun b => b = a) (fun b => b = l4) (fun b o q n => hA4.kp b o q n) (fun b y => y ▸ s2.za) (fun b y => y ▸ (s2.acc st3).2.1) (fun b y => y ▸ hA4.nl) hA4.m (.inr rfl)
      refine hQ3 H4 _ z4 (.inl ?_)
      have x34 := hA4.kp.extI M3.ob
      exact ih (n + 1) (by omega) e' he' s4 hA4.q hA4.g (hes.ext (x13.trans x34)) (I3 H4 x34) (by rw [hcnt]; omega) (ea3.trans (ea1.trans ea)) ((hz.trans z2).trans z4)
    · obtain ⟨s4, z4⟩ := s2.next st3 ea3 D3 so3 (fun b => b = a) (fun b => b = l4) (fun b o q n => hA4.kp b o q n) (fun b y => y ▸ s2.za) (fun b y => y ▸ (s2.acc st3).2.1) (fun b y => y ▸ hA4.nl) hA4.m (.inr rfl)
      refine hQ3 H4 _ z4 (.inl ?_)
      have x34 := hA4.kp.extI M3.ob
      have hml : m = es.length := by omega
      have hmn1 : m = n + 1 := by omega
      have htd0 : toDec m es.length (n + 1) = 0 := by unfold toDec; rw [if_pos hml]; omega
      rw [htd0]
      have hpa : RqAt H4 p4 (.read sc) := by cases hA4.ps with | cons h _ => exact h
      have s4' := s4
      rw [← hmn1] at s4'
      have I4 := I3 H4 x34
      rw [← hmn1] at I4
      refine dec_go mc fi FT fic FC dc hl hm hmu A0 H0 Z0 s4' ?_ hpa hA4.g (hes.ext (x13.trans x34)) I4 (ea3.trans (ea1.trans ea)) ((hz.trans z2).trans z4) ?_
      · rw [show zOf m es.length = "done" from if_pos hml]
        exact hA4.q
      · have hcc : ((Lg (Lg X x) x3).give 1 e.c (.ref mk)).count = c0 := by rw [hcnt]; rw [htd0] at hc; omega
        rw [hcc]
        exact fin
end
end Dk

set_option maxHeartbeats 8000000
/-! a deed from its first access -/
namespace Dk
open PySem PySem.Spec PyProof.Rows L2
section
variable {P : Program} {W : World} {K : PySem.W.Frag} {mg : Str → Option Value} {base : Heap} {C M CD fa g gs gw gc gsw gd : Addr} {mm : Addr} {a dx : Addr} {Qg : QG} {ad : Nat} {sc : Nat} {es : List En} {u : En → Int} {m : Nat}
/-- the whole of a deed that nobody has touched -/
theorem start_go {qe dd : Addr} {es0 y1 y2 y3 : V} (mc : MCl P W K mg base CD fa) (fid : PySem.W.fnIn K gd = true) (FD : FnR P W K mg base CX0 5 gd (spDDeed K CD gs)) (fi : PySem.W.fnIn K gs = true) (FT : FnR P W K mg base CX0 5 gs (spDStat K CD gw gs gc)) (fic : PySem.W.fnIn K gc = true) (FC : FnR P W K mg base CX0 5 gc (spDClose CD)) (fiw : PySem.W.fnIn K gw = true) (FW : FnR P W K mg base CX0 5 gw (spDWord K CD gsw gs)) (fis : PySem.W.fnIn K gsw = true) (FS : FnR P W K mg base CX0 5 gsw (spDSwap K CD gw gs))
    (dc : DCl sc es) (had : ad < 157) (hl : es.length < 100) (hl0 : 0 < es.length) (hm : m ≤ es.length) (hmu : ∀ j e, es[j]? = some e → j < m → u e = e.o) (hmn : ∀ e, es[m]? = some e → u e ≠ e.o)
    {H : Hp} {B : Nat} {A : Adr} {X : MS} {Z : Addr → Prop} {q l qm : Addr} (s : MSt C M CD H mm 1 4 150 B A X Z a dx q l (.ref qm) [] (dorest ad 0 es0 0 .non)) (hq : H q = some (.tup (Rq.read ad).vs)) (hqm : H qm = some (.met gd a))
    (hcd : cellV X 1 ad = some (.ref dd)) (hdd : SqT K H dd [.str "deed", .int (sc : Int), .ref qe, y1, y2, y3]) (hes : EnsAt K H qe es) (hs0 : cellV X 1 sc = some (.int 0)) (hu : ∀ e ∈ es, cellV X 1 e.c = some (.int (u e))) (hno : X.notes[0]? = some (nkv 1 [])) (hps : X.ps.length = 2)
    (fin : ∀ (H2 : Hp) (A' : Adr) (X' : MS) (B' : Nat) (Z' : Addr → Prop) (y : Addr), A'.a = A.a → H2 y = some (.tup [.str (zOf m es.length), .int (X.count + 2 + toDec m es.length 0 + 1)]) → DEnd sc es u X X' m (.ref y) (X.count + 2 + toDec m es.length 0 + 2 + (2 * es.length + 3)) → MemAt C M H2 mm 1 4 150 A' X' → SOk X' 1 155 B' → (∀ b, Foot mm A' 155 b → Z' b) → ¬ Z' A'.a → Zst Z H Z' H2 → Qg (.ref y) H2 A' X' B' Z') :
    Go P W K mg base 7 C M a CD dx mm 1 4 150 0 Qg (2 * es.length + 3 + 2 + toDec m es.length 0 + 2) H A X B Z := by
  have hsc := dc.s
  refine go_then (rq := .read ad) s mc dors hq had trivial trivial hqm fid FD fun v x p A1 X1 H1 ea1 R hp so1 D1 st1 M1 uq Q' hQ' => ?_
  obtain ⟨rfl, rfl⟩ := res_readT R hcd
  have x1 := st1.ext s.DM
  refine ⟨a, dx, p, l, dd, qe, _, _, [], ad, 0, _, sc, es0, .non, y1, y2, y3, 0, rfl, M1, hp, hdd.extT x1, fun H2 q2 l2 qm2 hA => ?_⟩
  obtain ⟨s2, z2⟩ := s.next st1 ea1 D1 so1 (fun b => b = a) (fun b => b = l2) (fun b o q n => hA.kp b o q n) (fun b y => y ▸ s.za) (fun b y => y ▸ (s.acc st1).2.1) (fun b y => y ▸ hA.nl) hA.m (.inr rfl)
  refine hQ' H2 _ z2 (.inl ?_)
  have x12 := x1.trans (hA.kp.extI M1.ob)
  refine go_then (rq := .read sc) s2 mc dors hA.q hsc.2 trivial trivial hA.g fi FT fun v3 x3 p3 A3 X3 H3 ea3 R3 hp3 so3 D3 st3 M3 uq3 Q3 hQ3 => ?_
  obtain ⟨rfl, rfl⟩ := res_readT R3 hs0
  have x3' := st3.ext s2.DM
  have x13 := x12.trans x3'
  refine ⟨a, dx, p3, l2, qe, _, _, [], ad, _, 0, sc, .non, .int 0, .zero, es, rfl, M3, hp3, .sc (t := "int") rfl, trivial, hes.ext x13, hl, Nat.zero_le _, fun _ => ⟨fun e he H4 q4 l4 qm4 hA4 => ?_, fun hn => absurd hn (by omega)⟩, fun z => absurd rfl z⟩
  obtain ⟨s4, z4⟩ := s2.next st3 ea3 D3 so3 (fun b => b = a) (fun b => b = l4) (fun b o q n => hA4.kp b o q n) (fun b y => y ▸ s2.za) (fun b y => y ▸ (s2.acc st3).2.1) (fun b y => y ▸ hA4.nl) hA4.m (.inr rfl)
  refine hQ3 H4 _ z4 (.inl ?_)
  have x14 := x13.trans (hA4.kp.extI M3.ob)
  refine word_go (Xs := X) mc fi FT fic FC fiw FW fis FS dc hl hm hmu hmn A.a H Z (X.count + 2 + toDec m es.length 0) 0 fin m 0 (by omega) e he s4 hA4.q hA4.g (hes.ext x14) ⟨hs0, fun j e' he' => ⟨fun h => by omega, fun _ => hu e' (List.mem_of_getElem? he')⟩, fun _ _ _ => rfl, hno, hps⟩ ?_ (ea3.trans ea1) (z2.trans z4)
  show X.count + 1 + 1 + (toDec m es.length 0 : Int) = _
  omega
end
end Dk

set_option maxHeartbeats 8000000
/-! a deed that is decided, once more -/
namespace Dk
open PySem PySem.Spec PyProof.Rows L2
structure DEnd2 (sc : Nat) (es : List En) (u : En → Int) (Xs X' : MS) (y : V) (n : Int) : Prop where
  s : X'.tr (sc - 2) = [y]
  e : ∀ e ∈ es, X'.tr (e.c - 2) = [.int (u e)]
  c0 : ∀ c, c ∉ es.map En.c → cellV X' 1 c = cellV Xs 1 c
  no : X'.notes[0]? = some (nkv 1 [])
  n : X'.count = n
section
variable {P : Program} {W : World} {K : PySem.W.Frag} {mg : Str → Option Value} {base : Heap} {C M CD fa g gs gw gc gsw gd : Addr} {mm : Addr} {a dx : Addr} {Qg : QG} {ad : Nat} {sc : Nat} {es : List En} {u : En → Int} {st : Sta}
theorem again_go {qe dd y : Addr} {es0 y1 y2 y3 : V} (mc : MCl P W K mg base CD fa) (fid : PySem.W.fnIn K gd = true) (FD : FnR P W K mg base CX0 5 gd (spDDeed K CD gs)) (fi : PySem.W.fnIn K gs = true) (FT : FnR P W K mg base CX0 5 gs (spDStat K CD gw gs gc)) (fic : PySem.W.fnIn K gc = true) (FC : FnR P W K mg base CX0 5 gc (spDClose CD))
    (dc : DCl sc es) (had : ad < 157) (hl : es.length < 100) (hst : st.ok) (hnz : st ≠ .zero)
    {H : Hp} {B : Nat} {A : Adr} {X : MS} {Z : Addr → Prop} {q l qm : Addr} (s : MSt C M CD H mm 1 4 150 B A X Z a dx q l (.ref qm) [] (dorest ad 0 es0 0 .non)) (hq : H q = some (.tup (Rq.read ad).vs)) (hqm : H qm = some (.met gd a))
    (hcd : cellV X 1 ad = some (.ref dd)) (hdd : SqT K H dd [.str "deed", .int (sc : Int), .ref qe, y1, y2, y3]) (hes : EnsAt K H qe es) {xs : List V} (hs0 : cellV X 1 sc = some (.ref y)) (hy : H y = some (.tup xs)) (dst : DV K H (.ref y) st.tr) (hu : ∀ e ∈ es, cellV X 1 e.c = some (.int (u e))) (hno : X.notes[0]? = some (nkv 1 [])) (hps : X.ps.length = 2)
    (fin : ∀ (H2 : Hp) (A' : Adr) (X' : MS) (B' : Nat) (Z' : Addr → Prop), A'.a = A.a → H2 y = some (.tup xs) → DEnd2 sc es u X X' (.ref y) (X.count + 2 + (2 * es.length + 3)) → MemAt C M H2 mm 1 4 150 A' X' → SOk X' 1 155 B' → (∀ b, Foot mm A' 155 b → Z' b) → ¬ Z' A'.a → Zst Z H Z' H2 → Qg (.ref y) H2 A' X' B' Z') :
    Go P W K mg base 7 C M a CD dx mm 1 4 150 0 Qg (2 * es.length + 3 + 2) H A X B Z := by
  have hsc := dc.s
  refine go_then (rq := .read ad) s mc dors hq had trivial trivial hqm fid FD fun v x p A1 X1 H1 ea1 R hp so1 D1 st1 M1 uq Q' hQ' => ?_
  obtain ⟨rfl, rfl⟩ := res_readT R hcd
  have x1 := st1.ext s.DM
  refine ⟨a, dx, p, l, dd, qe, _, _, [], ad, 0, _, sc, es0, .non, y1, y2, y3, 0, rfl, M1, hp, hdd.extT x1, fun H2 q2 l2 qm2 hA => ?_⟩
  obtain ⟨s2, z2⟩ := s.next st1 ea1 D1 so1 (fun b => b = a) (fun b => b = l2) (fun b o q n => hA.kp b o q n) (fun b y => y ▸ s.za) (fun b y => y ▸ (s.acc st1).2.1) (fun b y => y ▸ hA.nl) hA.m (.inr rfl)
  refine hQ' H2 _ z2 (.inl ?_)
  have x12 := x1.trans (hA.kp.extI M1.ob)
  refine go_then (rq := .read sc) s2 mc dors hA.q hsc.2 trivial trivial hA.g fi FT fun v3 x3 p3 A3 X3 H3 ea3 R3 hp3 so3 D3 st3 M3 uq3 Q3 hQ3 => ?_
  obtain ⟨rfl, rfl⟩ := res_readT R3 hs0
  have x3' := st3.ext s2.DM
  have x13 := x12.trans x3'
  refine ⟨a, dx, p3, l2, qe, _, _, [], ad, _, 0, sc, .non, .ref y, st, es, rfl, M3, hp3, DV.extT x13 _ _ dst, hst, hes.ext x13, hl, Nat.zero_le _, fun z => absurd z hnz, fun _ H4 q4 l4 qm4 ps sw hA4 hsw => ?_⟩
  obtain ⟨s4, z4⟩ := s2.next st3 ea3 D3 so3 (fun b => b = a) (fun b => b = l4) (fun b o q n => hA4.kp b o q n) (fun b y => y ▸ s2.za) (fun b y => y ▸ (s2.acc st3).2.1) (fun b y => y ▸ hA4.nl) hA4.m (.inr rfl)
  refine hQ3 H4 _ z4 (.inl ?_)
  have x14 := x13.trans (hA4.kp.extI M3.ob)
  have hcl : (closing sc sw es).length = 2 * es.length + 2 := by
    have := plen hsw
    unfold closing
    simp only [List.length_cons, List.length_append, List.length_map, List.length_nil]
    omega
  have hI0 : ClI K ad sc st es u (.ref y) X (X.count + 2 + (2 * es.length + 3)) (.flush sc :: closing sc sw es) H4 (Lg (Lg X x) x3) := by
    refine ⟨.a, sw, rfl, ⟨hsw, fun c hc => rfl, ?_, hps⟩, hno, fun e he => .inr (hu e he)⟩
    show X.count + 1 + 1 + (((closing sc sw es).length + 1 : Nat) : Int) = _
    rw [hcl]
    omega
  have key := go_all (K := K) (C := C) (M := M) (CE := CD) (m := mm) (t := 1) (w := 4) (r := 150) (th0 := 0) (a := a) (dx := dx) (ad := ad) (sc := sc) (n := 0) (es := .ref qe) (y := .ref y) (Qg := Qg) mc fic (fun _ _ _ => FC)
    (fun rs H X' => ClI K ad sc st es u (.ref y) X (X.count + 2 + (2 * es.length + 3)) rs H X' ∧ H y = some (.tup xs))
    (fun rs H H' X s h => ⟨h.1.ext s, s.1 _ _ h.2⟩) (fun r0 rs H X h => h.1.ok dc) (fun r0 rs H X v x X' uq h R => ⟨h.1.step dc (fun _ _ _ => trivial) hs0 uq R, h.2⟩) ⟨sc, rfl⟩ A.a H Z
    (fun H2' A' X' B' Z' e1 hI D' so' zf' zl' zs' => by
      obtain ⟨⟨g, sw', eg, c, f⟩, hy'⟩ := hI
      have hge : g = .e := by
        cases g with
        | a => cases eg
        | b => cases eg
        | c k => exact absurd eg (by unfold todo; simp)
        | d k => exact absurd eg (by unfold todo; simp)
        | e => rfl
      subst hge
      obtain ⟨f1, f2, f3⟩ := f
      exact fin H2' A' X' B' Z' e1 hy' ⟨f2, f3, fun c0 h2 => c.c0 c0 h2, f1, by have := c.n; simpa using this⟩ D' so' zf' zl' zs')
  have := key (closing sc sw es) (.flush sc) ps s4 hA4.q hA4.ps hA4.g ⟨hI0, x14.1 _ _ hy⟩ (ea3.trans ea1) (z2.trans z4)
  rw [hcl] at this
  exact this
end
end Dk

set_option maxHeartbeats 8000000
/-! the law's run of a deed -/
namespace Dk
open PySem PySem.Spec PyProof.Rows L2
abbrev sRun : Stmt := top 33
def spRun (P : Program) (W : World) (K : PySem.W.Frag) (mg : Str → Option Value) (base : Heap) (C M CD gd : Addr) : Sp := fun vs H Q _ => ∃ (m : Addr) (ad n B : Nat) (A : Adr) (X : MS), vs = [.ref m, .int (ad : Int)] ∧ n < 200 ∧ B < 1000 ∧ MemAt C M H m 1 4 150 A X ∧ SOk X 1 155 B ∧
  ∀ (H' : Hp) (a dx q l qm : Addr) (es0 : V), Same H H' → H a = none → H l = none → MSt C M CD H' m 1 4 150 B A X (fun b => Foot m A 155 b ∨ b = a ∨ b = l) a dx q l (.ref qm) [] (dorest ad 0 es0 0 .non) → H' q = some (.tup (Rq.read ad).vs) → H' qm = some (.met gd a) →
    Go P W K mg base 7 C M a CD dx m 1 4 150 0 (fun y H2 A' X' B' Z' => ∀ H3, SOk X' 1 155 (B + 2 * n) → (∀ b o, H2 b = some o → Z' b → H3 b = some o) → ExT H2 H3 → (∀ b o, H b = some o → ¬ Foot m A 155 b → H3 b = some o) → (∀ b, Z' b → Foot m A 155 b ∨ H b = none) → Q y H3) n H' A X B (fun b => Foot m A 155 b ∨ b = a ∨ b = l)
section
variable {P : Program} {w : World} {K : PySem.W.Frag} {mg : Str → Option Value} {base : Heap} {C M S CD gd : Addr}
abbrev NRu : List Str := ["memory", "address", "stack", "step"]
theorem scRun : FnScope NRu ["memory", "address"] (defScope sRun) := ⟨rfl, rfl, rfl, by decide +kernel, rfl, by decide +kernel, by decide +kernel⟩
theorem go_run {fS fD : Addr} {fdS fdD : FuncData} {dsD : List Value} (F : GT K mg "_law_run" sRun ["memory", "address"]) (B0 : Bn mg) (TK : KTx K S) (gSk : mg "Stack" = some (.ref S)) (MSk : Mk K S fS) (FSk : FnOk P w K mg base CX0 1 fS fdS ["self", "machine"] (spKInit S)) (bSk : Binds K fdS ["self", "machine"] [])
    (gD : mg "Doing" = some (.ref CD)) (MkD : Mk K CD fD) (FD : FnOk P w K mg base CX0 2 fD fdD ["self", "address", "without"] (spDNew CD gd)) (bD : Binds K fdD ["self", "address", "without"] dsD) (vD : Vals [V.int 0] dsD)
    (GSt : MO P w K mg base CX0 S 19 "step" ["self", "memory", "thread"] (spKStep P w K mg base 7 S C M)) (GEn : MO P w K mg base CX0 S 1 "ended" ["self"] (spKEnded S)) (GVa : MO P w K mg base CX0 S 1 "value" ["self"] (spKValue S)) :
    GO P w K mg base CX0 20 "_law_run" ["memory", "address"] (spRun P w K mg base C M CD gd) := by
  obtain ⟨f, fd, F, hm, hb⟩ := F
  refine ⟨f, fd, ?_, hm, F.kp, hb⟩
  refine F.ok scRun (fun vs H Q E h => ?_) (fun cdv A outer s H vs Q E hr h => ?_)
  · obtain ⟨m, ad, n, B, A, X, rfl, _⟩ := h
    rfl
  · obtain ⟨m, ad, n, B, A0, X, rfl, hn, hB, DM, so, hgo⟩ := h
    have nd := scRun.nd
    have hr1 : Room 1 _ := hr.mono (by omega)
    have hrK : Room 2 _ := hr.mono (by omega)
    have hrD : Room 3 _ := hr.mono (by omega)
    have hrS : Room 19 _ := hr
    have hsl : sizeLine = 16777216 := sizeLine_eq
    refine ⟨_, (pss_cons (ps_set (i := 2) nd rfl (Or.inl rfl) (pe_make MSk FSk hrK rfl gSk bSk .nil pass0 (pa_cons (pe_make MkD FD hrD rfl gD bD vD pass0 (pa_cons (pv 1) pa_nil)) pa_nil)))
  (pss_cons (ps_for PassesOwn.never rfl (pi_range1 (by rfl) B0.range (pa_cons pe_int pa_nil)) (pg_name (i := 3) nd rfl (Or.inl rfl))
  (pss_one (ps_if (pt_not (pt_val (pm_ GSt TK.cl hrS (pv 2) (pa_cons (pv 0) (pa_cons pe_int pa_nil)))))
  (pss_one ps_break)
  pss_nil)))
  (pss_cons (ps_if (pt_not (pt_val (pm0_ GEn TK.cl hr1 (pv 2))))
  (pss_one (ps_ret pe_non))
  pss_nil)
  (pss_one (ps_ret (pm0_ GVa TK.cl hr1 (pv 2))))))), ?_⟩
    refine ⟨_, rfl, fun a dxm na ndxm nem => ?_⟩
    have u0 : Same H (upd (upd H dxm (.own a)) a (.ins CD dxm [])) := fun b o e => by rw [upd_ne (ne_of_none e na), upd_ne (ne_of_none e ndxm)]; exact e
    refine ⟨a, dxm, ad, rfl, upd_same, fun H0 q l qm es0 hA => ⟨rfl, ?_⟩⟩
    have s0 : Same H H0 := fun b o e => hA.kp b o (u0 b o e) (ne_of_none e na)
    have nl0 : H l = none := by
      cases e : H l with
      | none => rfl
      | some o =>
        have := u0 _ _ e
        rw [hA.nl] at this
        cases this
    intro k dx nk ndx ne
    have u1 : Same H0 (upd (upd H0 dx (.own k)) k (.ins S dx [])) := fun b o e => by rw [upd_ne (ne_of_none e nk), upd_ne (ne_of_none e ndx)]; exact e
    refine ⟨k, dx, a, rfl, upd_same, fun H1 ml nml D kp => ⟨rfl, ?_⟩⟩
    have s1 : Same H0 H1 := fun b o e => kp b o (u1 b o e) (ne_of_none e nk)
    have s01 := s0.trans s1
    have nml0 : H0 ml = none := by
      cases e : H0 ml with
      | none => rfl
      | some o =>
        have := u1 _ _ e
        rw [nml] at this
        cases this
    have DM1 : MemAt C M H1 m 1 4 150 A0 X := DM.same s01
    have ma1 := hA.m.same s1
    have nfa : ¬ Foot m A0 155 a := fun hf => by obtain ⟨u, e⟩ := foot_some DM hf; rw [na] at e; cases e
    have nfl : ¬ Foot m A0 155 l := fun hf => by obtain ⟨u, e⟩ := foot_some DM hf; rw [nl0] at e; cases e
    obtain ⟨da, hlay⟩ := DM.lay
    have s : MSt C M CD H1 m 1 4 150 B A0 X (fun b => Foot m A0 155 b ∨ b = a ∨ b = l) a dxm q l (.ref qm) [] (dorest ad 0 es0 0 .non) := by
      refine ⟨ma1, DM1, so, fun b hb => .inl hb, .inr (.inl rfl), .inr (.inr rfl), nfa, nfl, fun h => ?_⟩
      rcases h with h | h | h
      · exact lay_out DM h
      · rw [h, na] at hlay; cases hlay
      · rw [h, nl0] at hlay; cases hlay
    have go1 := hgo H1 a dxm q l qm es0 s01 na nl0 s (s1 _ _ hA.q) (s1 _ _ hA.g)
    generalize hZ : (fun b => Foot m A0 155 b ∨ b = a ∨ b = l) = Z at go1 s
    have zsome : ∀ b, Z b → ∃ u, H0 b = some u := fun b hb => by
      rw [← hZ] at hb
      rcases hb with h | h | h
      · obtain ⟨u, e⟩ := foot_some DM h
        exact ⟨u, s0 _ _ e⟩
      · exact ⟨_, h ▸ hA.m.ob⟩
      · exact ⟨_, h ▸ hA.m.lf⟩
    have zk : ¬ Z k := fun h => by obtain ⟨u, e⟩ := zsome k h; rw [e] at nk; cases nk
    have zml : ¬ Z ml := fun h => by obtain ⟨u, e⟩ := zsome ml h; rw [e] at nml0; cases nml0
    generalize hQg : (fun (y : V) (H2 : Hp) (A' : Adr) (X' : MS) (B' : Nat) (Z' : Addr → Prop) => ∀ H3, SOk X' 1 155 (B + 2 * n) → (∀ b o, H2 b = some o → Z' b → H3 b = some o) → ExT H2 H3 → (∀ b o, H b = some o → ¬ Foot m A0 155 b → H3 b = some o) → (∀ b, Z' b → Foot m A0 155 b ∨ H b = none) → Q y H3) = Qg at go1
    refine ⟨_, rfl, by decide, by decide, for_range (lo := 0) (n := (200 : Int).toNat) (fun i σ H' => ∃ s5 : Option V, σ = [some (.ref m), some (.int (ad : Int)), some (.ref k), s5] ∧
      ((∃ A1 X1 Z1, Go P w K mg base 7 C M a CD dxm m 1 4 150 0 Qg (n - i) H' A1 X1 (B + 2 * i) Z1 ∧ StkAt S H' k dx ml [a] .non ∧ ¬ Z1 k ∧ ¬ Z1 ml ∧ Zst Z H1 Z1 H' ∧ i ≤ n) ∨
       (∃ A1 X1 Z1 y H2 B1, StkAt S H' k dx ml [] y ∧ MemAt C M H' m 1 4 150 A1 X1 ∧ SOk X1 1 155 (B + 2 * i) ∧ ¬ Z1 k ∧ ¬ Z1 ml ∧ Zst Z H1 Z1 H2 ∧ Kept2 k ml H2 H' ∧ StkAt S H2 k dx ml [a] .non ∧ Qg y H2 A1 X1 B1 Z1 ∧ i ≤ n))) ⟨_, rfl, .inl ⟨A0, X, Z, go1, D, zk, zml, ⟨fun _ _ e _ => e, fun _ h => .inl h⟩, Nat.zero_le _⟩⟩ ?_ ?_⟩
    · rintro i σ H' hi ⟨s5, rfl, (⟨A1, X1, Z1, g, D2, z1, z2, zs, hin⟩ | ⟨A1, X1, Z1, y, H2, B1, D2, DM2, so2, z1, z2, zs, kp2, Dk2, hq, hin⟩)⟩
      · have hi200 : i < 200 := hi
        cases hj : n - i with
        | zero =>
          rw [hj] at g
          exact g.elim
        | succ j =>
          rw [hj] at g
          obtain ⟨q1, l1, fa, th', left, rest, rq, spa, Mc, hq1, ok, vals, fl1, hma, FA, DM2, so2, zf, za, nxt⟩ := g
          refine ⟨_, rfl, k, dx, _, rfl, D2.ob, rfl, _, rfl, k, dx, ml, m, [a], .non, 1, 4, 150, 0, B + 2 * i, A1, X1, rfl, D2, ⟨by decide, by decide, by decide, by decide, by decide, by decide⟩, DM2, by decide, so2, by omega, .inr ⟨a, CD, dxm, q1, l1, fa, th', left, rest, rq, spa, rfl, Mc, hq1, ok, vals, fl1, hma, FA, fun v x p A' X' H3 ea R hp so' D' st Q' hQ' => ?_⟩⟩
          refine nxt v x p A' X' H3 ea R hp so' D' st Q' fun u H4 Z' zs' hc => hQ' u H4 ?_
          obtain ⟨ok1, nk1⟩ := zs'.out D2.ob z1
          obtain ⟨om1, nm1⟩ := zs'.out D2.l z2
          refine ⟨⟨ok1, om1⟩, ?_⟩
          rcases hc with g' | ⟨q2, l2, th2, left2, rest2, y, M2, hq2, DM3, zf2, za2, hy⟩
          · have g0 := g'
            cases j with
            | zero => exact g'.elim
            | succ j' =>
              obtain ⟨q2, l2, fa2, th2, left2, rest2, rq2, spa2, Mc2, hq2, _⟩ := g'
              refine .inl ⟨q2, l2, th2, left2, rest2, rq2, Mc2, hq2, ?_⟩
              exact ⟨_, rfl, iteF ⟨_, rfl, .inl ⟨A', X', Z', by rw [show n - (i + 1) = j' + 1 by omega]; exact g0, ⟨ok1, om1⟩, nk1, nm1, zs.trans zs', by omega⟩⟩⟩
          · refine .inr ⟨q2, l2, th2, left2, rest2, y, M2, hq2, fun H5 D5 k5 => ?_⟩
            have ne1 : ∀ b, Z' b → b ≠ k ∧ b ≠ ml := fun b hb => ⟨fun e => nk1 (e ▸ hb), fun e => nm1 (e ▸ hb)⟩
            have DM5 : MemAt C M H5 m 1 4 150 A' X' := DM3.on (fun c o e hf => k5 c o e (ne1 c (zf2 c hf)).1 (ne1 c (zf2 c hf)).2) fun o e => k5 _ o e (fun z => by
              obtain ⟨da, hl⟩ := DM3.lay
              rw [z] at hl
              rw [ok1] at hl
              cases hl) fun z => by
              obtain ⟨da, hl⟩ := DM3.lay
              rw [z, om1] at hl
              cases hl
            exact ⟨_, rfl, iteF ⟨_, rfl, .inr ⟨A', X', Z', y, H4, _, D5, DM5, by rw [show B + 2 * (i + 1) = B + 2 * i + 2 by omega]; exact so', nk1, nm1, zs.trans zs', k5, ⟨ok1, om1⟩, hy, by omega⟩⟩⟩
      · have hi200 : i < 200 := hi
        refine ⟨_, rfl, k, dx, _, rfl, D2.ob, rfl, _, rfl, k, dx, ml, m, [], y, 1, 4, 150, 0, B + 2 * i, A1, X1, rfl, D2, ⟨by decide, by decide, by decide, by decide, by decide, by decide⟩, DM2, by decide, so2, by omega, .inl ⟨rfl, ?_⟩⟩
        refine ⟨_, rfl, iteT ?_⟩
        refine ⟨_, rfl, k, dx, _, rfl, D2.ob, rfl, k, dx, ml, [], y, rfl, D2, _, rfl, iteF ⟨_, rfl, k, dx, _, rfl, D2.ob, rfl, k, dx, ml, [], y, rfl, D2, ?_⟩⟩
        rw [← hQg] at hq
        have kpz : ∀ b o, H2 b = some o → b ≠ k → b ≠ ml → H' b = some o := kp2
        refine hq H' (so2.mono (by omega)) (fun b o e hb => kpz b o e (fun z => z1 (z ▸ hb)) fun z => z2 (z ▸ hb)) ⟨fun b xs e => kpz b _ e (ne_of e Dk2.ob (by intro z; cases z)) (ne_of e Dk2.l (by intro z; cases z)), fun b o xs e => kpz b _ e (ne_of e Dk2.ob (by intro z; cases z)) (ne_of e Dk2.l (by intro z; cases z))⟩ (fun b o e nb => ?_) (fun b hb => ?_)
        · have nz : ¬ Z b := fun h => by
            rw [← hZ] at h
            rcases h with h | h | h
            · exact nb h
            · rw [h, na] at e; cases e
            · rw [h, nl0] at e; cases e
          obtain ⟨e2, _⟩ := zs.out (s01 _ _ e) nz
          exact kpz b o e2 (ne_of_none (s0 _ _ e) nk) (ne_of_none (s0 _ _ e) nml0)
        · rcases zs.2 b hb with h | h
          · rw [← hZ] at h
            rcases h with h | h | h
            · exact .inl h
            · exact .inr (h ▸ na)
            · exact .inr (h ▸ nl0)
          · exact .inr (s01.free h)
    · rintro σ H' ⟨s5, rfl, (⟨A1, X1, Z1, g, _, _, _, _, hin⟩ | ⟨A1, X1, Z1, y, H2, B1, _, _, _, _, _, _, _, _, _, hin⟩)⟩
      · have : n - (200 : Int).toNat = 0 := by omega
        rw [this] at g
        exact g.elim
      · exfalso
        have : (200 : Int).toNat = 200 := rfl
        omega
end
end Dk

set_option maxHeartbeats 4000000
/-! a deed's record -/
namespace Dk
open PySem PySem.Spec PyProof.Rows L2
abbrev sAscd : Stmt := top 11
abbrev sDeedR : Stmt := top 28
def Adj (ns : List Int) : Prop := ∀ i x y, ns[i]? = some x → ns[i + 1]? = some y → x < y
def ltB (ns : List Int) (j : Nat) : Bool := decide (ns.getD j 0 < ns.getD (j + 1) 0)
theorem adj_all (ns : List Int) : ((List.range (ns.length - 1)).map (ltB ns)).all id = true ↔ Adj ns := by
  rw [List.all_eq_true]
  constructor
  · intro h i x y hx hy
    have hi : i + 1 < ns.length := (List.getElem?_eq_some_iff.mp hy).1
    have := h (ltB ns i) (List.mem_map.mpr ⟨i, List.mem_range.mpr (by omega), rfl⟩)
    have := of_decide_eq_true this
    rw [List.getD_eq_getElem?_getD, List.getD_eq_getElem?_getD, hx, hy] at this
    exact this
  · intro h b hb
    obtain ⟨i, hi, rfl⟩ := List.mem_map.mp hb
    have hi := List.mem_range.mp hi
    refine decide_eq_true ?_
    have h1 : i < ns.length := by omega
    have h2 : i + 1 < ns.length := by omega
    rw [List.getD_eq_getElem?_getD, List.getD_eq_getElem?_getD, List.getElem?_eq_getElem h1, List.getElem?_eq_getElem h2]
    exact h i _ _ (List.getElem?_eq_getElem h1) (List.getElem?_eq_getElem h2)
theorem cut1 (ns : List Int) : cutV (ns.map V.int) (some 1) none = (ns.drop 1).map V.int := by
  unfold cutV
  rw [HT.sIx_none, show (1 : Int) = ((1 : Nat) : Int) from rfl, HT.sIx_nat, List.length_map, List.map_drop]
  cases ns with
  | nil => rfl
  | cons n ns =>
    rw [show min 1 (n :: ns).length = 1 by simp]
    refine List.take_of_length_le ?_
    rw [List.length_drop, List.length_map]
    exact Nat.le_refl _
def spAsc : Sp := fun vs H Q _ => ∃ (a : Addr) (ns : List Int), vs = [.ref a] ∧ H a = some (.lst (ns.map V.int)) ∧ ns.length < 1000 ∧ ∀ (b : Bool) (H' : Hp), (b = true ↔ Adj ns) → Same H H' → Q (.bl b) H'
def spDeedR (K : PySem.W.Frag) (NV : Addr) : Sp := fun vs H Q E => ∃ (l : Addr) (s th nr ans : V) (ts : List V) (es : List En), vs = [s, .ref l, th, nr, ans] ∧ H l = some (.lst ts) ∧ Paired (EnAt K H) ts es ∧ es.length < 100 ∧
  ((0 < es.length ∧ Adj (es.map fun e => (e.c : Int))) → ∀ (H' : Hp) (p q : Addr), Same H H' → H' p = some (.tup [.str "deed", s, .ref q, th, nr, ans]) → H' q = some (.tup ts) → Q (.ref p) H') ∧
  (¬ (0 < es.length ∧ Adj (es.map fun e => (e.c : Int))) → ∀ H', Same H H' → E (.ref NV) none H')
section
variable {P : Program} {w : World} {K : PySem.W.Frag} {mg : Str → Option Value} {base : Heap} {C NV LE : Addr}
theorem scAsc : FnScope ["numbers", "low", "high"] ["numbers"] (defScope sAscd) := ⟨rfl, rfl, rfl, by decide +kernel, rfl, by decide +kernel, by decide +kernel⟩
theorem go_asc (F : GT K mg "is_ascending" sAscd ["numbers"]) (B : Bn mg) (za : mg "all" = none) (zz : mg "zip" = none) : GO P w K mg base CX0 1 "is_ascending" ["numbers"] spAsc := by
  obtain ⟨f, fd, F, hm, hb⟩ := F
  refine ⟨f, fd, ?_, hm, F.kp, hb⟩
  refine F.ok scAsc (fun vs H Q E h => ?_) (fun cdv A outer s H vs Q E hr h => ?_)
  · obtain ⟨a, ns, rfl, _⟩ := h
    rfl
  · obtain ⟨a, ns, rfl, ha, hl, k⟩ := h
    have nd := scAsc.nd
    have hsl : sizeLine = 16777216 := sizeLine_eq
    refine ⟨_, (pss_one (ps_ret (pe_callB (cr_all rfl) (by rfl) za (by decide +kernel) (pa_cons (pe_lc (own := [("low", 1), ("high", 2)]) (g := (gTup K 2 (gCons (gName 1) (gCons (gName 2) gNil)))) (tt := tYes) rfl nd (pi_zip (by rfl) zz (pa_cons (pv 0) (pa_cons (pe_slice sl_list (pv 0) (po_some pe_int) po_none) pa_nil))) (blkOk_by (N := ["numbers", "low", "high"]) (sc := defScope sAscd) (by decide +kernel)) (fun _ _ _ _ _ => (pg_tup (by rfl) (pgs_cons (pg_name (i := 1) nd rfl (Or.inl rfl)) (pgs_cons (pg_name (i := 2) nd rfl (Or.inl rfl)) pgs_nil)))) (fun _ _ _ _ _ => pts_nil) (fun _ _ _ _ _ => (pe_cmpR op_lt (pv 1) (pv 2) (nomark _)))) pa_nil)))), ?_⟩
    refine ⟨_, rfl, _, rfl, _, rfl, a, _, rfl, SqL.of ha, fun p hp => ?_⟩
    rw [cut1]
    have s1 := up1 (o := HO.lst ((ns.drop 1).map V.int)) hp
    have e1 : upd H p (HO.lst ((ns.drop 1).map V.int)) p = _ := upd_same
    generalize upd H p (HO.lst ((ns.drop 1).map V.int)) = H1 at s1 e1 ⊢
    refine ⟨a, p, _, _, rfl, SqL.of (s1 _ _ ha), SqL.of e1, fun D hD => lc_it (walk_zip (K := K) (a := a) (b := p) (xs := ns.map V.int) (ys := (ns.drop 1).map V.int) (n := ns.length - 1) (by simp)) (fun i H' => H' D = some (.lst (((List.range i).map (ltB ns)).map V.bl)) ∧ Same H1 H') ⟨upd_same, up1 hD⟩
      (fun i H' _ q => ⟨SqL.of (q.2 _ _ (s1 _ _ ha)), SqL.of (q.2 _ _ e1)⟩) ?_ ?_⟩
    · rintro i x H' H'' hi ⟨hD', s2⟩ ⟨T, x1, y1, rfl, hT, rfl, hx, hy⟩
      have h1 : i < ns.length := by omega
      have h2 : i + 1 < ns.length := by omega
      dsimp only at hx hy
      have ex : x1 = .int ns[i] := by
        rw [List.getElem?_map, List.getElem?_eq_getElem h1] at hx
        exact (Option.some.inj hx).symm
      have ey : y1 = .int ns[i + 1] := by
        rw [List.getElem?_map, List.getElem?_drop, show 1 + i = i + 1 by omega, List.getElem?_eq_getElem h2] at hy
        exact (Option.some.inj hy).symm
      subst ex
      subst ey
      refine ⟨T, _, rfl, SqT.of upd_same, rfl, _, _, rfl, _, _, rfl, rfl, rfl, _, rfl, _, rfl, _, _, rfl, rfl, ?_⟩
      have D_T : D ≠ T := ne_of_none hD' hT
      refine ⟨_, (by rw [upd_ne D_T]; exact hD'), (by rw [List.length_map, List.length_map, List.length_range]; omega), ?_, fun b o e => ?_⟩
      · rw [upd_same, List.range_succ, List.map_append, List.map_append]
        have : ltB ns i = decide (ns[i] < ns[i + 1]) := by
          unfold ltB
          rw [List.getD_eq_getElem?_getD, List.getD_eq_getElem?_getD, List.getElem?_eq_getElem h1, List.getElem?_eq_getElem h2]
          rfl
        show some (HO.lst (_ ++ [V.bl (decide (ns[i] < ns[i + 1]))])) = some (HO.lst (_ ++ [V.bl (ltB ns i)]))
        rw [this]
      · rw [upd_ne (ne_of_none e hD), upd_ne (ne_of_none (s2 _ _ e) hT)]
        exact s2 _ _ e
    · rintro H' ⟨hD', s2⟩
      exact ⟨D, _, rfl, SqL.of hD', k _ H' (adj_all ns) (s1.trans s2)⟩
theorem scDeedR : FnScope ["status", "entries", "thread", "number", "answer", "cells", "entry"] ["status", "entries", "thread", "number", "answer"] (defScope sDeedR) := ⟨rfl, rfl, rfl, by decide +kernel, rfl, by decide +kernel, by decide +kernel⟩
theorem ok_deedr {f : Addr} {fd : FuncData} (F : Fun K "deed_record" "deed_record" sDeedR f fd) (B0 : Bn mg) (zt : mg "tuple" = none) (X0 : XTxt K mg NV LE) (GAsc : GO P w K mg base CX0 1 "is_ascending" ["numbers"] spAsc) : FnOk P w K mg base (L2.CX P w) 2 f fd ["status", "entries", "thread", "number", "answer"] (spDeedR K NV) := by
  refine F.okX scDeedR (fun vs H Q E h => ?_) (fun cdv A outer s H vs Q E hr h => ?_)
  · obtain ⟨l, s, th, nr, ans, ts, es, rfl, _⟩ := h
    rfl
  · obtain ⟨l, s, th, nr, ans, ts, es, rfl, hl, hp, hln, k1, k2⟩ := h
    have nd := scDeedR.nd
    have hr1 : Room 1 _ := hr
    have hsl : sizeLine = 16777216 := sizeLine_eq
    refine ⟨_, (pss_cons (ps_setLc (i := 5) (own := [("entry", 6)]) (g := (gName 6)) (tt := tYes) (te := (tOp (rIxT K) (tVar 6) (tC (.int 0)))) rfl nd rfl rfl (sw_true rfl rfl rfl (by decide +kernel)) (pi_list (pv 1)) (blkOk_by (N := ["status", "entries", "thread", "number", "answer", "cells", "entry"]) (sc := defScope sDeedR) (by decide +kernel)) (fun _ _ _ _ _ => (pg_name (i := 6) nd rfl (Or.inl rfl))) (fun _ _ _ _ _ => pts_nil) (fun _ _ _ _ _ => (pe_ix ix_tup (pv 6) pe_int (fun _ _ => rfl))))
  (pss_cons (ps_if (PW.pt (pw_or (pt_not (pt_truth (pv 5) (by intro _; rfl))) (pw_or1 (pt_not (pt_val (pc_ GAsc hr1 (pa_cons (pv 5) pa_nil)))))))
  (pss_one (ps_raise rfl (takes_of rfl rfl rfl rfl) (pmk_own0 PySem.F.excBase_ValueError X0.xN X0.gN X0.kN (raises_own X0.sN X0.tN) rfl)))
  pss_nil)
  (pss_one (ps_ret (pe_tup (pa_cons pe_str (pa_cons (pv 0) (pa_cons (pe_callTy call_tuple_of (by rfl) zt (by decide +kernel) (pa_cons (pv 1) pa_nil)) (pa_cons (pv 2) (pa_cons (pv 3) (pa_cons (pv 4) pa_nil))))))))))), ?_⟩
    have hpl := plen hp
    refine ⟨_, rfl, l, rfl, ⟨_, SqL.of hl⟩, fun D hD => lc_list (xs := ts) (fun i H' => H' D = some (.lst (((es.take i).map fun e => (e.c : Int)).map V.int)) ∧ Same H H') ⟨upd_same, up1 hD⟩ (fun i H' _ z => SqL.of (z.2 _ _ hl)) ?_ ?_⟩
    · rintro i v H' hi ⟨hD', s1⟩
      obtain ⟨e, he, p, rfl, hpp⟩ := StPget hp hi
      have hil : i < es.length := (List.getElem?_eq_some_iff.mp he).1
      have ee : es[i] = e := by rw [List.getElem?_eq_getElem hil] at he; exact Option.some.inj he
      refine ⟨rfl, _, rfl, p, _, 0, _, rfl, rfl, hpp.same s1, rfl, _, hD', (by rw [List.length_map, List.length_map, List.length_take]; omega), ?_, fun b o e => by rw [upd_ne (ne_of_none e hD)]; exact s1 b o e⟩
      rw [upd_same, List.take_succ_eq_append_getElem hil, ee, List.map_append, List.map_append]
      rfl
    · rintro H1 ⟨hD1, s1⟩
      rw [hpl, List.take_length] at hD1
      refine ⟨_, rfl, !((es.map fun e => (e.c : Int)).map V.int).isEmpty, .inl ⟨_, SqL.of hD1, rfl⟩, ?_⟩
      cases hes : es with
      | nil =>
        subst hes
        exact iteT (k2 (fun z => absurd z.1 (by simp)) H1 s1)
      | cons e0 es0 =>
        rw [← hes]
        have hpos : 0 < es.length := by rw [hes]; simp
        have hne : ((es.map fun e => (e.c : Int)).map V.int).isEmpty = false := by rw [hes]; rfl
        rw [hne]
        refine iteF ⟨_, rfl, D, es.map fun e => (e.c : Int), rfl, hD1, (by rw [List.length_map]; omega), fun b H2 hb s2 => ⟨_, rfl, ?_⟩⟩
        have s12 := s1.trans s2
        cases hbb : b with
        | false =>
          refine iteT (k2 (fun z => ?_) H2 s12)
          have := hb.mpr z.2
          rw [hbb] at this
          cases this
        | true =>
          have hadj := hb.mp hbb
          refine iteF ?_
          refine ⟨_, rfl, _, rfl, l, _, rfl, .inl ⟨SqL.of (s12 _ _ hl), fun q hq => ?_⟩⟩
          have s3 := up1 (o := HO.tup ts) hq
          have e3 : upd H2 q (HO.tup ts) q = _ := upd_same
          generalize upd H2 q (HO.tup ts) = H3 at s3 e3 ⊢
          refine ⟨_, rfl, _, rfl, _, rfl, (by show 6 ≤ sizeLine; omega), fun p hp' => ?_⟩
          exact k1 ⟨hpos, hadj⟩ _ p q ((s12.trans s3).trans (up1 hp')) upd_same (up1 hp' _ _ e3)
end
end Dk

set_option maxHeartbeats 4000000
/-! the law's words, what lasts -/
namespace Dk
open PySem PySem.Spec PyProof.Rows L2
abbrev sWords : Stmt := top 34
abbrev sLasts : Stmt := top 37
theorem pcX_ {X : Cx} {k : Nat} {x : Str} {ps : List Str} {sp : Sp} {p pos : Pos} {e : Expr} {es : List Expr} {t : TA} (G : GO X.prog X.w X.K X.mg X.base (L2.CX X.prog X.w) k x ps sp) (hr : Room k X.A) (ha : PA X (e :: es) t) (hg : Gl X x := by rfl) (hdb : (x == ("__debug__" : Str)) = false := by decide)
    (he : starEach (e :: es) X.env = (false, eval e X.env) :: starEach es X.env := by rfl) (hpl : (backTo pos (starEach es X.env)).any (·.1) = false := by rfl) : PE X (.Call (.Name x p) (e :: es) [] pos) (tCall sp [] E0 t) := by
  obtain ⟨f, fd, F, hm, hk, hb⟩ := G
  exact pe_call F hr hg hm hk hb .nil passL ha hdb he hpl
def spWords (C M : Addr) : Sp := fun vs H Q _ => ∃ (m : Addr) (A : Adr) (X : MS) (ws : Nat → Int), vs = [.ref m] ∧ MemAt C M H m 1 4 150 A X ∧ (∀ i, i < 4 → cellV X 1 (3 + i) = some (.int (ws i))) ∧
  ∀ H' p, Same H H' → H p = none → H' p = some (.lst ((List.range 4).map fun i => V.int (ws i))) → Q (.ref p) H'
def spLasts (K : PySem.W.Frag) (C M : Addr) : Sp := fun vs H Q _ => ∃ (m y wl : Addr) (A : Adr) (X : MS) (ad : Nat) (st : Sta) (ws : Nat → Int), vs = [.ref m, .int (ad : Int), .ref y, .ref wl] ∧ MemAt C M H m 1 4 150 A X ∧ ad + 1 < 157 ∧ 2 ≤ ad ∧ (∃ y', X.tr (ad - 1) = [y'] ∧ DV K H y' st.tr) ∧ DV K H (.ref y) st.tr ∧ st.ok ∧ H wl = some (.lst ((List.range 4).map fun i => V.int (ws i))) ∧
  (∀ i, i < 4 → (X.tr (1 + i)).getLast? = some (.int (ws i))) ∧ ∀ H', Same H H' → Q (.bl true) H'
section
variable {P : Program} {w : World} {K : PySem.W.Frag} {mg : Str → Option Value} {base : Heap} {C M NV LE : Addr}
theorem scWords : FnScope ["memory", "index"] ["memory"] (defScope sWords) := ⟨rfl, rfl, rfl, by decide +kernel, rfl, by decide +kernel, by decide +kernel⟩
theorem go_words (F : GT K mg "_law_words" sWords ["memory"]) (B0 : Bn mg) (TM : MTxt K M) (GPk : MO P w K mg base CX0 M 8 "peek" ["self", "cell"] (spPeek C M)) : GO P w K mg base CX0 9 "_law_words" ["memory"] (spWords C M) := by
  obtain ⟨f, fd, F, hm, hb⟩ := F
  refine ⟨f, fd, ?_, hm, F.kp, hb⟩
  refine F.ok scWords (fun vs H Q E h => ?_) (fun cdv A outer s H vs Q E hr h => ?_)
  · obtain ⟨m, A, X, ws, rfl, _⟩ := h
    rfl
  · obtain ⟨m, A0, X, ws, rfl, D, hw, k⟩ := h
    have nd := scWords.nd
    have hr8 : Room 8 _ := hr
    have hsl : sizeLine = 16777216 := sizeLine_eq
    refine ⟨_, (pss_one (ps_ret (pe_lc (own := [("index", 1)]) (g := (gName 1)) (tt := tYes) rfl nd (pi_range1 (by rfl) B0.range (pa_cons pe_int pa_nil)) (blkOk_by (N := ["memory", "index"]) (sc := defScope sWords) (by decide +kernel)) (fun _ _ _ _ _ => (pg_name (i := 1) nd rfl (Or.inl rfl))) (fun _ _ _ _ _ => pts_nil) (fun _ _ _ _ _ => (pm_ GPk TM.cl hr8 (pv 0) (pa_cons (pe_op op_add pe_int (pv 1)) pa_nil)))))), ?_⟩
    refine ⟨_, rfl, by decide, by decide, fun Lw hLw => lc_it (walk_range (lo := 0) (n := (4 : Int).toNat)) (fun i H' => H' Lw = some (.lst ((List.range i).map fun i => V.int (ws i))) ∧ Same H H') ⟨upd_same, up1 hLw⟩ (fun _ _ _ _ => trivial) ?_ ?_⟩
    · rintro i v H1 H2 hi ⟨hL1, s1⟩ ⟨rfl, rfl⟩
      have hi4 : i < 4 := hi
      have D1 := D.same s1
      obtain ⟨dm, hmo⟩ := D1.ob
      refine ⟨rfl, _, rfl, m, dm, _, rfl, hmo, rfl, _, rfl, _, _, rfl, rfl, m, 1, 4, 150, 3 + i, A0, X, _, (by rw [show (((3 + i : Nat)) : Int) = 3 + (0 + (i : Int)) by omega]; rfl), D1, by omega, hw i hi4, ?_⟩
      refine ⟨_, hL1, (by rw [List.length_map, List.length_range]; omega), ?_, fun b o e => by rw [upd_ne (ne_of_none e hLw)]; exact s1 b o e⟩
      rw [upd_same, List.range_succ, List.map_append]
      rfl
    · rintro H1 ⟨hL1, s1⟩
      exact k H1 Lw s1 hLw hL1
theorem scLasts : FnScope ["memory", "address", "status", "words", "index"] ["memory", "address", "status", "words"] (defScope sLasts) := ⟨rfl, rfl, rfl, by decide +kernel, rfl, by decide +kernel, by decide +kernel⟩
theorem go_lasts (F : GT K mg "_law_lasts" sLasts ["memory", "address", "status", "words"]) (B0 : Bn mg) (TM : MTxt K M) (GTr : MO P w K mg base (L2.CX P w) M 9 "trail" ["self", "cell"] (spTrail C M NV)) : GO P w K mg base CX0 10 "_law_lasts" ["memory", "address", "status", "words"] (spLasts K C M) := by
  obtain ⟨f, fd, F, hm, hb⟩ := F
  refine ⟨f, fd, ?_, hm, F.kp, hb⟩
  refine F.ok scLasts (fun vs H Q E h => ?_) (fun cdv A outer s H vs Q E hr h => ?_)
  · obtain ⟨m, y, wl, A, X, ad, st, ws, rfl, _⟩ := h
    rfl
  · obtain ⟨m, y, wl, A0, X, ad, st, ws, rfl, D, had, had2, ⟨y', htr, hy'⟩, hy, ok, hwl, hw, k⟩ := h
    have nd := scLasts.nd
    have hr9 : Room 9 _ := hr
    have hsl : sizeLine = 16777216 := sizeLine_eq
    refine ⟨_, (pss_cons (ps_if (pt_cmpR (op_neD hr.units) (pmX_ GTr TM.cl hr9 (pv 0) (pa_cons (pe_op op_add (pv 1) pe_int) pa_nil)) (pe_lst (pa_cons (pv 2) pa_nil)) (nomark _))
  (pss_one (ps_ret pe_bl))
  pss_nil)
  (pss_cons (ps_for PassesOwn.never rfl (pi_range1 (by rfl) B0.range (pa_cons pe_int pa_nil)) (pg_name (i := 4) nd rfl (Or.inl rfl))
  (pss_one (ps_if (pt_cmpR op_ne (pe_ix ix_list (pmX_ GTr TM.cl hr9 (pv 0) (pa_cons (pe_op op_add pe_int (pv 4)) pa_nil)) (pe_un un_neg pe_int) (fun _ _ => rfl)) (pe_ix ix_list (pv 3) (pv 4) (fun _ _ => rfl)) (nomark _))
  (pss_one (ps_ret pe_bl))
  pss_nil)))
  (pss_one (ps_ret pe_bl)))), ?_⟩
    obtain ⟨dm, hmo⟩ := D.ob
    refine ⟨_, rfl, m, dm, _, rfl, hmo, rfl, _, rfl, _, _, rfl, rfl, m, 1, 4, 150, ad + 1, A0, X, rfl, D, fun _ p hp => ?_, fun z => absurd ⟨by omega, by omega⟩ z⟩
    rw [show ad + 1 - (1 + 1) = ad - 1 by omega, htr]
    have s1 := up1 (o := HO.lst [y']) hp
    have e1 : upd H p (HO.lst [y']) p = _ := upd_same
    generalize upd H p (HO.lst [y']) = H1 at s1 e1 ⊢
    refine ⟨_, rfl, (by show 1 ≤ sizeLine; omega), fun q hq => ?_⟩
    have s2 := up1 (o := HO.lst [V.ref y]) hq
    have e2 : upd H1 q (HO.lst [V.ref y]) q = _ := upd_same
    generalize upd H1 q (HO.lst [V.ref y]) = H2 at s2 e2 ⊢
    have s12 := s1.trans s2
    have hsh : SeqAt.shaped (.list [st.tr.data]) = true := by
      have h := Sta.nice ok
      have h1 : SeqAt.shaped st.tr.data = true := h.1
      have h3 := h.2.2
      refine shaped_iff.mpr ⟨?_, ?_⟩
      · simp only [PyData.canLay0, PyData.canLayAll0, (shaped_iff.mp h1).1, Bool.and_true]
      · simp only [PyData.depth, PyData.depthAll]
        omega
    refine ⟨.list [st.tr.data], .list [st.tr.data], .lst (SqL.of (s2 _ _ e1)) (.cons (DV.dp _ _ (DV.ext s12 _ _ hy')) .nil), .lst (SqL.of e2) (.cons (DV.dp _ _ (DV.ext s12 _ _ hy)) .nil), hsh, hsh, _, rfl, ?_⟩
    rw [show PyData.eqv (.list [st.tr.data]) (.list [st.tr.data]) = true from SeqAt.eqv_refl _ (SeqAt.canLay_of_shaped hsh)]
    refine iteF ?_
    refine ⟨_, rfl, by decide, by decide, for_range (lo := 0) (n := (4 : Int).toNat) (fun i σ H' => ∃ x4 : Option V, σ = [some (.ref m), some (.int (ad : Int)), some (.ref y), some (.ref wl), x4] ∧ Same H2 H') ⟨_, rfl, Same.refl H2⟩ ?_ ?_⟩
    · rintro i σ H3 hi ⟨x4, rfl, s3⟩
      have hi4 : i < 4 := hi
      have s13 := s12.trans s3
      have D3 := D.same s13
      obtain ⟨dm3, hmo3⟩ := D3.ob
      refine ⟨_, rfl, m, dm3, _, rfl, hmo3, rfl, _, rfl, _, _, rfl, rfl, m, 1, 4, 150, 3 + i, A0, X, (by rw [show (((3 + i : Nat)) : Int) = 3 + (0 + (i : Int)) by omega]; rfl), D3, fun _ p3 hp3 => ?_, fun z => absurd ⟨by omega, by omega⟩ z⟩
      rw [show 3 + i - (1 + 1) = 1 + i by omega]
      have s4 := up1 (o := HO.lst (X.tr (1 + i))) hp3
      have e4 : upd H3 p3 (HO.lst (X.tr (1 + i))) p3 = _ := upd_same
      generalize upd H3 p3 (HO.lst (X.tr (1 + i))) = H4 at s4 e4 ⊢
      have hwl4 := s4 _ _ (s13 _ _ hwl)
      refine ⟨_, rfl, p3, _, -1, _, rfl, rfl, SqL.of e4, atI_getLast (hw i hi4), _, rfl, _, rfl, wl, _, _, _, rfl, rfl, SqL.of hwl4, (by rw [show (0 : Int) + (i : Int) = ((i : Nat) : Int) by omega]; exact atI_nat (j := i) (by rw [List.getElem?_map, List.getElem?_range hi4]; rfl)), rfl, _, rfl, iteNS rfl ⟨_, rfl, s3.trans s4⟩⟩
    · rintro σ H3 ⟨x4, rfl, s3⟩
      exact k H3 (s12.trans s3)
end
end Dk

set_option maxHeartbeats 4000000
/-! the law's entries -/
namespace Dk
open PySem PySem.Spec PyProof.Rows L2
abbrev sEntr : Stmt := top 35
abbrev NEn : List Str := ["tape", "place", "words", "serial", "entries", "misfit", "index", "number", "old"]
theorem or_use {t1 t2 : TT} {σ : L2.St} {H : Hp} {Kt : Bool → Hp → Prop} (b1 b2 : Bool) (h1 : ∀ K' : Bool → Hp → Prop, K' b1 H → t1 σ H K') (h2 : ∀ K' : Bool → Hp → Prop, K' b2 H → t2 σ H K') (h : Kt (b1 || b2) H) : tOr t1 t2 σ H Kt := by
  refine h1 _ ?_
  cases b1 with
  | true => exact iteT h
  | false => exact iteF (h2 _ h)
theorem and_use {t1 t2 : TT} {σ : L2.St} {H : Hp} {Kt : Bool → Hp → Prop} (b1 b2 : Bool) (h1 : ∀ K' : Bool → Hp → Prop, K' b1 H → t1 σ H K') (h2 : ∀ K' : Bool → Hp → Prop, K' b2 H → t2 σ H K') (h : Kt (b1 && b2) H) : tAnd t1 t2 σ H Kt := by
  refine h1 _ ?_
  cases b1 with
  | true => exact iteT (h2 _ h)
  | false => exact iteF h
structure Ents (ws : Nat → Int) (sr : Int) (hi : Nat) (es : List En) (m : Nat) : Prop where
  asc : (es.map En.c).Pairwise (· < ·)
  rng : ∀ e ∈ es, 3 ≤ e.c ∧ e.c < hi
  nw : ∀ e ∈ es, e.n = 60 + 8 * sr + ((e.c - 3 : Nat) : Int)
  pre : ∀ j e, es[j]? = some e → j < m → e.o = ws (e.c - 3)
  mis : ∀ e, es[m]? = some e → ws (e.c - 3) ≠ e.o
  le : m ≤ es.length
  sz : es.length + 3 ≤ hi
theorem ents_nil {ws : Nat → Int} {sr : Int} : Ents ws sr (3 + 0) [] 0 := ⟨.nil, (fun e h => by cases h), (fun e h => by cases h), (fun j e h => by cases h), (fun e h => by cases h), Nat.le_refl _, Nat.le_refl _⟩
theorem ents_skip {ws : Nat → Int} {sr : Int} {i m : Nat} {es : List En} (E : Ents ws sr (3 + i) es m) : Ents ws sr (3 + (i + 1)) es m := ⟨E.asc, (fun e h => ⟨(E.rng e h).1, by have := (E.rng e h).2; omega⟩), E.nw, E.pre, E.mis, E.le, by have := E.sz; omega⟩
theorem ents_app {ws : Nat → Int} {sr : Int} {i m m' : Nat} {es : List En} {old : Int} (E : Ents ws sr (3 + i) es m) (h : (m = es.length ∧ old = ws i ∧ m' = es.length + 1) ∨ (m = es.length ∧ ws i ≠ old ∧ m' = es.length) ∨ (m < es.length ∧ m' = m)) :
    Ents ws sr (3 + (i + 1)) (es ++ [⟨3 + i, old, 60 + 8 * sr + (i : Int)⟩]) m' := by
  have hget : ∀ j e, (es ++ [(⟨3 + i, old, 60 + 8 * sr + (i : Int)⟩ : En)])[j]? = some e → (j < es.length ∧ es[j]? = some e) ∨ (j = es.length ∧ e = ⟨3 + i, old, 60 + 8 * sr + (i : Int)⟩) := fun j e he => by
    by_cases hj : j < es.length
    · rw [List.getElem?_append_left hj] at he
      exact .inl ⟨hj, he⟩
    · rw [List.getElem?_append_right (by omega)] at he
      have h0 : j - es.length = 0 := by
        have := (List.getElem?_eq_some_iff.mp he).1
        rw [List.length_singleton] at this
        omega
      rw [h0] at he
      exact .inr ⟨by omega, (Option.some.inj he).symm⟩
  refine ⟨?_, fun e he => ?_, fun e he => ?_, fun j e he hj => ?_, fun e he => ?_, ?_, ?_⟩
  · rw [List.map_append]
    refine List.pairwise_append.mpr ⟨E.asc, List.pairwise_singleton _ _, fun a ha b hb => ?_⟩
    obtain ⟨e, he, rfl⟩ := List.mem_map.mp ha
    rw [List.mem_singleton.mp hb]
    exact (E.rng e he).2
  · rcases List.mem_append.mp he with h | h
    · have := E.rng e h
      exact ⟨this.1, by omega⟩
    · rw [List.mem_singleton.mp h]
      exact ⟨by show 3 ≤ 3 + i; omega, by show 3 + i < 3 + (i + 1); omega⟩
  · rcases List.mem_append.mp he with h | h
    · exact E.nw e h
    · rw [List.mem_singleton.mp h]
      show 60 + 8 * sr + (i : Int) = 60 + 8 * sr + ((3 + i - 3 : Nat) : Int)
      omega
  · rcases hget j e he with ⟨h1, h2⟩ | ⟨h1, rfl⟩
    · exact E.pre j e h2 (by omega)
    · rcases h with ⟨a, b, c⟩ | ⟨a, b, c⟩ | ⟨a, b⟩
      · show old = ws (3 + i - 3)
        rw [show 3 + i - 3 = i by omega]
        exact b
      · omega
      · omega
  · rcases hget m' e he with ⟨h1, h2⟩ | ⟨h1, rfl⟩
    · rcases h with ⟨a, b, c⟩ | ⟨a, b, c⟩ | ⟨a, b⟩
      · omega
      · omega
      · rw [b] at h2
        exact E.mis e h2
    · rcases h with ⟨a, b, c⟩ | ⟨a, b, c⟩ | ⟨a, b⟩
      · omega
      · show ws (3 + i - 3) ≠ old
        rw [show 3 + i - 3 = i by omega]
        exact b
      · omega
  · rw [List.length_append, List.length_singleton]
    rcases h with ⟨a, b, c⟩ | ⟨a, b, c⟩ | ⟨a, b⟩ <;> omega
  · rw [List.length_append, List.length_singleton]
    have := E.sz
    omega
def mfV (m l : Nat) : V := if m = l then .non else .int (m : Int)
theorem mfV_lt {m l : Nat} (h : m < l) : mfV m l = .int (m : Int) := if_neg (by omega)
theorem mfV_eq {l : Nat} : mfV l l = .non := if_pos rfl
def spEntr (K : PySem.W.Frag) : Sp := fun vs H Q _ => ∃ (tp wl : Addr) (ms : List Int) (pl : Nat) (sr : Int) (ws : Nat → Int), vs = [.ref tp, .int (pl : Int), .ref wl, .int sr] ∧ SqL K H tp (ms.map V.int) ∧ H wl = some (.lst ((List.range 4).map fun i => V.int (ws i))) ∧ (∀ i, i < 4 → ws i < 120) ∧
  ∀ (H' : Hp) (p el : Addr) (ts : List V) (es : List En) (m : Nat), Same H H' → H el = none → H' p = some (.tup [.ref el, mfV m es.length]) → H' el = some (.lst ts) → Paired (EnAt K H') ts es → 0 < es.length → Ents ws sr 7 es m → Q (.ref p) H'
section
variable {P : Program} {w : World} {K : PySem.W.Frag} {mg : Str → Option Value} {base : Heap} {C M NV LE : Addr}
theorem scEntr : FnScope NEn ["tape", "place", "words", "serial"] (defScope sEntr) := ⟨rfl, rfl, rfl, by decide +kernel, rfl, by decide +kernel, by decide +kernel⟩
theorem go_entr (F : GT K mg "_law_entries" sEntr ["tape", "place", "words", "serial"]) (B0 : Bn mg) (GAt : GO P w K mg base CX0 1 "_law_at" ["tape", "k"] (spAt K)) : GO P w K mg base CX0 2 "_law_entries" ["tape", "place", "words", "serial"] (spEntr K) := by
  obtain ⟨f, fd, F, hm, hb⟩ := F
  refine ⟨f, fd, ?_, hm, F.kp, hb⟩
  refine F.ok scEntr (fun vs H Q E h => ?_) (fun cdv A outer s H vs Q E hr h => ?_)
  · obtain ⟨tp, wl, ms, pl, sr, ws, rfl, _⟩ := h
    rfl
  · obtain ⟨tp, wl, ms, pl, sr, ws, rfl, ht, hwl, hws, k⟩ := h
    have nd := scEntr.nd
    have hr1 : Room 1 _ := hr
    have hsl : sizeLine = 16777216 := sizeLine_eq
    refine ⟨_, (pss_cons (ps_set (i := 4) nd rfl (Or.inl rfl) (pe_lst pa_nil))
  (pss_cons (ps_set (i := 5) nd rfl (Or.inl rfl) pe_non)
  (pss_cons (ps_for PassesOwn.never rfl (pi_range1 (by rfl) B0.range (pa_cons pe_int pa_nil)) (pg_name (i := 6) nd rfl (Or.inl rfl))
  (pss_cons (ps_set (i := 7) nd rfl (Or.inl rfl) (pc_ GAt hr1 (pa_cons (pv 0) (pa_cons (pe_op op_add (pv 1) (pv 6)) pa_nil))))
  (pss_one (ps_if (PW.pt (pw_or (pt_cmpR op_eq (pe_op op_mod (pv 7) pe_int) pe_int (nomark _)) (pw_or1 (pt_cmpR op_eq (pv 6) (pe_op op_mod (pc_ GAt hr1 (pa_cons (pv 0) (pa_cons (pe_op op_add (pv 1) pe_int) pa_nil))) pe_int) (nomark _)))))
  (pss_cons (ps_set (i := 8) nd rfl (Or.inl rfl) (pe_ix ix_list (pv 2) (pv 6) (fun _ _ => rfl)))
  (C8.pss_cut (ps_if (PW.pt (pw_and (pt_cmpR op_eq (pe_op op_mod (pc_ GAt hr1 (pa_cons (pv 0) (pa_cons (pe_op op_add (pv 1) pe_int) pa_nil))) pe_int) pe_int (nomark _)) (pw_and1 (pt_cmpR op_eq (pe_op op_mod (pe_op op_fdiv (pv 7) pe_int) pe_int) pe_int (nomark _)))))
  (pss_cons (ps_set (i := 8) nd rfl (Or.inl rfl) (pe_op op_add pe_int (pe_op op_mod (pv 7) pe_int)))
  (pss_one (ps_if (pt_cmpR op_isN (pv 5) pe_non (nomark _))
  (pss_one (ps_set (i := 5) nd rfl (Or.inl rfl) (pe_callB call_len_seq (by rfl) B0.len PySem.boot_len (pa_cons (pv 4) pa_nil))))
  pss_nil)))
  pss_nil)
  (pss_one (ps_expr (pe_bm PySem.F.plainAttrs_list PySem.F.slot_list_append PySem.F.type_list_append mt_append (pv 4) (pa_cons (pe_tup (pa_cons (pe_op op_add pe_int (pv 6)) (pa_cons (pv 8) (pa_cons (pe_op op_add (pe_op op_add pe_int (pe_op op_mul pe_int (pv 3))) (pv 6)) pa_nil)))) pa_nil))))))
  pss_nil))))
  (pss_one (ps_ret (pe_tup (pa_cons (pv 4) (pa_cons (pv 5) pa_nil)))))))), ?_⟩
    refine ⟨(by show 0 ≤ sizeLine; omega), fun E0a hE => ?_⟩
    have s1 := up1 (o := HO.lst []) hE
    have e1 : upd H E0a (HO.lst []) E0a = _ := upd_same
    generalize upd H E0a (HO.lst []) = H1 at s1 e1 ⊢
    refine ⟨_, rfl, by decide, by decide, for_range (lo := 0) (n := (4 : Int).toNat) (fun i σ H' => ∃ (ts : List V) (es : List En) (m : Nat) (x6 x7 x8 : Option V), σ = [some (.ref tp), some (.int (pl : Int)), some (.ref wl), some (.int sr), some (.ref E0a), some (mfV m es.length), x6, x7, x8] ∧ H' E0a = some (.lst ts) ∧ Paired (EnAt K H') ts es ∧ Ents ws sr (3 + i) es m ∧ ((atD ms (pl + 8) % 4).toNat < i → 0 < es.length) ∧ Same H H') ⟨[], [], 0, _, _, _, rfl, e1, .nil, ents_nil, (fun h => by omega), s1⟩ ?_ ?_⟩
    · rintro i σ H2 hi ⟨ts, es, m, x6, x7, x8, rfl, hE2, hts, EN, hne, s2⟩
      have hi4 : i < 4 := hi
      have ht2 : SqL K H2 tp (ms.map V.int) := ht.elim (fun h => .inl (h.elim (fun h => .inl (s2 _ _ h)) fun ⟨o, h⟩ => .inr ⟨o, s2 _ _ h⟩)) fun h => .inr h
      have hwl2 := s2 _ _ hwl
      have atk : ∀ j : Nat, ∀ {Q' : VK}, Q' (.int (atD ms (pl + j))) H2 → spAt K [.ref tp, .int ((pl : Int) + (j : Int))] H2 Q' E0 := fun j Q' q => ⟨tp, ms, pl + j, by rw [show ((pl + j : Nat) : Int) = (pl : Int) + (j : Int) by omega], ht2, q⟩
      refine ⟨_, rfl, _, rfl, _, rfl, _, _, rfl, rfl, tp, ms, pl + i, (by rw [show ((pl + i : Nat) : Int) = (pl : Int) + (0 + (i : Int)) by omega]; rfl), ht2, ?_⟩
      generalize hqn : atD ms (pl + i) = q
      have hdm : 0 ≤ atD ms (pl + 8) % 4 ∧ atD ms (pl + 8) % 4 < 4 := by omega
      dsimp only [gName, tIfS]
      refine or_use (decide (V.int (q % 2) = V.int 0)) (decide (V.int (0 + (i : Int)) = V.int (atD ms (pl + 8) % 4))) (fun K' kk => ⟨_, rfl, _, _, rfl, rfl, (by show (0 : Int) < 2; decide), rfl, _, rfl, kk⟩) (fun K' kk => ⟨_, rfl, _, rfl, _, rfl, _, _, rfl, rfl, tp, ms, pl + 8, rfl, ht2, _, _, rfl, rfl, (by show (0 : Int) < 4; decide), rfl, _, rfl, kk⟩) ?_
      cases hb : (decide (V.int (q % 2) = V.int 0) || decide (V.int (0 + (i : Int)) = V.int (atD ms (pl + 8) % 4))) with
      | false =>
        have hb2 := (Bool.or_eq_false_iff.mp hb).2
        refine iteF ⟨ts, es, m, _, _, _, rfl, hE2, hts, ents_skip EN, fun hd => hne ?_, s2⟩
        have : ¬ (V.int (0 + (i : Int)) = V.int (atD ms (pl + 8) % 4)) := of_decide_eq_false hb2
        have : ¬ ((0 + (i : Int)) = atD ms (pl + 8) % 4) := fun z => this (congrArg V.int z)
        omega
      | true =>
        refine iteT ?_
        have hwi := hws i hi4
        refine ⟨_, rfl, _, rfl, wl, _, _, _, rfl, rfl, SqL.of hwl2, (by rw [show (0 : Int) + (i : Int) = ((i : Nat) : Int) by omega]; exact atI_nat (j := i) (by rw [List.getElem?_map, List.getElem?_range hi4]; rfl)), ?_⟩
        refine ⟨fun σ' H' => ∃ (old : Int) (m' : Nat), σ' = [some (.ref tp), some (.int (pl : Int)), some (.ref wl), some (.int sr), some (.ref E0a), some (mfV m' (es.length + 1)), some (.int (0 + (i : Int))), some (.int q), some (.int old)] ∧ H' = H2 ∧ Ents ws sr (3 + (i + 1)) (es ++ [⟨3 + i, old, 60 + 8 * sr + (i : Int)⟩]) m', ?_, ?_⟩
        · have hmc := Nat.lt_or_eq_of_le EN.le
          refine and_use (decide (V.int (atD ms (pl + 9) % 3) = V.int 0)) (decide (V.int (q / 2 % 3) = V.int 0)) (fun K' kk => ⟨_, rfl, _, rfl, _, _, rfl, rfl, tp, ms, pl + 9, rfl, ht2, _, _, rfl, rfl, (by show (0 : Int) < 3; decide), rfl, _, rfl, kk⟩) (fun K' kk => ⟨_, rfl, _, _, rfl, rfl, (by unfold CDiv; omega), _, _, rfl, rfl, (by show (0 : Int) < 3; decide), rfl, _, rfl, kk⟩) ?_
          cases hb9 : (decide (V.int (atD ms (pl + 9) % 3) = V.int 0) && decide (V.int (q / 2 % 3) = V.int 0)) with
          | false =>
            refine iteF ?_
            rcases hmc with hm | hm
            · refine ⟨ws i, m, ?_, rfl, ents_app EN (.inr (.inr ⟨hm, rfl⟩))⟩
              rw [mfV_lt hm, mfV_lt (Nat.lt_succ_of_lt hm)]
              rfl
            · refine ⟨ws i, es.length + 1, ?_, rfl, ents_app EN (.inl ⟨hm, rfl, rfl⟩)⟩
              rw [hm, mfV_eq, mfV_eq]
              rfl
          | true =>
            refine iteT ?_
            have h30 : 0 ≤ q % 30 := Int.emod_nonneg _ (by decide)
            refine ⟨_, rfl, _, _, rfl, rfl, (by show (0 : Int) < 30; decide), _, _, rfl, rfl, ?_⟩
            dsimp only [gName, tIfS]
            refine ⟨_, rfl, rfl, _, rfl, ?_⟩
            rcases hmc with hm | hm
            · have hd : decide (mfV m es.length = V.non) = false := decide_eq_false (by rw [mfV_lt hm]; intro z; cases z)
              rw [hd]
              refine iteF ⟨120 + q % 30, m, ?_, rfl, ents_app EN (.inr (.inr ⟨hm, rfl⟩))⟩
              rw [mfV_lt hm, mfV_lt (Nat.lt_succ_of_lt hm)]
              rfl
            · have hd : decide (mfV m es.length = V.non) = true := decide_eq_true (by rw [hm, mfV_eq])
              rw [hd]
              refine iteT ⟨_, rfl, E0a, _, rfl, .inl (SqL.of hE2), 120 + q % 30, es.length, ?_, rfl, ents_app EN (.inr (.inl ⟨hm, by omega, rfl⟩))⟩
              rw [mfV_lt (Nat.lt_succ_self _), plen hts]
              rfl
        · rintro σ' H' ⟨old, m', rfl, rfl, EN'⟩
          have hlt := plen hts
          have hsz := EN.sz
          refine ⟨_, rfl, .inl ⟨rfl, _, SqL.of hE2⟩, _, rfl, _, _, rfl, rfl, _, rfl, _, rfl, _, _, rfl, rfl, .inl ⟨by decide, by decide⟩, _, _, rfl, rfl, _, rfl, _, _, rfl, rfl, (by show 3 ≤ sizeLine; omega), fun t ht' => ?_⟩
          have e5 : upd H' t (HO.tup [V.int (3 + (0 + (i : Int))), V.int old, V.int (60 + 8 * sr + (0 + (i : Int)))]) t = some (.tup [.int ((3 + i : Nat) : Int), .int old, .int (60 + 8 * sr + (i : Int))]) := by
            rw [upd_same, show (3 : Int) + (0 + (i : Int)) = ((3 + i : Nat) : Int) by omega, show (0 : Int) + (i : Int) = (i : Int) by omega]
          have s5 := up1 (o := HO.tup [V.int (3 + (0 + (i : Int))), V.int old, V.int (60 + 8 * sr + (0 + (i : Int)))]) ht'
          show (fun H5 => _) (upd H' t (HO.tup [V.int (3 + (0 + (i : Int))), V.int old, V.int (60 + 8 * sr + (0 + (i : Int)))]))
          generalize upd H' t (HO.tup [V.int (3 + (0 + (i : Int))), V.int old, V.int (60 + 8 * sr + (0 + (i : Int)))]) = H5 at s5 e5 ⊢
          have x6 := kept_lst (ys := ts ++ [.ref t]) (s5 _ _ hE2)
          refine ⟨E0a, _, _, rfl, rfl, s5 _ _ hE2, (by omega), ts ++ [.ref t], es ++ [⟨3 + i, old, 60 + 8 * sr + (i : Int)⟩], m', some (.int (0 + (i : Int))), some (.int q), some (.int old), ?_, upd_same, papp (pmono (fun _ _ h => (h.ext (.of s5)).ext x6) hts) (.cons ⟨t, rfl, SqT.of (x6.1 _ _ e5)⟩ .nil), EN', (fun _ => by rw [List.length_append, List.length_singleton]; omega), fun b o e => by rw [upd_ne (ne_of_none e hE)]; exact s5 _ _ (s2 _ _ e)⟩
          rw [List.length_append, List.length_singleton]
    · rintro σ H2 ⟨ts, es, m, x6, x7, x8, rfl, hE2, hts, EN, hne, s2⟩
      refine ⟨_, rfl, _, rfl, (by show 2 ≤ sizeLine; omega), fun p hp => ?_⟩
      have s3 := up1 (o := HO.tup [V.ref E0a, mfV m es.length]) hp
      exact k _ p E0a ts es m (s2.trans s3) hE upd_same (s3 _ _ hE2) (pmono (fun _ _ h => h.ext (.of s3)) hts) (hne (by show _ < 4; omega)) EN
end
end Dk

set_option maxHeartbeats 4000000
/-! the law's refusals -/
namespace Dk
open PySem PySem.Spec PyProof.Rows L2
abbrev sRefd : Stmt := top 36
def spRefd (K : PySem.W.Frag) : Sp := fun vs H Q _ => ∃ (l : Addr) (ts : List V) (es : List En), vs = [.ref l] ∧ H l = some (.lst ts) ∧ Paired (EnAt K H) ts es ∧ es.length < 100 ∧ ¬ (0 < es.length ∧ Adj (es.map fun e => (e.c : Int))) ∧ ∀ H', Same H H' → Q (.bl true) H'
section
variable {P : Program} {w : World} {K : PySem.W.Frag} {mg : Str → Option Value} {base : Heap} {C M NV LE : Addr}
theorem scRefd : FnScope ["entries", "e"] ["entries"] (defScope sRefd) := ⟨rfl, rfl, rfl, by decide +kernel, rfl, by decide +kernel, by decide +kernel⟩
theorem go_refd (F : GT K mg "_law_refused" sRefd ["entries"]) (B0 : Bn mg) (X0 : XTxt K mg NV LE) (GDr : GO P w K mg base (L2.CX P w) 2 "deed_record" ["status", "entries", "thread", "number", "answer"] (spDeedR K NV)) : GO P w K mg base CX0 3 "_law_refused" ["entries"] (spRefd K) := by
  obtain ⟨f, fd, F, hm, hb⟩ := F
  obtain ⟨f2, fd2, F2, hm2, hk2, hb2⟩ := GDr
  refine ⟨f, fd, ?_, hm, F.kp, hb⟩
  refine F.ok scRefd (fun vs H Q E h => ?_) (fun cdv A outer s H vs Q E hr h => ?_)
  · obtain ⟨l, ts, es, rfl, _⟩ := h
    rfl
  · obtain ⟨l, ts, es, rfl, hl, hp, hln, bad, k⟩ := h
    have nd := scRefd.nd
    have hr2 : Room 2 _ := hr
    refine ⟨_, pss_cons (ps_try_as (i := 1) (tb := fun W => tDrop (tCallS (spDeedR K NV) (WE W) (tCons (tC (.int 20)) (tCons (tVar 0) (tCons (tC (.int 0)) (tCons (tC (.int 1)) (tCons (tC .non) tNil)))))))
      (ts := fun a cls d => tRet (tCB (rIsE' K NV a cls d) (tCons (tVar 1) (tCons (tC (.ref NV)) tNil)))) (Wout := fun _ _ _ _ => False) rfl rfl nd rfl rfl ⟨rfl, by decide, Or.inl X0.gL⟩ takes0
        (fun W pn xe tk _ => pss_one (ps_expr (pe_callS F2 hr2 rfl hm2 hk2 hb2 (fun σ => passAt tk σ) (by exact (pa_cons pe_int (pa_cons (pv 0) (pa_cons pe_int (pa_cons pe_int (pa_cons pe_non pa_nil)))))))))
        (fun a oe cls d pn hz hf => pss_one (ps_ret (pe_callB (call_isE' X0.eC hz hf) (by rfl) B0.isi (by decide +kernel) (pa_cons (pv 1) (pa_cons (pe_glob rfl X0.gN rfl) pa_nil)))))) (pss_one (ps_ret pe_bl)), ?_⟩
    refine ⟨_, rfl, l, _, _, _, _, ts, es, rfl, hl, hp, hln, fun ok => absurd ok bad, fun _ H' s1 => ?_⟩
    refine ⟨true, X0.eN, fun _ a ha => ?_, fun z => Bool.noConfusion z⟩
    refine ⟨_, rfl, rfl, rfl, _, _, true, rfl, fun u hu => hu, X0.kit, ?_⟩
    exact k H' s1
end
end Dk

set_option maxHeartbeats 4000000
/-! the law k05: its two runs -/
namespace Dk
open PySem PySem.Spec PyProof.Rows L2
def Mv (Z : Addr → Prop) (H : Hp) (Z' : Addr → Prop) (H' : Hp) : Prop := ∀ b o, H b = some o → ¬ Z b → H' b = some o ∧ ¬ Z' b
theorem Mv.trans {Z Z1 Z2 : Addr → Prop} {H H1 H2 : Hp} (a : Mv Z H Z1 H1) (b : Mv Z1 H1 Z2 H2) : Mv Z H Z2 H2 := fun c o h n => let ⟨h1, n1⟩ := a c o h n; b c o h1 n1
theorem Mv.same {Z : Addr → Prop} {H H' : Hp} (s : Same H H') : Mv Z H Z H' := fun c o h n => ⟨s c o h, n⟩
theorem Mv.step {m : Addr} {n : Nat} {A A' : Adr} {H H' : Hp} (s : Step m n A H A' H') : Mv (Foot m A n) H (Foot m A' n) H' := fun c o h hn => s.out h hn
def Ot (H : Hp) (Z : Addr → Prop) (b : Addr) (o : HO) : Prop := H b = some o ∧ ¬ Z b
theorem Ot.mv {H H' : Hp} {Z Z' : Addr → Prop} {b : Addr} {o : HO} (h : Ot H Z b o) (k : Mv Z H Z' H') : Ot H' Z' b o := k b o h.1 h.2
theorem eqv_sh {d : PyData} (h : SeqAt.shaped d = true) : PyData.eqv d d = true := SeqAt.eqv_refl _ (SeqAt.canLay_of_shaped h)
def dInts (ns : List Int) : PyData := .list (ns.map .int)
theorem dInts_lay : ∀ ns : List Int, PyData.canLayAll0 (ns.map PyData.int) = true
  | [] => by simp [PyData.canLayAll0]
  | n :: ns => by simp [PyData.canLayAll0, PyData.canLay0, dInts_lay ns]
theorem dInts_depth : ∀ ns : List Int, PyData.depthAll (ns.map PyData.int) ≤ 1
  | [] => by simp [PyData.depthAll]
  | n :: ns => by
    have := dInts_depth ns
    simp only [List.map_cons, PyData.depthAll, PyData.depth]
    omega
theorem dInts_shaped (ns : List Int) : SeqAt.shaped (dInts ns) = true := by
  have h := dInts_depth ns
  unfold dInts
  show (PyData.canLay0 (.list _) && decide (PyData.depth (.list _) ≤ 64)) = true
  rw [Bool.and_eq_true]
  refine ⟨by simp only [PyData.canLay0]; exact dInts_lay ns, decide_eq_true ?_⟩
  simp only [PyData.depth]
  omega
theorem dInts_all {K : PySem.W.Frag} {H : Hp} : ∀ ns : List Int, DpAll K H (ns.map V.int) (ns.map PyData.int)
  | [] => .nil
  | n :: ns => .cons (.int n) (dInts_all ns)
theorem dInts_dp {K : PySem.W.Frag} {H : Hp} {a : Addr} {ns : List Int} (h : SqL K H a (ns.map V.int)) : Dp K H (.ref a) (dInts ns) := .lst h (dInts_all ns)
/-- the words' list -/
abbrev wsV (ws : Nat → Int) : List V := (List.range 4).map fun i => V.int (ws i)
abbrev wsD (ws : Nat → Int) : PyData := dInts ((List.range 4).map ws)
theorem wsD_dp {K : PySem.W.Frag} {H : Hp} {a : Addr} {ws : Nat → Int} (h : H a = some (.lst (wsV ws))) : Dp K H (.ref a) (wsD ws) := dInts_dp (ns := (List.range 4).map ws) (SqL.of h)
structure Bs (C M : Addr) (H : Hp) (m tp : Addr) (ms : List Int) (A : Adr) (X : MS) (B : Nat) : Prop where
  D : MemAt C M H m 1 4 150 A X
  so : SOk X 1 155 B
  no : X.notes[0]? = some (nkv 1 [])
  tp : Ot H (Foot m A 155) tp (.lst (ms.map V.int))
theorem Bs.same {C M : Addr} {H H' : Hp} {m tp : Addr} {ms : List Int} {A : Adr} {X : MS} {B : Nat} (h : Bs C M H m tp ms A X B) (s : Same H H') : Bs C M H' m tp ms A X B := ⟨h.D.same s, h.so, h.no, h.tp.mv (Mv.same s)⟩
def Wds (X : MS) (ws : Nat → Int) : Prop := ∀ i, i < 4 → cellV X 1 (3 + i) = some (.int (ws i)) ∧ ws i < 120
/-- the record of the deed in its cell -/
def RcAt (K : PySem.W.Frag) (H : Hp) (X : MS) (ad : Nat) (es : List En) : Prop := ∃ dd qe y1 y2 y3, cellV X 1 ad = some (.ref dd) ∧ SqT K H dd [.str "deed", .int ((ad + 1 : Nat) : Int), .ref qe, y1, y2, y3] ∧ EnsAt K H qe es
theorem RcAt.ext {K : PySem.W.Frag} {H H' : Hp} {X : MS} {ad : Nat} {es : List En} (h : RcAt K H X ad es) (s : ExT H H') : RcAt K H' X ad es := let ⟨dd, qe, y1, y2, y3, h1, h2, h3⟩ := h; ⟨dd, qe, y1, y2, y3, h1, h2.extT s, h3.ext s⟩
theorem RcAt.eq {K : PySem.W.Frag} {H : Hp} {X X' : MS} {ad : Nat} {es : List En} (h : RcAt K H X ad es) (e : cellV X' 1 ad = cellV X 1 ad) : RcAt K H X' ad es := let ⟨dd, qe, y1, y2, y3, h1, h2, h3⟩ := h; ⟨dd, qe, y1, y2, y3, e.trans h1, h2, h3⟩
/-- the deed's own cells and words -/
structure Dd (ad : Nat) (es : List En) : Prop where
  l4 : es.length ≤ 4
  l0 : 0 < es.length
  ew : ∀ e ∈ es, 3 ≤ e.c ∧ e.c < 7
  nd : (es.map En.c).Nodup
  a0 : 20 ≤ ad
  a1 : ad < 32
theorem Dd.dc {ad : Nat} {es : List En} (d : Dd ad es) : DCl (ad + 1) es := ⟨⟨by have := d.a0; omega, by have := d.a1; omega⟩, fun e he => by have := d.ew e he; have := d.a0; omega, d.nd⟩
structure Af (K : PySem.W.Frag) (C M : Addr) (H : Hp) (m tp : Addr) (ms : List Int) (A : Adr) (X : MS) (B ad : Nat) (ws : Nat → Int) (es : List En) (y : Addr) (z : Str) (n : Int) : Prop where
  b : Bs C M H m tp ms A X B
  w : Wds X ws
  d : Dd ad es
  tr : X.tr (ad - 1) = [.ref y]
  e : ∀ e ∈ es, X.tr (e.c - 2) = [.int (ws (e.c - 3))]
  rc : RcAt K H X ad es
  yv : H y = some (.tup [.str z, .int n])
  z : z = "done" ∨ z = "failed"
section
variable {K : PySem.W.Frag} {C M : Addr} {H H' : Hp} {m tp : Addr} {ms : List Int} {A : Adr} {X : MS} {B ad : Nat} {ws : Nat → Int} {es : List En} {y : Addr} {z : Str} {n : Int}
theorem Af.same (h : Af K C M H m tp ms A X B ad ws es y z n) (s : Same H H') : Af K C M H' m tp ms A X B ad ws es y z n := ⟨h.b.same s, h.w, h.d, h.tr, h.e, h.rc.ext (.of s), s _ _ h.yv, h.z⟩
theorem st_dv {H : Hp} {y : Addr} (h : H y = some (.tup [.str z, .int n])) : DV K H (.ref y) (Sta.tup z n).tr := .tup (SqT.of h) (.cons (.sc (t := "str") rfl) (.cons (.sc (t := "int") rfl) .nil))
theorem st_dp (hz : z = "done" ∨ z = "failed") : ∃ d, SeqAt.shaped d = true ∧ ∀ (H : Hp) (y : Addr), H y = some (.tup [.str z, .int n]) → Dp K H (.ref y) d := ⟨(Sta.tup z n).tr.data, (Sta.nice (s := .tup z n) hz).1, fun H y h => DV.dp _ _ (st_dv h)⟩
end
/-- what a run leaves: the memory where it is told, whatever else stood stands still -/
theorem run_end {C M : Addr} {H H' H2 H3 : Hp} {m : Addr} {A A' : Adr} {X X' : MS} {Z Z' : Addr → Prop} (D : MemAt C M H m 1 4 150 A X) (sm : Same H H') (zla : ¬ Z A.a) (ea : A'.a = A.a) (D' : MemAt C M H2 m 1 4 150 A' X') (zf : ∀ b, Foot m A' 155 b → Z' b) (zs : Zst Z H' Z' H2)
    (k1 : ∀ b o, H2 b = some o → Z' b → H3 b = some o) (k3 : ∀ b o, H b = some o → ¬ Foot m A 155 b → H3 b = some o) (k4 : ∀ b, Z' b → Foot m A 155 b ∨ H b = none) : MemAt C M H3 m 1 4 150 A' X' ∧ Step m 155 A H A' H3 := by
  obtain ⟨da, hla⟩ := id D.lay
  refine ⟨D'.on (fun c o e hf => k1 c o e (zf c hf)) (fun o e => ?_), ⟨k3, fun b hb => k4 b (zf b hb)⟩⟩
  rw [ea] at e ⊢
  have h2 := zs.1 _ _ (sm _ _ hla) zla
  rw [h2] at e
  cases e
  exact k3 _ _ hla (lay_out D)
structure DoT (P : Program) (W : World) (K : PySem.W.Frag) (mg : Str → Option Value) (base : Heap) (CD fa gd gs gc gw gsw : Addr) : Prop where
  mc : MCl P W K mg base CD fa
  fid : PySem.W.fnIn K gd = true
  FD : FnR P W K mg base CX0 5 gd (spDDeed K CD gs)
  fi : PySem.W.fnIn K gs = true
  FT : FnR P W K mg base CX0 5 gs (spDStat K CD gw gs gc)
  fic : PySem.W.fnIn K gc = true
  FC : FnR P W K mg base CX0 5 gc (spDClose CD)
  fiw : PySem.W.fnIn K gw = true
  FW : FnR P W K mg base CX0 5 gw (spDWord K CD gsw gs)
  fis : PySem.W.fnIn K gsw = true
  FS : FnR P W K mg base CX0 5 gsw (spDSwap K CD gw gs)
/-- the words behind a deed -/
def wsA (ws : Nat → Int) (sr : Int) (cs : List Nat) : Nat → Int := fun i => if 3 + i ∈ cs then 60 + 8 * sr + (i : Int) else ws i
theorem step_ext {C M : Addr} {H H' : Hp} {m : Addr} {A A' : Adr} {X : MS} (D : MemAt C M H m 1 4 150 A X) (s : Step m 155 A H A' H') : ExT H H' := s.ext D
section
variable {P : Program} {W : World} {K : PySem.W.Frag} {mg : Str → Option Value} {base : Heap} {C M CD fa gd gs gc gw gsw m tp : Addr} {ms : List Int} {H : Hp} {A : Adr} {X : MS} {B ad : Nat} {ws : Nat → Int} {es : List En}
theorem run2 {y : Addr} {z : Str} {n : Int} {Q : VK} {E : XK} (T : DoT P W K mg base CD fa gd gs gc gw gsw) (h : Af K C M H m tp ms A X B ad ws es y z n) (hB : B < 1000)
    (k : ∀ H3 A3 X3, A3.a = A.a → Af K C M H3 m tp ms A3 X3 (B + 26) ad ws es y z n → X3.count = X.count + 5 + 2 * (es.length : Int) → Step m 155 A H A3 H3 → Q (.ref y) H3) : spRun P W K mg base C M CD gd [.ref m, .int (ad : Int)] H Q E := by
  have dc := h.d.dc
  have a0 := h.d.a0
  have a1 := h.d.a1
  have l4 := h.d.l4
  obtain ⟨dd, qe, y1, y2, y3, hcd, hdd, hes⟩ := h.rc
  refine ⟨m, ad, 2 * es.length + 3 + 2, B, A, X, rfl, by omega, hB, h.b.D, h.b.so, fun H' a dx q l qm es0 sm na nl s hq hqm => ?_⟩
  have x := ExT.of sm
  have hu : ∀ e ∈ es, cellV X 1 e.c = some (.int (ws (e.c - 3))) := fun e he => by
    have hr := h.d.ew e he
    rw [cellV_tr (by omega), h.e e he]
    rfl
  have hs0 : cellV X 1 (ad + 1) = some (.ref y) := by
    rw [cellV_tr (by omega), show ad + 1 - 2 = ad - 1 by omega, h.tr]
    rfl
  refine again_go (u := fun e => ws (e.c - 3)) (st := .tup z n) T.mc T.fid T.FD T.fi T.FT T.fic T.FC dc (by omega) (by omega) h.z (by intro q; cases q) s hq hqm hcd (hdd.extT x) (hes.ext x) hs0 (sm _ _ h.yv) (DV.ext sm _ _ (st_dv h.yv)) hu h.b.no h.b.so.psl ?_
  intro H2 A' X' B' Z' ea hy2 de D' so' zf zl zs H3 so3 k1 x23 k3 k4
  obtain ⟨D3, st⟩ := run_end h.b.D sm s.zla ea D' zf zs k1 k3 k4
  have x03 := step_ext h.b.D st
  refine k H3 A' X' ea ⟨⟨D3, so3.mono (by omega), de.no, h.b.tp.mv (Mv.step st)⟩, fun i hi => ⟨?_, (h.w i hi).2⟩, h.d, ?_, de.e, (h.rc.ext x03).eq (de.c0 ad fun z => ?_), x03.1 _ _ h.yv, h.z⟩ (by have := de.n; omega) st
  · by_cases c : 3 + i ∈ es.map En.c
    · obtain ⟨e, he, hc⟩ := List.mem_map.mp c
      have := de.e e he
      rw [cellV_tr (by omega), ← hc, this, hc, show 3 + i - 3 = i by omega]
      rfl
    · rw [de.c0 _ c]
      exact (h.w i hi).1
  · have := de.s
    rwa [show ad + 1 - 2 = ad - 1 by omega] at this
  · obtain ⟨e, he, hc⟩ := List.mem_map.mp z
    have := h.d.ew e he
    omega
theorem run1 {mi : Nat} {sr : Int} {Q : VK} {E : XK} (T : DoT P W K mg base CD fa gd gs gc gw gsw) (b : Bs C M H m tp ms A X B) (w : Wds X ws) (d : Dd ad es) (en : Ents ws sr 7 es mi) (hsr : 0 ≤ sr ∧ sr < 6) (rc : RcAt K H X ad es) (hs0 : cellV X 1 (ad + 1) = some (.int 0)) (hB : B < 1000)
    (k : ∀ H3 A3 X3 y, A3.a = A.a → Af K C M H3 m tp ms A3 X3 (B + 46) ad (wsA ws sr (if mi = es.length then es.map En.c else [])) es y (zOf mi es.length) (X.count + 2 + (toDec mi es.length 0 : Int) + 1) → X3.count = X.count + 2 + (toDec mi es.length 0 : Int) + 2 + (2 * (es.length : Int) + 3) → Step m 155 A H A3 H3 → Q (.ref y) H3) : spRun P W K mg base C M CD gd [.ref m, .int (ad : Int)] H Q E := by
  have dc := d.dc
  have a0 := d.a0
  have a1 := d.a1
  have l4 := d.l4
  have hml := en.le
  obtain ⟨dd, qe, y1, y2, y3, hcd, hdd, hes⟩ := id rc
  have htd : toDec mi es.length 0 ≤ 8 := by unfold toDec; split <;> omega
  refine ⟨m, ad, 2 * es.length + 3 + 2 + toDec mi es.length 0 + 2, B, A, X, rfl, by omega, hB, b.D, b.so, fun H' a dx q l qm es0 sm na nl s hq hqm => ?_⟩
  have x := ExT.of sm
  have hu : ∀ e ∈ es, cellV X 1 e.c = some (.int (ws (e.c - 3))) := fun e he => by
    have hr := d.ew e he
    have := (w (e.c - 3) (by omega)).1
    rwa [show 3 + (e.c - 3) = e.c by omega] at this
  refine start_go (u := fun e => ws (e.c - 3)) (m := mi) T.mc T.fid T.FD T.fi T.FT T.fic T.FC T.fiw T.FW T.fis T.FS dc (by omega) (by omega) d.l0 hml (fun j e he hj => (en.pre j e he hj).symm) (fun e he => en.mis e he) s hq hqm hcd (hdd.extT x) (hes.ext x) hs0 hu b.no b.so.psl ?_
  intro H2 A' X' B' Z' y ea hy2 de D' so' zf zl zs H3 so3 k1 x23 k3 k4
  obtain ⟨D3, st⟩ := run_end b.D sm s.zla ea D' zf zs k1 k3 k4
  have x03 := step_ext b.D st
  have hwn : ∀ e ∈ es, (if mi = es.length then e.n else ws (e.c - 3)) = wsA ws sr (if mi = es.length then es.map En.c else []) (e.c - 3) := fun e he => by
    have hr := d.ew e he
    unfold wsA
    by_cases c : mi = es.length
    · rw [if_pos c, if_pos c, if_pos (by rw [show 3 + (e.c - 3) = e.c by omega]; exact List.mem_map.mpr ⟨e, he, rfl⟩), en.nw e he]
    · rw [if_neg c, if_neg c, if_neg (by simp)]
  refine k H3 A' X' y ea ⟨⟨D3, so3.mono (by omega), de.no, b.tp.mv (Mv.step st)⟩, fun i hi => ⟨?_, ?_⟩, d, ?_, fun e he => by rw [de.e e he, hwn e he], (rc.ext x03).eq (de.c0 ad (by omega) fun z => ?_), x23.1 _ _ hy2, ?_⟩ (by have := de.n; omega) st
  · by_cases c : 3 + i ∈ es.map En.c
    · obtain ⟨e, he, hc⟩ := List.mem_map.mp c
      have := de.e e he
      rw [hwn e he] at this
      rw [cellV_tr (by omega), ← hc, this, hc, show 3 + i - 3 = i by omega]
      rfl
    · rw [de.c0 _ (by omega) c, (w i hi).1]
      unfold wsA
      rw [if_neg (by split; exact c; simp)]
  · unfold wsA
    have := (w i hi).2
    split
    · omega
    · omega
  · have := de.s
    rwa [show ad + 1 - 2 = ad - 1 by omega] at this
  · obtain ⟨e, he, hc⟩ := List.mem_map.mp z
    have := d.ew e he
    omega
  · unfold zOf
    split
    · exact .inl rfl
    · exact .inr rfl
end
end Dk

set_option maxHeartbeats 4000000
/-! the law k05: a deed done once more -/
namespace Dk
open PySem PySem.Spec PyProof.Rows L2
abbrev sLaw : Stmt := top 38
abbrev NLw : List Str := ["script", "tape", "memory", "place", "serial", "address", "words", "entries", "misfit", "before", "told", "many", "due", "entry", "accesses"]
theorem scLaw : FnScope NLw ["script"] (defScope sLaw) := ⟨rfl, rfl, rfl, by decide +kernel, rfl, by decide +kernel, by decide +kernel⟩
def loopBody : Stmt → List Stmt
  | .For _ _ b _ _ => b
  | _ => []
abbrev tB : List Stmt := loopBody ((defBody sLaw).getD 4 (.Pass ⟨0, 0, 0, 0⟩))
abbrev s5 (a tp m : Addr) (pl : Nat) (sr : Int) (ad : Nat) (wl el : Addr) (v8 v9 v10 v11 v12 v13 v14 : Option V) : L2.St := [some (.ref a), some (.ref tp), some (.ref m), some (.int (pl : Int)), some (.int sr), some (.int (ad : Int)), some (.ref wl), some (.ref el), v8, v9, v10, v11, v12, v13, v14]
section
variable {P : Program} {w : World} {K : PySem.W.Frag} {mg : Str → Option Value} {base : Heap} {C M CD fa gd gs gc gw gsw NV LE : Addr}
theorem law_t15 {f : Addr} {cdv : Value} {A0 : Around} {outer : List Env} {s : Shared} {Hs : Hp} {E : XK} (hr : Room 20 (A0.deeper (envOfC "law" (defScope sLaw) s.heap.objs.size f cdv))) (B0 : Bn mg) (TM : MTxt K M) (T : DoT P w K mg base CD fa gd gs gc gw gsw)
    (GAt : GO P w K mg base CX0 1 "_law_at" ["tape", "k"] (spAt K)) (GRu : GO P w K mg base CX0 20 "_law_run" ["memory", "address"] (spRun P w K mg base C M CD gd)) (GLw : GO P w K mg base CX0 9 "_law_words" ["memory"] (spWords C M)) (GLs : GO P w K mg base CX0 10 "_law_lasts" ["memory", "address", "status", "words"] (spLasts K C M)) :
    ∃ t, PSs (cxOf CX0 P w K mg base NLw "law" (defScope sLaw) f cdv A0 outer s Hs E).nox (tB.drop 15) t ∧
      ∀ (De : Ends) (a tp m wl el p y : Addr) (ms : List Int) (pl ad B l : Nat) (sr bf ac n : Int) (z : Str) (v8 v10 v13 : Option V) (H : Hp) (A : Adr) (X : MS) (ws : Nat → Int) (es : List En), B < 900 → l = es.length → Af K C M H m tp ms A X B ad ws es y z n → Ot H (Foot m A 155) wl (.lst (wsV ws)) → H p = some (.tup [.str z, .int n]) → X.count = bf + ac →
        (∀ H' A' X', A'.a = A.a → Bs C M H' m tp ms A' X' (B + 26) → Wds X' ws → De.nx (s5 a tp m (pl + 11) sr ad wl el v8 (some (.int bf)) v10 (some (.int (l : Int))) (some (.ref p)) v13 (some (.int ac))) H') →
        t De (s5 a tp m (pl + 11) sr ad wl el v8 (some (.int bf)) v10 (some (.int (l : Int))) (some (.ref p)) v13 (some (.int ac))) H := by
  have nd := scLaw.nd
  have hr1 : Room 1 _ := hr.mono (by decide)
  have hr9 : Room 9 _ := hr.mono (by decide)
  have hr10 : Room 10 _ := hr.mono (by decide)
  have hr20 : Room 20 _ := hr
  have hsl : sizeLine = 16777216 := sizeLine_eq
  refine ⟨_, (pss_one (ps_if (pt_cmpR op_eq (pe_op op_mod (pc_ GAt hr1 (pa_cons (pv 1) (pa_cons (pe_op op_sub (pv 3) pe_int) pa_nil))) pe_int) pe_int (nomark _))
  (pss_cons (ps_if (PW.pt (pw_or (pt_cmpR (op_neD hr.units) (pc_ GRu hr20 (pa_cons (pv 2) (pa_cons (pv 5) pa_nil))) (pv 12) (nomark _)) (pw_or1 (pt_cmpR op_ne (pe_fld (pv 2) rfl) (pe_op op_add (pe_op op_add (pe_op op_add (pv 9) (pv 14)) pe_int) (pe_op op_mul pe_int (pv 11))) (nomark _)))))
  (pss_one (ps_ret pe_bl))
  pss_nil)
  (pss_one (ps_if (PW.pt (pw_or (pt_cmpR (op_neD hr.units) (pc_ GLw hr9 (pa_cons (pv 2) pa_nil)) (pv 6) (nomark _)) (pw_or1 (pt_not (pt_val (pc_ GLs hr10 (pa_cons (pv 2) (pa_cons (pv 5) (pa_cons (pv 12) (pa_cons (pv 6) pa_nil))))))))))
  (pss_one (ps_ret pe_bl))
  pss_nil)))
  pss_nil)), ?_⟩
  intro De a tp m wl el p y ms pl ad B l sr bf ac n z v8 v10 v13 H A X ws es hB hl h hwl hp hcnt kD
  subst hl
  refine ⟨_, rfl, _, rfl, _, _, rfl, rfl, tp, ms, pl + 10, (by rw [show ((pl + 10 : Nat) : Int) = ((pl + 11 : Nat) : Int) - 1 by omega]; rfl), SqL.of h.b.tp.1, _, _, rfl, rfl, (by show (0 : Int) < 2; decide), rfl, _, rfl, ite2 (fun c => ?_) (fun c => ?_)⟩
  · refine ⟨_, rfl, _, rfl, run2 (E := E0) T h (by omega) fun H3 A3 X3 ea3 h3 hc3 st3 => ?_⟩
    have p3 := (step_ext h.b.D st3).1 _ _ hp
    obtain ⟨d, hd, hdp⟩ := st_dp (K := K) (n := n) h.z
    refine ⟨_, rfl, d, d, hdp _ _ h3.yv, hdp _ _ p3, hd, hd, _, rfl, iteC (by rw [eqv_sh hd]; rfl) ?_⟩
    obtain ⟨dm, hm⟩ := h3.b.D.ob
    refine ⟨_, rfl, m, M, dm, _, _, rfl, hm, TM.cl, TM.nC, rfl, _, rfl, _, rfl, _, _, rfl, rfl, _, _, rfl, rfl, _, rfl, _, _, rfl, rfl, .inl ⟨by decide, by decide⟩, _, _, rfl, rfl, rfl, _, rfl, ?_⟩
    have ec : V.int X3.count = V.int (bf + ac + 5 + 2 * (es.length : Int)) := by rw [hc3, hcnt]
    refine iteC (by rw [ec]; simp) ?_
    refine ⟨_, rfl, m, A3, X3, ws, rfl, h3.b.D, fun i hi => (h3.w i hi).1, fun H4 q4 s4 nq4 hq4 => ?_⟩
    have hwl3 := hwl.mv (Mv.step st3)
    have hwl4 := s4 _ _ hwl3.1
    refine ⟨_, rfl, wsD ws, wsD ws, wsD_dp hq4, wsD_dp hwl4, dInts_shaped _, dInts_shaped _, _, rfl, iteC (by rw [eqv_sh (dInts_shaped _)]; rfl) ?_⟩
    have h4 := h3.same s4
    have a0 := h4.d.a0
    have a1 := h4.d.a1
    refine ⟨_, rfl, _, rfl, _, rfl, _, rfl, m, p, wl, A3, X3, ad, .tup z n, ws, rfl, h4.b.D, by omega, by omega, ⟨_, h4.tr, st_dv h4.yv⟩, st_dv (s4 _ _ p3), h4.z, hwl4, fun i hi => ?_, fun H5 sx5 => ?_⟩
    · have := (h4.w i hi).1
      rwa [cellV_tr (by omega), show 3 + i - 2 = 1 + i by omega] at this
    · have h5 := h4.same sx5
      refine ⟨_, rfl, iteF ?_⟩
      exact kD H5 A3 X3 ea3 h5.b h5.w
  · have hso := h.b.so.mono (show B ≤ B + 26 by omega)
    exact kD H A X rfl ⟨h.b.D, hso, h.b.no, h.b.tp⟩ h.w
end
end Dk

set_option maxHeartbeats 4000000
/-! the law k05: what is asked behind a deed -/
namespace Dk
open PySem PySem.Spec PyProof.Rows L2
section
variable {P : Program} {w : World} {K : PySem.W.Frag} {mg : Str → Option Value} {base : Heap} {C M CD fa gd gs gc gw gsw NV LE : Addr}
theorem law_t12 {f : Addr} {cdv : Value} {A0 : Around} {outer : List Env} {s : Shared} {Hs : Hp} {E : XK} (hr : Room 20 (A0.deeper (envOfC "law" (defScope sLaw) s.heap.objs.size f cdv))) (B0 : Bn mg) (TM : MTxt K M) (T : DoT P w K mg base CD fa gd gs gc gw gsw)
    (GAt : GO P w K mg base CX0 1 "_law_at" ["tape", "k"] (spAt K)) (GRu : GO P w K mg base CX0 20 "_law_run" ["memory", "address"] (spRun P w K mg base C M CD gd)) (GLw : GO P w K mg base CX0 9 "_law_words" ["memory"] (spWords C M)) (GLs : GO P w K mg base CX0 10 "_law_lasts" ["memory", "address", "status", "words"] (spLasts K C M))
    (GTr : MO P w K mg base (L2.CX P w) M 9 "trail" ["self", "cell"] (spTrail C M NV)) :
    ∃ t, PSs (cxOf CX0 P w K mg base NLw "law" (defScope sLaw) f cdv A0 outer s Hs E).nox (tB.drop 12) t ∧
      ∀ (De : Ends) (a tp m wl el p y : Addr) (ms : List Int) (pl ad B l : Nat) (sr bf ac n : Int) (z : Str) (v8 v13 : Option V) (H : Hp) (A : Adr) (X : MS) (ws : Nat → Int) (es : List En) (ts : List V), B < 900 → l = es.length → Af K C M H m tp ms A X B ad ws es y z n → Ot H (Foot m A 155) wl (.lst (wsV ws)) → H el = some (.lst ts) → Paired (EnAt K H) ts es → H p = some (.tup [.str z, .int n]) → X.count = bf + ac →
        (∀ v13 H' A' X', A'.a = A.a → Bs C M H' m tp ms A' X' (B + 26) → Wds X' ws → De.nx (s5 a tp m (pl + 11) sr ad wl el v8 (some (.int bf)) (some (.ref y)) (some (.int (l : Int))) (some (.ref p)) v13 (some (.int ac))) H') →
        t De (s5 a tp m (pl + 11) sr ad wl el v8 (some (.int bf)) (some (.ref y)) (some (.int (l : Int))) (some (.ref p)) v13 (some (.int ac))) H := by
  have nd := scLaw.nd
  have hr1 : Room 1 _ := hr.mono (by decide)
  have hr9 : Room 9 _ := hr.mono (by decide)
  have hr10 : Room 10 _ := hr.mono (by decide)
  have hr20 : Room 20 _ := hr
  have hsl : sizeLine = 16777216 := sizeLine_eq
  obtain ⟨t15, hp15, r15⟩ := law_t15 (C := C) (w := w) (f := f) (cdv := cdv) (A0 := A0) (outer := outer) (s := s) (Hs := Hs) (E := E) hr B0 TM T GAt GRu GLw GLs
  refine ⟨_, (pss_cons (ps_if (PW.pt (pw_or (pt_cmpR (op_neD hr.units) (pv 10) (pv 12) (nomark _)) (pw_or (pt_cmpR op_ne (pe_fld (pv 2) rfl) (pe_op op_add (pv 9) (pv 14)) (nomark _)) (pw_or1 (pt_cmpR (op_neD hr.units) (pc_ GLw hr9 (pa_cons (pv 2) pa_nil)) (pv 6) (nomark _))))))
  (pss_one (ps_ret pe_bl))
  pss_nil)
  (pss_cons (ps_if (pt_not (pt_val (pc_ GLs hr10 (pa_cons (pv 2) (pa_cons (pv 5) (pa_cons (pv 12) (pa_cons (pv 6) pa_nil)))))))
  (pss_one (ps_ret pe_bl))
  pss_nil)
  (pss_cons (ps_for PassesOwn.never rfl (pi_list (pv 7)) (pg_name (i := 13) nd rfl (Or.inl rfl))
  (pss_one (ps_if (pt_cmpR op_ne (pe_callB call_len_seq (by rfl) B0.len PySem.boot_len (pa_cons (pmX_ GTr TM.cl hr9 (pv 2) (pa_cons (pe_ix ix_tup (pv 13) pe_int (fun _ _ => rfl)) pa_nil)) pa_nil)) pe_int (nomark _))
  (pss_one (ps_ret pe_bl))
  pss_nil)))
  hp15))), ?_⟩
  intro De a tp m wl el p y ms pl ad B l sr bf ac n z v8 v13 H A X ws es ts hB hl h hwl hel hes hp hcnt kD
  obtain ⟨d, hd, hdp⟩ := st_dp (K := K) (n := n) h.z
  have a0 := h.d.a0
  have a1 := h.d.a1
  have l4 := h.d.l4
  have hpl := plen hes
  refine ⟨_, rfl, _, rfl, d, d, hdp _ _ h.yv, hdp _ _ hp, hd, hd, _, rfl, iteC (by rw [eqv_sh hd]; rfl) ?_⟩
  obtain ⟨dm, hm⟩ := h.b.D.ob
  refine ⟨_, rfl, m, M, dm, _, _, rfl, hm, TM.cl, TM.nC, rfl, _, rfl, _, rfl, _, _, rfl, rfl, rfl, _, rfl, ?_⟩
  have ec : V.int X.count = V.int (bf + ac) := by rw [hcnt]
  refine iteC (by rw [ec]; simp) ?_
  refine ⟨_, rfl, m, A, X, ws, rfl, h.b.D, fun i hi => (h.w i hi).1, fun H4 q4 s4 nq4 hq4 => ?_⟩
  have hwl4 := s4 _ _ hwl.1
  refine ⟨_, rfl, wsD ws, wsD ws, wsD_dp hq4, wsD_dp hwl4, dInts_shaped _, dInts_shaped _, _, rfl, iteC (by rw [eqv_sh (dInts_shaped _)]; rfl) ?_⟩
  have h4 := h.same s4
  refine ⟨_, rfl, _, rfl, _, rfl, _, rfl, m, p, wl, A, X, ad, .tup z n, ws, rfl, h4.b.D, by omega, by omega, ⟨_, h4.tr, st_dv h4.yv⟩, st_dv (s4 _ _ hp), h4.z, hwl4, fun i hi => ?_, fun H5 sx5 => ?_⟩
  · have := (h4.w i hi).1
    rwa [cellV_tr (by omega), show 3 + i - 2 = 1 + i by omega] at this
  · have s45 := s4.trans sx5
    refine ⟨_, rfl, iteF ?_⟩
    refine ⟨_, rfl, el, rfl, ⟨_, SqL.of (s45 _ _ hel)⟩, for_list (xs := ts) (fun i σ H' => ∃ v13, σ = s5 a tp m (pl + 11) sr ad wl el v8 (some (.int bf)) (some (.ref y)) (some (.int (l : Int))) (some (.ref p)) v13 (some (.int ac)) ∧ Same H H') ⟨_, rfl, s45⟩ (fun i σ H' _ z => by obtain ⟨_, _, z⟩ := z; exact SqL.of (z _ _ hel)) ?_ ?_⟩
    · rintro i v σ H6 hi ⟨v13, rfl, s6⟩
      obtain ⟨e, he, q, rfl, hq⟩ := StPget hes hi
      have hm := List.mem_of_getElem? he
      have hc := h.d.ew e hm
      have h6 := h.same s6
      obtain ⟨dm6, hm6⟩ := h6.b.D.ob
      refine ⟨_, rfl, m, dm6, _, rfl, hm6, rfl, _, rfl, q, _, 0, _, rfl, rfl, hq.same s6, rfl, m, 1, 4, 150, e.c, A, X, rfl, h6.b.D, fun _ r hr' => ?_, fun z => absurd ⟨by omega, by omega⟩ z⟩
      have hone : X.tr (e.c - (1 + 1)) = [.int (ws (e.c - 3))] := h.e e hm
      rw [hone]
      refine ⟨r, _, rfl, .inl (SqL.of upd_same), rfl, _, rfl, iteNS rfl ⟨_, rfl, s6.trans (up1 hr')⟩⟩
    · rintro σ H6 ⟨v13, rfl, s6⟩
      exact r15 De a tp m wl el p y ms pl ad B l sr bf ac n z v8 (some (.ref y)) v13 H6 A X ws es hB hl (h.same s6) (hwl.mv (Mv.same s6)) (s6 _ _ hp) hcnt (fun H' A' X' ea b wd => kD v13 H' A' X' ea b wd)
end
end Dk

set_option maxHeartbeats 4000000
/-! the law k05: a deed, and what is due -/
namespace Dk
open PySem PySem.Spec PyProof.Rows L2
theorem wsV_set {w : Nat → Int} {v : Int} : ∀ {j : Nat}, j < 4 → (wsV w).set j (.int v) = wsV fun i => if i = j then v else w i
  | 0, _ => rfl
  | 1, _ => rfl
  | 2, _ => rfl
  | 3, _ => rfl
  | n + 4, h => by omega
theorem wsA_app {ws : Nat → Int} {sr : Int} {cs : List Nat} {c : Nat} (h : 3 ≤ c) : wsA ws sr (cs ++ [c]) = fun i => if i = c - 3 then 60 + 8 * sr + ((c - 3 : Nat) : Int) else wsA ws sr cs i := by
  funext i
  unfold wsA
  by_cases e : i = c - 3
  · rw [if_pos (List.mem_append.mpr (.inr (List.mem_singleton.mpr (by omega)))), if_pos e, e]
  · rw [if_neg e]
    by_cases d : 3 + i ∈ cs
    · rw [if_pos d, if_pos (List.mem_append.mpr (.inl d))]
    · rw [if_neg d, if_neg fun z => (List.mem_append.mp z).elim d fun z => e (by have := List.mem_singleton.mp z; omega)]
theorem wsA_nil {ws : Nat → Int} {sr : Int} : wsA ws sr [] = ws := by
  funext i
  unfold wsA
  rw [if_neg (by simp)]
section
variable {K : PySem.W.Frag} {C M : Addr} {H H' : Hp} {m tp : Addr} {ms : List Int} {A : Adr} {X : MS} {B ad : Nat} {ws : Nat → Int} {es : List En} {y : Addr} {z : Str} {n : Int}
theorem Af.put {wl : Addr} {xs : List V} (h : Af K C M H m tp ms A X B ad ws es y z n) (hw : Ot H (Foot m A 155) wl (.lst xs)) (ne : tp ≠ wl) (k : Kept wl H H') : Af K C M H' m tp ms A X B ad ws es y z n := by
  have x : ExT H H' := ⟨fun b xs e => k b _ e (ne_of e hw.1 (by intro z; cases z)), fun b o xs e => k b _ e (ne_of e hw.1 (by intro z; cases z))⟩
  obtain ⟨da, hla⟩ := h.b.D.lay
  exact ⟨⟨h.b.D.on (fun c o e hf => k c o e fun z => hw.2 (z ▸ hf)) (fun o e => k _ o e (ne_of hla hw.1 (by intro z; cases z))), h.b.so, h.b.no, k _ _ h.b.tp.1 ne, h.b.tp.2⟩, h.w, h.d, h.tr, h.e, h.rc.ext x, x.1 _ _ h.yv, h.z⟩
end
section
variable {P : Program} {w : World} {K : PySem.W.Frag} {mg : Str → Option Value} {base : Heap} {C M CD fa gd gs gc gw gsw NV LE : Addr}
theorem law_t8 {f : Addr} {cdv : Value} {A0 : Around} {outer : List Env} {s : Shared} {Hs : Hp} {E : XK} (hr : Room 20 (A0.deeper (envOfC "law" (defScope sLaw) s.heap.objs.size f cdv))) (B0 : Bn mg) (TM : MTxt K M) (T : DoT P w K mg base CD fa gd gs gc gw gsw)
    (GAt : GO P w K mg base CX0 1 "_law_at" ["tape", "k"] (spAt K)) (GRu : GO P w K mg base CX0 20 "_law_run" ["memory", "address"] (spRun P w K mg base C M CD gd)) (GLw : GO P w K mg base CX0 9 "_law_words" ["memory"] (spWords C M)) (GLs : GO P w K mg base CX0 10 "_law_lasts" ["memory", "address", "status", "words"] (spLasts K C M))
    (GTr : MO P w K mg base (L2.CX P w) M 9 "trail" ["self", "cell"] (spTrail C M NV)) :
    ∃ t, PSs (cxOf CX0 P w K mg base NLw "law" (defScope sLaw) f cdv A0 outer s Hs E).nox (tB.drop 8) t ∧
      ∀ (De : Ends) (a tp m wl el : Addr) (ms : List Int) (pl ad B mi : Nat) (sr : Int) (v9 v10 v11 v12 v13 v14 : Option V) (H : Hp) (A : Adr) (X : MS) (ws : Nat → Int) (es : List En) (ts : List V), B < 850 → Bs C M H m tp ms A X B → Wds X ws → Dd ad es → Ents ws sr 7 es mi → 0 ≤ sr ∧ sr < 6 → RcAt K H X ad es → cellV X 1 (ad + 1) = some (.int 0) →
        Ot H (Foot m A 155) wl (.lst (wsV ws)) → Ot H (Foot m A 155) el (.lst ts) → el ≠ wl → tp ≠ wl → Paired (EnAt K H) ts es →
        (∀ v9 v10 v11 v12 v13 v14 wl ws' H' A' X', A'.a = A.a → Bs C M H' m tp ms A' X' (B + 72) → Wds X' ws' → De.nx (s5 a tp m (pl + 11) sr ad wl el (some (mfV mi es.length)) v9 v10 v11 v12 v13 v14) H') →
        t De (s5 a tp m (pl + 11) sr ad wl el (some (mfV mi es.length)) v9 v10 v11 v12 v13 v14) H := by
  have nd := scLaw.nd
  have hr1 : Room 1 _ := hr.mono (by decide)
  have hr9 : Room 9 _ := hr.mono (by decide)
  have hr10 : Room 10 _ := hr.mono (by decide)
  have hr20 : Room 20 _ := hr
  have hsl : sizeLine = 16777216 := sizeLine_eq
  obtain ⟨t12, hp12, r12⟩ := law_t12 (C := C) (w := w) (f := f) (cdv := cdv) (A0 := A0) (outer := outer) (s := s) (Hs := Hs) (E := E) hr B0 TM T GAt GRu GLw GLs GTr
  refine ⟨_, (pss_cons (ps_set (i := 9) nd rfl (Or.inl rfl) (pe_fld (pv 2) rfl))
  (pss_cons (ps_set (i := 10) nd rfl (Or.inl rfl) (pc_ GRu hr20 (pa_cons (pv 2) (pa_cons (pv 5) pa_nil))))
  (pss_cons (ps_set (i := 11) nd rfl (Or.inl rfl) (pe_callB call_len_seq (by rfl) B0.len PySem.boot_len (pa_cons (pv 7) pa_nil)))
  (pss_cons (ps_if (pt_cmpR op_isN (pv 8) pe_non (nomark _))
  (pss_cons (ps_set (i := 12) nd rfl (Or.inl rfl) (pe_tup (pa_cons pe_str (pa_cons (pe_op op_add (pe_op op_add (pv 9) pe_int) (pe_op op_mul pe_int (pv 11))) pa_nil))))
  (pss_cons (ps_for PassesOwn.never rfl (pi_list (pv 7)) (pg_name (i := 13) nd rfl (Or.inl rfl))
  (pss_one (ps_asg (pe_ix ix_tup (pv 13) pe_int (fun _ _ => rfl)) (pg_sub (pv 6) (pe_op op_sub (pe_ix ix_tup (pv 13) pe_int (fun _ _ => rfl)) pe_int) set_list))))
  (pss_one (ps_set (i := 14) nd rfl (Or.inl rfl) (pe_op op_add pe_int (pe_op op_mul pe_int (pv 11)))))))
  (pss_cons (ps_set (i := 12) nd rfl (Or.inl rfl) (pe_tup (pa_cons pe_str (pa_cons (pe_op op_add (pe_op op_add (pv 9) pe_int) (pe_op op_mul pe_int (pv 8))) pa_nil))))
  (pss_one (ps_set (i := 14) nd rfl (Or.inl rfl) (pe_op op_add (pe_op op_add pe_int (pe_op op_mul pe_int (pv 8))) (pe_op op_mul pe_int (pv 11)))))))
  hp12)))), ?_⟩
  intro De a tp m wl el ms pl ad B mi sr v9 v10 v11 v12 v13 v14 H A X ws es ts hB b wd d en hsr rc hs0 hwl hel ne1 ne2 hes kD
  obtain ⟨dm, hm⟩ := b.D.ob
  have l4 := d.l4
  have hml := en.le
  have hpl := plen hes
  refine ⟨_, rfl, m, M, dm, _, _, rfl, hm, TM.cl, TM.nC, rfl, ?_⟩
  refine ⟨_, rfl, _, rfl, run1 (E := E0) T b wd d en hsr rc hs0 (by omega) fun H3 A3 X3 y ea3 h3 hc3 st3 => ?_⟩
  have x3 := step_ext b.D st3
  have hwl3 := hwl.mv (Mv.step st3)
  have hel3 := hel.mv (Mv.step st3)
  have hes3 : Paired (EnAt K H3) ts es := pmono (fun _ _ h => h.ext x3) hes
  refine ⟨_, rfl, el, _, rfl, .inl (SqL.of hel3.1), ?_⟩
  refine ⟨_, rfl, rfl, _, rfl, ?_⟩
  rcases Nat.lt_or_eq_of_le hml with c | c
  · have hd : decide (mfV mi es.length = V.non) = false := decide_eq_false (by rw [mfV_lt c]; intro z; cases z)
    have ez : zOf mi es.length = "failed" := if_neg (by omega)
    have ed : toDec mi es.length 0 = 2 * mi + 1 := by unfold toDec; rw [if_neg (by omega)]; omega
    rw [if_neg (by omega), wsA_nil] at h3
    rw [ez, ed] at h3
    rw [ed] at hc3
    rw [hd]
    refine iteF ?_
    rw [mfV_lt c] at kD ⊢
    rw [hpl]
    refine ⟨_, rfl, _, _, rfl, rfl, _, rfl, _, _, rfl, rfl, .inl ⟨by decide, by decide⟩, _, _, rfl, rfl, (by show 2 ≤ sizeLine; omega), fun p hp => ?_⟩
    have s4 := up1 (o := HO.tup [V.str "failed", V.int (X.count + 4 + 2 * (mi : Int))]) hp
    have e4 : upd H3 p (HO.tup [V.str "failed", V.int (X.count + 4 + 2 * (mi : Int))]) p = _ := upd_same
    show (fun H5 => _) (upd H3 p (HO.tup [V.str "failed", V.int (X.count + 4 + 2 * (mi : Int))]))
    generalize upd H3 p (HO.tup [V.str "failed", V.int (X.count + 4 + 2 * (mi : Int))]) = H4 at s4 e4 ⊢
    refine ⟨_, rfl, _, _, rfl, rfl, .inl ⟨by decide, by decide⟩, _, _, rfl, rfl, _, rfl, _, _, rfl, rfl, .inl ⟨by decide, by decide⟩, _, _, rfl, rfl, ?_⟩
    have h4 := h3.same s4
    rw [show X.count + 2 + ((2 * mi + 1 : Nat) : Int) + 1 = X.count + 4 + 2 * (mi : Int) by omega] at h4
    exact r12 De a tp m wl el p y ms pl ad (B + 46) es.length sr X.count (8 + 2 * (mi : Int) + 2 * (es.length : Int)) (X.count + 4 + 2 * (mi : Int)) "failed" (some (.int (mi : Int))) v13 H4 A3 X3 ws es ts (by omega) rfl h4 (hwl3.mv (Mv.same s4)) (s4 _ _ hel3.1) (pmono (fun _ _ h => h.ext (.of s4)) hes3) e4 (by omega) (fun v13 H' A' X' ea b wd => kD _ _ _ _ _ _ wl ws H' A' X' (ea.trans ea3) b wd)
  · have hd : decide (mfV mi es.length = V.non) = true := decide_eq_true (by rw [c, mfV_eq])
    have ez : zOf mi es.length = "done" := if_pos c
    have ed : toDec mi es.length 0 = 2 * es.length := by unfold toDec; rw [if_pos c]; omega
    rw [if_pos c] at h3
    rw [ez, ed] at h3
    rw [ed] at hc3
    rw [hd]
    refine iteT ?_
    rw [hpl]
    refine ⟨_, rfl, _, _, rfl, rfl, _, rfl, _, _, rfl, rfl, .inl ⟨by decide, by decide⟩, _, _, rfl, rfl, (by show 2 ≤ sizeLine; omega), fun p hp => ?_⟩
    have s4 := up1 (o := HO.tup [V.str "done", V.int (X.count + 3 + 2 * (es.length : Int))]) hp
    have e4 : upd H3 p (HO.tup [V.str "done", V.int (X.count + 3 + 2 * (es.length : Int))]) p = _ := upd_same
    show (fun H5 => _) (upd H3 p (HO.tup [V.str "done", V.int (X.count + 3 + 2 * (es.length : Int))]))
    generalize upd H3 p (HO.tup [V.str "done", V.int (X.count + 3 + 2 * (es.length : Int))]) = H4 at s4 e4 ⊢
    have h4 := h3.same s4
    have hwl4 := hwl3.mv (Mv.same s4)
    have hel4 := s4 _ _ hel3.1
    have hes4 : Paired (EnAt K H4) ts es := pmono (fun _ _ h => h.ext (.of s4)) hes3
    rw [show X.count + 2 + ((2 * es.length : Nat) : Int) + 1 = X.count + 3 + 2 * (es.length : Int) by omega] at h4
    refine ⟨_, rfl, el, rfl, ⟨_, SqL.of hel4⟩, for_list (xs := ts) (fun i σ H' => ∃ v13, σ = s5 a tp m (pl + 11) sr ad wl el (some (mfV mi es.length)) (some (.int X.count)) (some (.ref y)) (some (.int (es.length : Int))) (some (.ref p)) v13 v14 ∧ H' wl = some (.lst (wsV (wsA ws sr ((es.take i).map En.c)))) ∧ Kept wl H4 H') ⟨_, rfl, by rw [List.take_zero, List.map_nil, wsA_nil]; exact hwl4.1, fun _ _ e _ => e⟩ (fun i σ H' _ z => by obtain ⟨_, _, _, z⟩ := z; exact SqL.of (z _ _ hel4 ne1)) ?_ ?_⟩
    · rintro i v σ H6 hi ⟨v13, rfl, hw6, k6⟩
      obtain ⟨e, he, q, rfl, hq⟩ := StPget hes4 hi
      have hmm := List.mem_of_getElem? he
      have hc := d.ew e hmm
      have x6 : ExT H4 H6 := ⟨fun b xs e => k6 b _ e (ne_of e hwl4.1 (by intro z; cases z)), fun b o xs e => k6 b _ e (ne_of e hwl4.1 (by intro z; cases z))⟩
      have hq6 := hq.extT x6
      have hix : ixN (wsV (wsA ws sr ((es.take i).map En.c))).length ((e.c : Int) - 3) = some (e.c - 3) := by
        show ixN 4 ((e.c : Int) - 3) = _
        unfold ixN
        rw [if_pos (by omega), if_pos (by omega)]
        exact congrArg some (by omega)
      refine ⟨_, rfl, q, _, 2, _, rfl, rfl, hq6, rfl, _, rfl, _, rfl, q, _, 0, _, rfl, rfl, hq6, rfl, _, _, rfl, rfl, wl, _, _, _, rfl, rfl, hw6, hix, _, rfl, ?_, fun b o e1 n => by rw [upd_ne n]; exact k6 b o e1 n⟩
      have hil : i < es.length := (List.getElem?_eq_some_iff.mp he).1
      have ee : es[i] = e := by rw [List.getElem?_eq_getElem hil] at he; exact Option.some.inj he
      rw [upd_same, List.take_succ_eq_append_getElem hil, ee, List.map_append, List.map_singleton, wsA_app hc.1, wsV_set (by omega), en.nw e hmm]
    · rintro σ H6 ⟨v13, rfl, hw6, k6⟩
      rw [hpl, List.take_length] at hw6
      have x6 : ExT H4 H6 := ⟨fun b xs e => k6 b _ e (ne_of e hwl4.1 (by intro z; cases z)), fun b o xs e => k6 b _ e (ne_of e hwl4.1 (by intro z; cases z))⟩
      refine ⟨_, rfl, _, _, rfl, rfl, .inl ⟨by decide, by decide⟩, _, _, rfl, rfl, ?_⟩
      exact r12 De a tp m wl el p y ms pl ad (B + 46) es.length sr X.count (7 + 4 * (es.length : Int)) (X.count + 3 + 2 * (es.length : Int)) "done" (some (mfV mi es.length)) v13 H6 A3 X3 _ es ts (by omega) rfl (h4.put hwl4 ne2 k6) ⟨hw6, hwl4.2⟩ (k6 _ _ hel4 ne1) (pmono (fun _ _ h => h.ext x6) hes4) (x6.1 _ _ e4) (by omega) (fun v13 H' A' X' ea b wd => kD _ _ _ _ _ _ wl _ H' A' X' (ea.trans ea3) b wd)
end
end Dk

set_option maxHeartbeats 4000000
/-! the law k05: a deed's record is written -/
namespace Dk
open PySem PySem.Spec PyProof.Rows L2
def enT (e : En) : Tr := .tup [.sc (.int (e.c : Int)), .sc (.int e.o), .sc (.int e.n)]
def rcT (s sr : Int) (es : List En) : Tr := .tup [.sc (.str "deed"), .sc (.int s), .tup (es.map enT), .sc (.int 0), .sc (.int sr), .sc (.str "x")]
theorem strd_lay : (PyData.str "deed").canLay0 = true := by decide +kernel
theorem strx_lay : (PyData.str "x").canLay0 = true := by decide +kernel
theorem rcT_nice {s sr : Int} : ∀ {es : List En}, es.length ≤ 4 → Nice (rcT s sr es)
  | [], _ => by
    have h1 := strd_lay
    have h2 := strx_lay
    refine ⟨shaped_iff.mpr ⟨?_, ?_⟩, Nat.le_of_ble_eq_true rfl, ?_⟩ <;> simp [rcT, enT, Tr.data, datas, PyData.canLay0, PyData.canLayAll0, PyData.depth, PyData.depthAll] at h1 h2 ⊢ <;> simp [h1, h2]
  | [a], _ => by
    have h1 := strd_lay
    have h2 := strx_lay
    refine ⟨shaped_iff.mpr ⟨?_, ?_⟩, Nat.le_of_ble_eq_true rfl, ?_⟩ <;> simp [rcT, enT, Tr.data, datas, PyData.canLay0, PyData.canLayAll0, PyData.depth, PyData.depthAll] at h1 h2 ⊢ <;> simp [h1, h2]
  | [a, b], _ => by
    have h1 := strd_lay
    have h2 := strx_lay
    refine ⟨shaped_iff.mpr ⟨?_, ?_⟩, Nat.le_of_ble_eq_true rfl, ?_⟩ <;> simp [rcT, enT, Tr.data, datas, PyData.canLay0, PyData.canLayAll0, PyData.depth, PyData.depthAll] at h1 h2 ⊢ <;> simp [h1, h2]
  | [a, b, c], _ => by
    have h1 := strd_lay
    have h2 := strx_lay
    refine ⟨shaped_iff.mpr ⟨?_, ?_⟩, Nat.le_of_ble_eq_true rfl, ?_⟩ <;> simp [rcT, enT, Tr.data, datas, PyData.canLay0, PyData.canLayAll0, PyData.depth, PyData.depthAll] at h1 h2 ⊢ <;> simp [h1, h2]
  | [a, b, c, d], _ => by
    have h1 := strd_lay
    have h2 := strx_lay
    refine ⟨shaped_iff.mpr ⟨?_, ?_⟩, Nat.le_of_ble_eq_true rfl, ?_⟩ <;> simp [rcT, enT, Tr.data, datas, PyData.canLay0, PyData.canLayAll0, PyData.depth, PyData.depthAll] at h1 h2 ⊢ <;> simp [h1, h2]
  | a :: b :: c :: d :: e :: l, h => by simp at h
theorem ens_dv {K : PySem.W.Frag} {H : Hp} : ∀ {ts : List V} {es : List En}, Paired (EnAt K H) ts es → DVs K H ts (es.map enT)
  | [], [], _ => .nil
  | t :: ts, e :: es, h => by
    cases h with
    | cons h1 h2 =>
      obtain ⟨p, rfl, hp⟩ := h1
      exact .cons (.tup hp (.cons (.sc (t := "int") rfl) (.cons (.sc (t := "int") rfl) (.cons (.sc (t := "int") rfl) .nil)))) (ens_dv h2)
  | [], _ :: _, h => by cases h
  | _ :: _, [], h => by cases h
theorem rc_dv {K : PySem.W.Frag} {H : Hp} {p q : Addr} {ts : List V} {es : List En} {s sr : Int} (hp : H p = some (.tup [.str "deed", .int s, .ref q, .int 0, .int sr, .str "x"])) (hq : H q = some (.tup ts)) (h : Paired (EnAt K H) ts es) : DV K H (.ref p) (rcT s sr es) :=
  .tup (SqT.of hp) (.cons (.sc (t := "str") rfl) (.cons (.sc (t := "int") rfl) (.cons (.tup (SqT.of hq) (ens_dv h)) (.cons (.sc (t := "int") rfl) (.cons (.sc (t := "int") rfl) (.cons (.sc (t := "str") rfl) .nil))))))
theorem adj_of {ns : List Nat} (h : ns.Pairwise (· < ·)) : Adj (ns.map fun (n : Nat) => (n : Int)) := fun i x y hx hy => by
  rw [List.getElem?_map] at hx hy
  obtain ⟨a, ha, rfl⟩ := Option.map_eq_some_iff.mp hx
  obtain ⟨b, hb, rfl⟩ := Option.map_eq_some_iff.mp hy
  obtain ⟨l1, rfl⟩ := List.getElem?_eq_some_iff.mp ha
  obtain ⟨l2, rfl⟩ := List.getElem?_eq_some_iff.mp hb
  have := List.pairwise_iff_getElem.mp h i (i + 1) l1 l2 (by omega)
  omega
section
variable {P : Program} {w : World} {K : PySem.W.Frag} {mg : Str → Option Value} {base : Heap} {C M CD fa gd gs gc gw gsw NV LE : Addr}
theorem law_t3 {f : Addr} {cdv : Value} {A0 : Around} {outer : List Env} {s : Shared} {Hs : Hp} {E : XK} (hr : Room 20 (A0.deeper (envOfC "law" (defScope sLaw) s.heap.objs.size f cdv))) (B0 : Bn mg) (TM : MTxt K M) (T : DoT P w K mg base CD fa gd gs gc gw gsw)
    (GAt : GO P w K mg base CX0 1 "_law_at" ["tape", "k"] (spAt K)) (GRu : GO P w K mg base CX0 20 "_law_run" ["memory", "address"] (spRun P w K mg base C M CD gd)) (GLw : GO P w K mg base CX0 9 "_law_words" ["memory"] (spWords C M)) (GLs : GO P w K mg base CX0 10 "_law_lasts" ["memory", "address", "status", "words"] (spLasts K C M))
    (GTr : MO P w K mg base (L2.CX P w) M 9 "trail" ["self", "cell"] (spTrail C M NV)) (GAc : MO P w K mg base CX0 M 11 "access" ["self", "thread", "request"] (spAccess K C M)) (GPk : MO P w K mg base CX0 M 8 "peek" ["self", "cell"] (spPeek C M)) (GDf : MO P w K mg base CX0 M 9 "drift" ["self", "cell", "steps"] (spDrift C M))
    (GDr : GO P w K mg base (L2.CX P w) 2 "deed_record" ["status", "entries", "thread", "number", "answer"] (spDeedR K NV)) :
    ∃ t, PSs (cxOf CX0 P w K mg base NLw "law" (defScope sLaw) f cdv A0 outer s Hs E).nox (tB.drop 3) t ∧
      ∀ (De : Ends) (a tp m wl el : Addr) (ms : List Int) (pl ad B mi : Nat) (sr : Int) (v9 v10 v11 v12 v13 v14 : Option V) (H : Hp) (A : Adr) (X : MS) (ws : Nat → Int) (es : List En) (ts : List V), B < 800 → Bs C M H m tp ms A X B → Wds X ws → Dd ad es → Ents ws sr 7 es mi → 0 ≤ sr ∧ sr < 6 →
        Ot H (Foot m A 155) wl (.lst (wsV ws)) → Ot H (Foot m A 155) el (.lst ts) → el ≠ wl → tp ≠ wl → Paired (EnAt K H) ts es →
        (∀ v9 v10 v11 v12 v13 v14 wl ws' H' A' X', A'.a = A.a → Bs C M H' m tp ms A' X' (B + 76) → Wds X' ws' → De.nx (s5 a tp m (pl + 11) sr ad wl el (some (mfV mi es.length)) v9 v10 v11 v12 v13 v14) H') →
        t De (s5 a tp m pl sr ad wl el (some (mfV mi es.length)) v9 v10 v11 v12 v13 v14) H := by
  have nd := scLaw.nd
  have hr1 : Room 1 _ := hr.mono (by decide)
  have hr2 : Room 2 _ := hr.mono (by decide)
  have hr8 : Room 8 _ := hr.mono (by decide)
  have hr9 : Room 9 _ := hr.mono (by decide)
  have hrM : Room 11 _ := hr.mono (by decide)
  have zt := B0.tuple
  have hsl : sizeLine = 16777216 := sizeLine_eq
  obtain ⟨t8, hp8, r8⟩ := law_t8 (C := C) (w := w) (f := f) (cdv := cdv) (A0 := A0) (outer := outer) (s := s) (Hs := Hs) (E := E) hr B0 TM T GAt GRu GLw GLs GTr
  refine ⟨_, (pss_cons (ps_set (i := 3) nd rfl (Or.inl rfl) (pe_op op_add (pv 3) pe_int))
  (pss_cons (ps_expr (pm_ GAc TM.cl hrM (pv 2) (pa_cons pe_int (pa_cons (pe_tup (pa_cons pe_str (pa_cons (pe_op op_add (pv 5) pe_int) (pa_cons pe_int pa_nil)))) pa_nil))))
  (pss_cons (ps_expr (pm_ GAc TM.cl hrM (pv 2) (pa_cons pe_int (pa_cons (pe_tup (pa_cons pe_str (pa_cons (pv 5) (pa_cons (pcX_ GDr hr2 (pa_cons (pe_op op_add (pv 5) pe_int) (pa_cons (pv 7) (pa_cons pe_int (pa_cons (pv 4) (pa_cons pe_str pa_nil)))))) pa_nil)))) pa_nil))))
  (pss_cons (ps_if (pt_cmpR (op_neD hr.units) (pm_ GPk TM.cl hr8 (pv 2) (pa_cons (pv 5) pa_nil)) (pe_tup (pa_cons pe_str (pa_cons (pe_op op_add (pv 5) pe_int) (pa_cons (pe_callTy call_tuple_of (by rfl) zt (by decide +kernel) (pa_cons (pv 7) pa_nil)) (pa_cons pe_int (pa_cons (pv 4) (pa_cons pe_str pa_nil))))))) (nomark _))
  (pss_one (ps_ret pe_bl))
  pss_nil)
  (pss_cons (ps_expr (pm_ GDf TM.cl hr9 (pv 2) (pa_cons (pe_op op_add pe_int (pe_op op_mod (pc_ GAt hr1 (pa_cons (pv 1) (pa_cons (pv 3) pa_nil))) pe_int)) (pa_cons (pe_op op_mod (pc_ GAt hr1 (pa_cons (pv 1) (pa_cons (pe_op op_add (pv 3) pe_int) pa_nil))) pe_int) pa_nil))))
  hp8))))), ?_⟩
  intro De a tp m wl el ms pl ad B mi sr v9 v10 v11 v12 v13 v14 H A X ws es ts hB b wd d en hsr hwl hel ne1 ne2 hes kD
  have a0 := d.a0
  have a1 := d.a1
  have l4 := d.l4
  have nok : NOk 1 4 150 := ⟨by decide, by decide, by decide, by decide, by decide, by decide⟩
  refine ⟨_, rfl, _, _, rfl, rfl, ?_⟩
  -- the status
  obtain ⟨dm, hm⟩ := b.D.ob
  refine ⟨_, rfl, m, dm, _, rfl, hm, rfl, _, rfl, _, _, rfl, rfl, (by show 3 ≤ sizeLine; omega), fun q hq => ?_⟩
  have u1 := up1 (o := HO.tup [V.str "write", V.int ((ad : Int) + 1), V.int 0]) hq
  have e1 : upd H q (HO.tup [V.str "write", V.int ((ad : Int) + 1), V.int 0]) q = some (.tup (Rq.write (ad + 1) (.int 0)).vs) := by rw [upd_same]; rfl
  generalize upd H q (HO.tup [V.str "write", V.int ((ad : Int) + 1), V.int 0]) = H1 at u1 e1 ⊢
  refine ⟨m, 1, 4, 150, 0, B, A, X, .write (ad + 1) (.int 0), q, rfl, nok, b.D.same u1, by decide, e1, (by show ad + 1 < 1 + 1 + 155; omega), b.so, by omega, ⟨_, Dvl.int 0⟩, trivial, fun v2 x2 p2 A2 X2 H2 ea2 R2 hp2 so2 D2 st2 => ?_⟩
  obtain ⟨_, rfl⟩ := R2
  have x02 := (ExT.of u1).trans (st2.ext (b.D.same u1))
  have mv2 := (Mv.same (Z := Foot m A 155) u1).trans (Mv.step st2)
  have hel2 := hel.mv mv2
  have hes2 : Paired (EnAt K H2) ts es := pmono (fun _ _ h => h.ext x02) hes
  -- the record
  obtain ⟨dm2, hm2⟩ := D2.ob
  have hadj : Adj (es.map fun e => (e.c : Int)) := by
    have := adj_of en.asc
    rwa [List.map_map] at this
  refine ⟨_, rfl, m, dm2, _, rfl, hm2, rfl, _, rfl, _, rfl, _, _, rfl, rfl, _, rfl, _, rfl, el, _, _, _, _, ts, es, rfl, hel2.1, hes2, by omega, fun _ H3 rp rq s3 hrp hrq => ?_, fun z => absurd ⟨d.l0, hadj⟩ z⟩
  have hrp3 : H3 rp = some (.tup [.str "deed", .int ((ad + 1 : Nat) : Int), .ref rq, .int 0, .int sr, .str "x"]) := hrp
  have hes3 : Paired (EnAt K H3) ts es := pmono (fun _ _ h => h.ext (.of s3)) hes2
  have dv3 := rc_dv (K := K) hrp3 hrq hes3
  refine ⟨(by show 3 ≤ sizeLine; omega), fun q3 hq3 => ?_⟩
  have u3 := up1 (o := HO.tup [V.str "write", V.int (ad : Int), V.ref rp]) hq3
  have e3 : upd H3 q3 (HO.tup [V.str "write", V.int (ad : Int), V.ref rp]) q3 = some (.tup (Rq.write ad (.ref rp)).vs) := by rw [upd_same]; rfl
  generalize upd H3 q3 (HO.tup [V.str "write", V.int (ad : Int), V.ref rp]) = H4 at u3 e3 ⊢
  have s34 := s3.trans u3
  have hni : Nice (rcT ((ad + 1 : Nat) : Int) sr es) := rcT_nice l4
  refine ⟨m, 1, 4, 150, 0, B + 2, A2, _, .write ad (.ref rp), q3, rfl, nok, D2.same s34, by decide, e3, (by show ad < 1 + 1 + 155; omega), so2, by omega, ⟨_, hni.dvl (DV.ext u3 _ _ dv3)⟩, trivial, fun v5 x5 p5 A5 X5 H5 ea5 R5 hp5 so5 D5 st5 => ?_⟩
  obtain ⟨_, rfl⟩ := R5
  have x45 := st5.ext (D2.same s34)
  have x35 := (ExT.of u3).trans x45
  have x05 := (x02.trans (ExT.of s34)).trans x45
  have mv5 := (mv2.trans (Mv.same s34)).trans (Mv.step st5)
  generalize hX5 : (Lg ((Lg X x2).give 1 (ad + 1) (.int 0)) x5).give 1 ad (.ref rp) = X5 at so5 D5
  have ps2 : ((Lg X x2).give 1 (ad + 1) (.int 0)).ps.length = 1 + 1 := so2.psl
  have hce : ∀ c, c ≠ ad → c ≠ ad + 1 → cellV X5 1 c = cellV X 1 c := fun c h1 h2 => by
    rw [← hX5, cellV_give_ne h1]
    exact (cellV_give_ne (S := Lg X x2) h2).trans rfl
  have hcs : cellV X5 1 (ad + 1) = some (.int 0) := by
    rw [← hX5, cellV_give_ne (by omega)]
    exact cellV_give_same (S := Lg X x2) (by show X.ps.length = 1 + 1; exact b.so.psl)
  have hcd : cellV X5 1 ad = some (.ref rp) := by
    rw [← hX5]
    exact cellV_give_same ps2
  have hno : X5.notes[0]? = some (nkv 1 []) := by
    rw [← hX5, (give_last (S := Lg _ x5)).2]
    show ((Lg X x2).give 1 (ad + 1) (.int 0)).notes[0]? = _
    rw [(give_last (S := Lg X x2)).2]
    exact b.no
  clear hX5
  have hrp5 := x35.1 _ _ hrp3
  have hrq5 := x35.1 _ _ hrq
  have hes5 : Paired (EnAt K H5) ts es := pmono (fun _ _ h => h.ext x35) hes3
  have dv5 := rc_dv (K := K) hrp5 hrq5 hes5
  have hel5 := hel.mv mv5
  have hwl5 := hwl.mv mv5
  have htp5 := b.tp.mv mv5
  -- the record is there
  obtain ⟨dm5, hm5⟩ := D5.ob
  refine ⟨_, rfl, m, dm5, _, rfl, hm5, rfl, _, rfl, m, 1, 4, 150, ad, A5, X5, _, rfl, D5, by omega, hcd, ?_⟩
  refine ⟨_, rfl, _, _, rfl, rfl, _, rfl, el, _, rfl, .inl ⟨SqL.of hel5.1, fun q6 hq6 => ?_⟩⟩
  have u6 := up1 (o := HO.tup ts) hq6
  have e6 : upd H5 q6 (HO.tup ts) q6 = _ := upd_same
  generalize upd H5 q6 (HO.tup ts) = H6 at u6 e6 ⊢
  refine ⟨_, rfl, (by show 6 ≤ sizeLine; omega), fun p6 hp6 => ?_⟩
  have u7 := up1 (o := HO.tup [V.str "deed", V.int ((ad : Int) + 1), V.ref q6, V.int 0, V.int sr, V.str "x"]) hp6
  have e7 : upd H6 p6 (HO.tup [V.str "deed", V.int ((ad : Int) + 1), V.ref q6, V.int 0, V.int sr, V.str "x"]) p6 = some (.tup [.str "deed", .int ((ad + 1 : Nat) : Int), .ref q6, .int 0, .int sr, .str "x"]) := by rw [upd_same]; rfl
  show rNeD K _ _ (upd H6 p6 (HO.tup [V.str "deed", V.int ((ad : Int) + 1), V.ref q6, V.int 0, V.int sr, V.str "x"])) _
  generalize upd H6 p6 (HO.tup [V.str "deed", V.int ((ad : Int) + 1), V.ref q6, V.int 0, V.int sr, V.str "x"]) = H7 at u7 e7 ⊢
  have s57 := u6.trans u7
  have dv7 := rc_dv (K := K) e7 (u7 _ _ e6) (pmono (fun _ _ h => h.ext (.of s57)) hes5)
  refine ⟨(rcT ((ad + 1 : Nat) : Int) sr es).data, (rcT ((ad + 1 : Nat) : Int) sr es).data, DV.dp _ _ (DV.ext s57 _ _ dv5), DV.dp _ _ dv7, hni.1, hni.1, _, rfl, iteC (by rw [eqv_sh hni.1]; rfl) ?_⟩
  -- the drift
  have D7 := D5.same s57
  have htp7 := s57 _ _ htp5.1
  obtain ⟨dm7, hm7⟩ := D7.ob
  obtain ⟨dc, hdc, hdc4⟩ : ∃ dc : Nat, atD ms (pl + 11) % 4 = (dc : Int) ∧ dc < 4 := ⟨(atD ms (pl + 11) % 4).toNat, by omega, by omega⟩
  obtain ⟨dk, hdk⟩ : ∃ dk : Nat, atD ms (pl + 12) % 5 = (dk : Int) := ⟨(atD ms (pl + 12) % 5).toNat, by omega⟩
  refine ⟨_, rfl, m, dm7, _, rfl, hm7, rfl, _, rfl, _, rfl, tp, ms, pl + 11, rfl, SqL.of htp7, _, _, rfl, rfl, (by show (0 : Int) < 4; decide), _, _, rfl, rfl, _, rfl, _, rfl, _, _, rfl, rfl, tp, ms, pl + 12, rfl, SqL.of htp7, _, _, rfl, rfl, (by show (0 : Int) < 5; decide), ?_⟩
  refine ⟨m, 1, 4, 150, 1 + dc, dk, A5, X5, ?_, nok, D7, by omega, so5.tne _ (by omega), fun H8 D8 st8 => ?_⟩
  · show [V.ref m, V.int (3 + atD ms (pl + 11) % 4), V.int (atD ms (pl + 12) % 5)] = _
    rw [hdc, hdk, show ((1 + 1 + (1 + dc) : Nat) : Int) = 3 + (dc : Int) by omega]
  have x58 := (ExT.of s57).trans (st8.ext D7)
  have x08 := x05.trans x58
  have mv8 := (mv5.trans (Mv.same s57)).trans (Mv.step st8)
  have w8 : Wds (X5.short (1 + dc) dk) ws := fun i hi => ⟨by rw [cellV_short, hce _ (by omega) (by omega)]; exact (wd i hi).1, (wd i hi).2⟩
  have rc8 : RcAt K H8 (X5.short (1 + dc) dk) ad es := ⟨rp, rq, _, _, _, by rw [cellV_short]; exact hcd, SqT.of (x58.1 _ _ hrp5), ts, SqT.of (x58.1 _ _ hrq5), pmono (fun _ _ h => h.ext x58) hes5⟩
  have ea : A5.a = A.a := ea5.trans ea2
  exact r8 De a tp m wl el ms pl ad (B + 4) mi sr v9 v10 v11 v12 v13 v14 H8 A5 (X5.short (1 + dc) dk) ws es ts (by omega) ⟨D8, so5.short, hno, b.tp.mv mv8⟩ w8 d en hsr rc8 (by rw [cellV_short]; exact hcs) (hwl.mv mv8) (hel.mv mv8) ne1 ne2 (pmono (fun _ _ h => h.ext x08) hes) (fun v9 v10 v11 v12 v13 v14 wl ws' H' A' X' e b w => kD v9 v10 v11 v12 v13 v14 wl ws' H' A' X' (e.trans ea) b w)
end
end Dk

set_option maxHeartbeats 4000000
/-! the law k05: a turn; the law -/
namespace Dk
open PySem PySem.Spec PyProof.Rows L2
theorem made_same {H : Hp} {x dx C : Addr} (nx : H x = none) (nd : H dx = none) : Same H (upd (upd H dx (.own x)) x (.ins C dx [])) := fun b o e => by rw [upd_ne (ne_of_none e nx), upd_ne (ne_of_none e nd)]; exact e
def spLaw (K : PySem.W.Frag) : Sp := fun vs H Q _ => ∃ (a : Addr) (ns : List Int), vs = [.ref a] ∧ SqL K H a (ns.map V.int) ∧ ns.length ≤ 63 ∧ ∀ H', Q (.bl true) H'
theorem so0 {t n : Nat} {tr : Nat → List V} (hI : ∀ j, j < n → ∃ v, tr j = [v]) : SOk (S0 t tr) t n 0 := by
  refine ⟨?_, fun j hj => ?_, fun j hj => ?_, fun th hth => ⟨[], ?_, ?_, ?_⟩, ?_⟩
  · show (V.int 0 :: List.replicate t V.non).length = 1 + t
    rw [List.length_cons, List.length_replicate]
    omega
  · obtain ⟨v, hv⟩ := hI j hj
    show tr j ≠ []
    rw [hv]; simp
  · obtain ⟨v, hv⟩ := hI j hj
    show (tr j).length ≤ 1
    rw [hv]; simp
  · show (List.replicate t ([] : List (Key × V)))[th]? = _
    rw [List.getElem?_replicate, if_pos hth]
    rfl
  · simp
  · simp
  · show ([] : List V).length ≤ 0
    simp
section
variable {P : Program} {w : World} {K : PySem.W.Frag} {mg : Str → Option Value} {base : Heap} {C M CD fa gd gs gc gw gsw NV LE Z fL fM : Addr} {fdL fdM : FuncData}
theorem law_t0 {f : Addr} {cdv : Value} {A0 : Around} {outer : List Env} {s : Shared} {Hs : Hp} {E : XK} (hr : Room 20 (A0.deeper (envOfC "law" (defScope sLaw) s.heap.objs.size f cdv))) (B0 : Bn mg) (TM : MTxt K M) (T : DoT P w K mg base CD fa gd gs gc gw gsw)
    (GAt : GO P w K mg base CX0 1 "_law_at" ["tape", "k"] (spAt K)) (GRu : GO P w K mg base CX0 20 "_law_run" ["memory", "address"] (spRun P w K mg base C M CD gd)) (GLw : GO P w K mg base CX0 9 "_law_words" ["memory"] (spWords C M)) (GLs : GO P w K mg base CX0 10 "_law_lasts" ["memory", "address", "status", "words"] (spLasts K C M))
    (GTr : MO P w K mg base (L2.CX P w) M 9 "trail" ["self", "cell"] (spTrail C M NV)) (GAc : MO P w K mg base CX0 M 11 "access" ["self", "thread", "request"] (spAccess K C M)) (GPk : MO P w K mg base CX0 M 8 "peek" ["self", "cell"] (spPeek C M)) (GDf : MO P w K mg base CX0 M 9 "drift" ["self", "cell", "steps"] (spDrift C M))
    (GDr : GO P w K mg base (L2.CX P w) 2 "deed_record" ["status", "entries", "thread", "number", "answer"] (spDeedR K NV)) (GEn : GO P w K mg base CX0 2 "_law_entries" ["tape", "place", "words", "serial"] (spEntr K)) :
    ∃ t, PSs (cxOf CX0 P w K mg base NLw "law" (defScope sLaw) f cdv A0 outer s Hs E).nox tB t ∧
      ∀ (De : Ends) (a tp m : Addr) (ms : List Int) (pl B : Nat) (sr : Int) (v5 v6 v7 v8 v9 v10 v11 v12 v13 v14 : Option V) (H : Hp) (A : Adr) (X : MS) (ws : Nat → Int), B < 800 → Bs C M H m tp ms A X B → Wds X ws → 0 ≤ sr ∧ sr < 6 →
        (∀ v5 v6 v7 v8 v9 v10 v11 v12 v13 v14 ws' H' A' X', A'.a = A.a → Bs C M H' m tp ms A' X' (B + 76) → Wds X' ws' → De.nx [some (.ref a), some (.ref tp), some (.ref m), some (.int ((pl + 11 : Nat) : Int)), some (.int sr), v5, v6, v7, v8, v9, v10, v11, v12, v13, v14] H') →
        t De [some (.ref a), some (.ref tp), some (.ref m), some (.int (pl : Int)), some (.int sr), v5, v6, v7, v8, v9, v10, v11, v12, v13, v14] H := by
  have nd := scLaw.nd
  have hr1 : Room 1 _ := hr.mono (by decide)
  have hr2 : Room 2 _ := hr.mono (by decide)
  have hr9 : Room 9 _ := hr.mono (by decide)
  have hsl : sizeLine = 16777216 := sizeLine_eq
  obtain ⟨t3, hp3, r3⟩ := law_t3 (C := C) (w := w) (f := f) (cdv := cdv) (A0 := A0) (outer := outer) (s := s) (Hs := Hs) (E := E) hr B0 TM T GAt GRu GLw GLs GTr GAc GPk GDf GDr
  refine ⟨_, (pss_cons (ps_set (i := 5) nd rfl (Or.inl rfl) (pe_op op_add pe_int (pe_op op_mul pe_int (pv 4))))
  (pss_cons (ps_set (i := 6) nd rfl (Or.inl rfl) (pc_ GLw hr9 (pa_cons (pv 2) pa_nil)))
  (pss_cons (ps_asg (pc_ GEn hr2 (pa_cons (pv 1) (pa_cons (pv 3) (pa_cons (pv 6) (pa_cons (pv 4) pa_nil))))) (pg_tup (by rfl) (pgs_cons (pg_name (i := 7) nd rfl (Or.inl rfl)) (pgs_cons (pg_name (i := 8) nd rfl (Or.inl rfl)) pgs_nil))))
  hp3))), ?_⟩
  intro De a tp m ms pl B sr v5 v6 v7 v8 v9 v10 v11 v12 v13 v14 H A X ws hB b wd hsr kD
  obtain ⟨ad, had⟩ : ∃ ad : Nat, 20 + 2 * sr = (ad : Int) := ⟨(20 + 2 * sr).toNat, by omega⟩
  refine ⟨_, rfl, _, _, rfl, rfl, .inl ⟨by decide, by decide⟩, _, _, rfl, rfl, ?_⟩
  show gName 5 (V.int (20 + 2 * sr)) _ _ _
  rw [had]
  refine ⟨_, rfl, m, A, X, ws, rfl, b.D, fun i hi => (wd i hi).1, fun H1 wl s1 nwl hwl => ?_⟩
  have b1 := b.same s1
  refine ⟨_, rfl, _, rfl, _, rfl, _, rfl, tp, wl, ms, pl, sr, ws, rfl, SqL.of b1.tp.1, hwl, fun i hi => (wd i hi).2, fun H2 p el ts es mi s2 nel hp hel hes h0 en => ?_⟩
  refine ⟨p, _, rfl, SqT.of hp, rfl, _, _, rfl, _, _, rfl, rfl, ?_⟩
  have b2 := b1.same s2
  have nf : ∀ b, H b = none → ¬ Foot m A 155 b := fun c h hf => by obtain ⟨u, hu⟩ := foot_some b.D hf; rw [h] at hu; cases hu
  have wl2 := s2 _ _ hwl
  have d : Dd ad es := ⟨by have := en.sz; omega, h0, en.rng, en.asc.imp fun h => Nat.ne_of_lt h, by omega, by omega⟩
  refine r3 De a tp m wl el ms pl ad B mi sr v9 v10 v11 v12 v13 v14 H2 A X ws es ts hB b2 wd d en hsr ⟨wl2, nf _ nwl⟩ ⟨hel, nf _ (s1.free nel)⟩ ?_ ?_ hes (fun v9 v10 v11 v12 v13 v14 wl ws' H' A' X' e b w => kD _ _ _ _ v9 v10 v11 v12 v13 v14 ws' H' A' X' e b w)
  · exact (ne_of_none hwl nel).symm
  · exact ne_of_none b.tp.1 nwl
end
end Dk

set_option maxHeartbeats 4000000
/-! the law k05: the whole -/
namespace Dk
open PySem PySem.Spec PyProof.Rows L2
section
variable {P : Program} {w : World} {K : PySem.W.Frag} {mg : Str → Option Value} {base : Heap} {C M CD fa gd gs gc gw gsw NV LE Z fL fM : Addr} {fdL fdM : FuncData}
theorem ok_law {f : Addr} {fd : FuncData} (F : Fun K "law" "law" sLaw f fd) (B0 : Bn mg) (TM : MTxt K M) (T : DoT P w K mg base CD fa gd gs gc gw gsw)
    (gC : mg "Layout" = some (.ref C)) (ML : Mk K C fL) (FL : FnOk P w K mg base (L2.CX P w) 3 fL fdL ["self", "threads", "words", "records"] (spLInit C NV)) (bL : Binds K fdL ["self", "threads", "words", "records"] [])
    (gM : mg "Memory" = some (.ref M)) (MM : Mk K M fM) (FM : FnOk P w K mg base CX0 7 fM fdM ["self", "layout"] (spMInit C M Z)) (bM : Binds K fdM ["self", "layout"] [])
    (GTp : GO P w K mg base CX0 1 "_law_tape" ["script"] (spTape K)) (GRf : GO P w K mg base CX0 3 "_law_refused" ["entries"] (spRefd K))
    (GAt : GO P w K mg base CX0 1 "_law_at" ["tape", "k"] (spAt K)) (GRu : GO P w K mg base CX0 20 "_law_run" ["memory", "address"] (spRun P w K mg base C M CD gd)) (GLw : GO P w K mg base CX0 9 "_law_words" ["memory"] (spWords C M)) (GLs : GO P w K mg base CX0 10 "_law_lasts" ["memory", "address", "status", "words"] (spLasts K C M))
    (GTr : MO P w K mg base (L2.CX P w) M 9 "trail" ["self", "cell"] (spTrail C M NV)) (GAc : MO P w K mg base CX0 M 11 "access" ["self", "thread", "request"] (spAccess K C M)) (GPk : MO P w K mg base CX0 M 8 "peek" ["self", "cell"] (spPeek C M)) (GDf : MO P w K mg base CX0 M 9 "drift" ["self", "cell", "steps"] (spDrift C M))
    (GDr : GO P w K mg base (L2.CX P w) 2 "deed_record" ["status", "entries", "thread", "number", "answer"] (spDeedR K NV)) (GEn : GO P w K mg base CX0 2 "_law_entries" ["tape", "place", "words", "serial"] (spEntr K)) : FnOk P w K mg base CX0 21 f fd ["script"] (spLaw K) := by
  refine F.ok scLaw (fun vs H Q E h => ?_) (fun cdv A0 outer s H vs Q E hr h => ?_)
  · obtain ⟨a, ns, rfl, _⟩ := h
    rfl
  · obtain ⟨a, ns, rfl, hS, hlen, kQ⟩ := h
    have nd := scLaw.nd
    have hr1 : Room 1 _ := hr.mono (by decide)
    have hr3 : Room 3 _ := hr.mono (by decide)
    have hrL : Room (3 + 1) _ := hr.mono (by decide)
    have hrMm : Room (7 + 1) _ := hr.mono (by decide)
    have hsl : sizeLine = 16777216 := sizeLine_eq
    obtain ⟨t0, hp0, r0⟩ := law_t0 (C := C) (w := w) (f := f) (cdv := cdv) (A0 := A0) (outer := outer) (s := s) (Hs := H) (E := E) hr B0 TM T GAt GRu GLw GLs GTr GAc GPk GDf GDr GEn
    have hloop : PSs (cxOf CX0 P w K mg base NLw "law" (defScope sLaw) f cdv A0 outer s H E).nox ((defBody sLaw).drop 4) _ := pss_cons (ps_for PassesOwn.never rfl (pi_range1 (by rfl) B0.range (pa_cons (pe_op op_add pe_int (pe_op op_mod (pc_ GAt hr1 (pa_cons (pv 1) (pa_cons pe_int pa_nil))) pe_int)) pa_nil)) (pg_name (i := 4) nd rfl (Or.inl rfl)) hp0) (pss_one (ps_ret pe_bl))
    refine ⟨_, (pss_cons (ps_set (i := 1) nd rfl (Or.inl rfl) (pc_ GTp hr1 (pa_cons (pv 0) pa_nil)))
  (pss_cons (ps_set (i := 2) nd rfl (Or.inl rfl) (pe_make MM FM hrMm rfl gM bM .nil pass0 (pa_cons (pe_make ML FL hrL rfl gC bL .nil passL (pa_cons pe_int (pa_cons pe_int (pa_cons pe_int pa_nil)))) pa_nil)))
  (pss_cons (ps_if (PW.pt (pw_or (pt_not (pt_val (pc_ GRf hr3 (pa_cons (pe_lst pa_nil) pa_nil)))) (pw_or (pt_not (pt_val (pc_ GRf hr3 (pa_cons (pe_lst (pa_cons (pe_tup (pa_cons pe_int (pa_cons pe_int (pa_cons pe_int pa_nil)))) (pa_cons (pe_tup (pa_cons pe_int (pa_cons pe_int (pa_cons pe_int pa_nil)))) pa_nil))) pa_nil)))) (pw_or1 (pt_not (pt_val (pc_ GRf hr3 (pa_cons (pe_lst (pa_cons (pe_tup (pa_cons pe_int (pa_cons pe_int (pa_cons pe_int pa_nil)))) (pa_cons (pe_tup (pa_cons pe_int (pa_cons pe_int (pa_cons pe_int pa_nil)))) pa_nil))) pa_nil))))))))
  (pss_one (ps_ret pe_bl))
  pss_nil)
  (pss_cons (ps_set (i := 3) nd rfl (Or.inl rfl) pe_int)
  hloop)))), ?_⟩
    refine ⟨_, rfl, a, ns, rfl, hS, hlen, fun tp ms H1 _ htp sm hml s1 => ?_⟩
    have nok : NOk 1 4 150 := ⟨by decide, by decide, by decide, by decide, by decide, by decide⟩
    have lk : lok 1 4 150 = true := lok_iff.mpr nok.lok
    intro x dx nx ndx ne
    refine ⟨x, dx, 1, 4, 150, rfl, upd_same, (fun _ H2 lay kp2 => ⟨rfl, ?_⟩), fun h => by rw [lk] at h; cases h⟩
    have s2 : Same H1 H2 := fun b o e => by
      have b1 : b ≠ x := ne_of_none e nx
      refine kp2 b o ?_ b1
      rw [upd_ne b1, upd_ne (ne_of_none e ndx)]
      exact e
    obtain ⟨da, ha⟩ := lay
    refine fun m dx2 nx2 ndx2 ne2 => ?_
    have s3 := made_same (C := M) nx2 ndx2
    refine ⟨m, dx2, x, 1, 4, 150, rfl, upd_same, ⟨da, s3 _ _ ha⟩, nok, fun A tr H4 hA DM hI kp fr4 => ⟨rfl, ?_⟩⟩
    have s4 : Same H2 H4 := fun b o e => kp b o (s3 b o e) (ne_of_none e nx2)
    have htp4 : H4 tp = some (.lst (ms.map V.int)) := s4 _ _ (s2 _ _ htp)
    have tpF : ¬ Foot m A 155 tp := fun hf => by
      rcases fr4 tp hf with e | e
      · exact ne_of_none (s2 _ _ htp) nx2 e
      · rw [s3 _ _ (s2 _ _ htp)] at e
        cases e
    have so4 : SOk (S0 1 tr) 1 155 0 := so0 fun j hj => let ⟨v, e, _⟩ := hI j hj; ⟨v, e⟩
    have b4 : Bs C M H4 m tp ms A (S0 1 tr) 0 := ⟨DM, so4, rfl, htp4, tpF⟩
    have w4 : Wds (S0 1 tr) fun i => 7 + (i : Int) := fun i hi => by
      obtain ⟨v, hv, h⟩ := hI (1 + i) (by omega)
      refine ⟨?_, by show 7 + (i : Int) < 120; omega⟩
      unfold Init at h
      rw [if_pos (by omega)] at h
      subst h
      rw [cellV_tr (by omega), show 3 + i - 2 = 1 + i by omega]
      show (tr (1 + i)).getLast? = _
      rw [hv]
      exact congrArg (fun z => some (V.int z)) (by show _ = 7 + (i : Int); omega)
    -- the refusals
    refine ⟨(by show 0 ≤ sizeLine; omega), fun l5 hl5 => ?_⟩
    have u5 := up1 (o := HO.lst []) hl5
    have e5 : upd H4 l5 (HO.lst []) l5 = _ := upd_same
    generalize upd H4 l5 (HO.lst []) = H5 at u5 e5 ⊢
    refine ⟨l5, _, [], rfl, e5, .nil, by show 0 < 100; decide, fun z => absurd z.1 (by decide), fun H6 s6 => ?_⟩
    refine ⟨_, rfl, iteF ?_⟩
    refine ⟨(by show 3 ≤ sizeLine; omega), fun q7a hq7a => ?_⟩
    have ua7 := up1 (o := HO.tup [V.int 4, V.int 1, V.int 2]) hq7a
    have ea7 : upd H6 q7a (HO.tup [V.int 4, V.int 1, V.int 2]) q7a = _ := upd_same
    generalize upd H6 q7a (HO.tup [V.int 4, V.int 1, V.int 2]) = H6a at ua7 ea7 ⊢
    refine ⟨(by show 3 ≤ sizeLine; omega), fun q7b hq7b => ?_⟩
    have ub7 := up1 (o := HO.tup [V.int 4, V.int 1, V.int 2]) hq7b
    have eb7 : upd H6a q7b (HO.tup [V.int 4, V.int 1, V.int 2]) q7b = _ := upd_same
    generalize upd H6a q7b (HO.tup [V.int 4, V.int 1, V.int 2]) = H6b at ub7 eb7 ⊢
    refine ⟨(by show 2 ≤ sizeLine; omega), fun l7 hl7 => ?_⟩
    have uc7 := up1 (o := HO.lst [V.ref q7a, V.ref q7b]) hl7
    have ec7 : upd H6b l7 (HO.lst [V.ref q7a, V.ref q7b]) l7 = _ := upd_same
    generalize upd H6b l7 (HO.lst [V.ref q7a, V.ref q7b]) = H6c at uc7 ec7 ⊢
    refine ⟨l7, _, [⟨4, 1, 2⟩, ⟨4, 1, 2⟩], rfl, ec7, .cons ⟨q7a, rfl, SqT.of (uc7 _ _ (ub7 _ _ ea7))⟩ (.cons ⟨q7b, rfl, SqT.of (uc7 _ _ eb7)⟩ .nil), by show 2 < 100; decide, fun z => absurd (z.2 0 4 4 rfl rfl) (by decide), fun H7 s7 => ?_⟩
    refine ⟨_, rfl, iteF ?_⟩
    have t7 := ua7.trans (ub7.trans (uc7.trans s7))
    refine ⟨(by show 3 ≤ sizeLine; omega), fun q8a hq8a => ?_⟩
    have ua8 := up1 (o := HO.tup [V.int 5, V.int 1, V.int 2]) hq8a
    have ea8 : upd H7 q8a (HO.tup [V.int 5, V.int 1, V.int 2]) q8a = _ := upd_same
    generalize upd H7 q8a (HO.tup [V.int 5, V.int 1, V.int 2]) = H7a at ua8 ea8 ⊢
    refine ⟨(by show 3 ≤ sizeLine; omega), fun q8b hq8b => ?_⟩
    have ub8 := up1 (o := HO.tup [V.int 3, V.int 1, V.int 2]) hq8b
    have eb8 : upd H7a q8b (HO.tup [V.int 3, V.int 1, V.int 2]) q8b = _ := upd_same
    generalize upd H7a q8b (HO.tup [V.int 3, V.int 1, V.int 2]) = H7b at ub8 eb8 ⊢
    refine ⟨(by show 2 ≤ sizeLine; omega), fun l8 hl8 => ?_⟩
    have uc8 := up1 (o := HO.lst [V.ref q8a, V.ref q8b]) hl8
    have ec8 : upd H7b l8 (HO.lst [V.ref q8a, V.ref q8b]) l8 = _ := upd_same
    generalize upd H7b l8 (HO.lst [V.ref q8a, V.ref q8b]) = H7c at uc8 ec8 ⊢
    refine ⟨l8, _, [⟨5, 1, 2⟩, ⟨3, 1, 2⟩], rfl, ec8, .cons ⟨q8a, rfl, SqT.of (uc8 _ _ (ub8 _ _ ea8))⟩ (.cons ⟨q8b, rfl, SqT.of (uc8 _ _ eb8)⟩ .nil), by show 2 < 100; decide, fun z => absurd (z.2 0 5 3 rfl rfl) (by decide), fun H8 s8 => ?_⟩
    refine ⟨_, rfl, iteF ?_⟩
    have t8 := ua8.trans (ub8.trans (uc8.trans s8))
    have s48 := (u5.trans s6).trans (t7.trans t8)
    have b8 := b4.same s48
    refine ⟨_, rfl, tp, ms, 99, rfl, SqL.of b8.tp.1, _, _, rfl, rfl, (by show (0 : Int) < 6; decide), _, _, rfl, rfl, ?_⟩
    obtain ⟨n, hn, hn6⟩ : ∃ n : Nat, 1 + atD ms 99 % 6 = (n : Int) ∧ n ≤ 6 := ⟨(1 + atD ms 99 % 6).toNat, by omega, by omega⟩
    refine ⟨(n : Int), congrArg (fun z => [V.int z]) hn, by omega, by omega, ?_⟩
    refine for_range (lo := 0) (n := (n : Int).toNat) (fun i σ H' => ∃ (pl : Nat) (v4 v5 v6 v7 v8 v9 v10 v11 v12 v13 v14 : Option V) (ws : Nat → Int) (A' : Adr) (X' : MS), σ = [some (.ref a), some (.ref tp), some (.ref m), some (.int (pl : Int)), v4, v5, v6, v7, v8, v9, v10, v11, v12, v13, v14] ∧ Bs C M H' m tp ms A' X' (76 * i) ∧ Wds X' ws) ⟨0, _, _, _, _, _, _, _, _, _, _, _, _, A, S0 1 tr, rfl, b8, w4⟩ ?_ ?_
    · rintro i σ H' hi ⟨pl, v4, v5, v6, v7, v8, v9, v10, v11, v12, v13, v14, ws, A', X', rfl, b', w'⟩
      have hi : i < n := hi
      exact r0 _ a tp m ms pl (76 * i) (0 + (i : Int)) v5 v6 v7 v8 v9 v10 v11 v12 v13 v14 H' A' X' ws (by omega) b' w' ⟨by omega, by omega⟩ fun v5 v6 v7 v8 v9 v10 v11 v12 v13 v14 ws' H' A' X' _ b'' w'' => ⟨pl + 11, _, _, _, _, _, _, _, _, _, _, _, ws', A', X', rfl, by rw [show 76 * (i + 1) = 76 * i + 76 by omega]; exact b'', w''⟩
    · rintro σ H' ⟨pl, v4, v5, v6, v7, v8, v9, v10, v11, v12, v13, v14, ws, A', X', rfl, b', w'⟩
      exact kQ _
end
end Dk

set_option maxHeartbeats 8000000
namespace Dk
open PySem PySem.Spec PyProof.Rows L2
theorem kit_self {K : PySem.W.Frag} {N : Addr} : PySem.W.kitOne K (.ref N) (.ref N) = some true := by
  unfold PySem.W.kitOne
  rw [if_pos (beq_self_eq_true _)]
theorem md_at {P : Program} {w : World} {K : PySem.W.Frag} {mg : Str → Option Value} {base : Heap} {k : Nat} {C f : Addr} {m : Str} {sp : Sp} (D : MD P w K mg base k C m sp) (h : Meth K C m f) : FnR P w K mg base CX0 k f sp := by
  obtain ⟨g, hm, F⟩ := D
  have e := hm.at_.symm.trans h.at_
  cases e
  exact F
theorem raw0 {P : Program} {w : World} {K : PySem.W.Frag} {mg : Str → Option Value} {base : Heap} {k : Nat} {f : Addr} {fd : FuncData} {ps : List Str} {sp : Sp} (F : FnOk P w K mg base CX0 k f fd ps sp) (hb : Binds K fd ps []) : FnR P w K mg base CX0 k f sp :=
  (F.raw hb .nil).imp fun vs H Q E h => by rw [List.append_nil]; exact h
theorem all_mk {l : PySem.W.OpenLaw} {w : World} {K : PySem.W.Frag} {h : Heap} {mg : Str → Option Value} {fa C M SK MA CD NV LE E0 f1 f2 f3 f4 f5 f6 f7 f8 f9 f10 f11 f12 f13 f14 f15 f16 f17 f18 f19 f20 f21 f22 f23 f24 f25 f26 f27 f28 f29 f30 f31 f32 f33 f34 f35 f36 f37 f38 f39 f40 f41 f42 f43 f44 f45 f46 f47 f48 f49 f50 f51 f52 f53 D53 f54 f55 f56 f57 f58 f59 f60 f61 f62 f63 f64 f65 f66 f67 f68 : Addr} (X : K.In h) (G : h.Ns mainGlobals mg) (hfa : mg "law" = some (.ref fa))
    {od1 an1 : Option Addr} {sl1 : Array (Option Value)} {oc1 kV1 dc1 pm1 cd1 ct1 : Value}
    {od2 an2 : Option Addr} {sl2 : Array (Option Value)} {oc2 kV2 dc2 pm2 cd2 ct2 : Value}
    {od3 an3 : Option Addr} {sl3 : Array (Option Value)} {oc3 kV3 dc3 pm3 cd3 ct3 : Value}
    {od4 an4 : Option Addr} {sl4 : Array (Option Value)} {oc4 kV4 dc4 pm4 cd4 ct4 : Value}
    {od5 an5 : Option Addr} {sl5 : Array (Option Value)} {oc5 kV5 dc5 pm5 cd5 ct5 : Value}
    {od6 an6 : Option Addr} {sl6 : Array (Option Value)} {oc6 kV6 dc6 pm6 cd6 ct6 : Value}
    {od7 an7 : Option Addr} {sl7 : Array (Option Value)} {oc7 kV7 dc7 pm7 cd7 ct7 : Value}
    {od8 an8 : Option Addr} {sl8 : Array (Option Value)} {oc8 kV8 dc8 pm8 cd8 ct8 : Value}
    {od9 an9 : Option Addr} {sl9 : Array (Option Value)} {oc9 kV9 dc9 pm9 cd9 ct9 : Value}
    {od10 an10 : Option Addr} {sl10 : Array (Option Value)} {oc10 kV10 dc10 pm10 cd10 ct10 : Value}
    {od11 an11 : Option Addr} {sl11 : Array (Option Value)} {oc11 kV11 dc11 pm11 cd11 ct11 : Value}
    {od12 an12 : Option Addr} {sl12 : Array (Option Value)} {oc12 kV12 dc12 pm12 cd12 ct12 : Value}
    {od13 an13 : Option Addr} {sl13 : Array (Option Value)} {oc13 kV13 dc13 pm13 cd13 ct13 : Value}
    {od14 an14 : Option Addr} {sl14 : Array (Option Value)} {oc14 kV14 dc14 pm14 cd14 ct14 : Value}
    {od15 an15 : Option Addr} {sl15 : Array (Option Value)} {oc15 kV15 dc15 pm15 cd15 ct15 : Value}
    {od16 an16 : Option Addr} {sl16 : Array (Option Value)} {oc16 kV16 dc16 pm16 cd16 ct16 : Value}
    {od17 an17 : Option Addr} {sl17 : Array (Option Value)} {oc17 kV17 dc17 pm17 cd17 ct17 : Value}
    {od18 an18 : Option Addr} {sl18 : Array (Option Value)} {oc18 kV18 dc18 pm18 cd18 ct18 : Value}
    {od19 an19 : Option Addr} {sl19 : Array (Option Value)} {oc19 kV19 dc19 pm19 cd19 ct19 : Value}
    {od20 an20 : Option Addr} {sl20 : Array (Option Value)} {oc20 kV20 dc20 pm20 cd20 ct20 : Value}
    {od21 an21 : Option Addr} {sl21 : Array (Option Value)} {oc21 kV21 dc21 pm21 cd21 ct21 : Value}
    {od22 an22 : Option Addr} {sl22 : Array (Option Value)} {oc22 kV22 dc22 pm22 cd22 ct22 : Value}
    {od23 an23 : Option Addr} {sl23 : Array (Option Value)} {oc23 kV23 dc23 pm23 cd23 ct23 : Value}
    {od24 an24 : Option Addr} {sl24 : Array (Option Value)} {oc24 kV24 dc24 pm24 cd24 ct24 : Value}
    {od25 an25 : Option Addr} {sl25 : Array (Option Value)} {oc25 kV25 dc25 pm25 cd25 ct25 : Value}
    {od26 an26 : Option Addr} {sl26 : Array (Option Value)} {oc26 kV26 dc26 pm26 cd26 ct26 : Value}
    {od27 an27 : Option Addr} {sl27 : Array (Option Value)} {oc27 kV27 dc27 pm27 cd27 ct27 : Value}
    {od28 an28 : Option Addr} {sl28 : Array (Option Value)} {oc28 kV28 dc28 pm28 cd28 ct28 : Value}
    {od29 an29 : Option Addr} {sl29 : Array (Option Value)} {oc29 kV29 dc29 pm29 cd29 ct29 : Value}
    {od30 an30 : Option Addr} {sl30 : Array (Option Value)} {oc30 kV30 dc30 pm30 cd30 ct30 : Value}
    {od31 an31 : Option Addr} {sl31 : Array (Option Value)} {oc31 kV31 dc31 pm31 cd31 ct31 : Value}
    {od32 an32 : Option Addr} {sl32 : Array (Option Value)} {oc32 kV32 dc32 pm32 cd32 ct32 : Value}
    {od33 an33 : Option Addr} {sl33 : Array (Option Value)} {oc33 kV33 dc33 pm33 cd33 ct33 : Value}
    {od34 an34 : Option Addr} {sl34 : Array (Option Value)} {oc34 kV34 dc34 pm34 cd34 ct34 : Value}
    {od35 an35 : Option Addr} {sl35 : Array (Option Value)} {oc35 kV35 dc35 pm35 cd35 ct35 : Value}
    {od36 an36 : Option Addr} {sl36 : Array (Option Value)} {oc36 kV36 dc36 pm36 cd36 ct36 : Value}
    {od37 an37 : Option Addr} {sl37 : Array (Option Value)} {oc37 kV37 dc37 pm37 cd37 ct37 : Value}
    {od38 an38 : Option Addr} {sl38 : Array (Option Value)} {oc38 kV38 dc38 pm38 cd38 ct38 : Value}
    {od39 an39 : Option Addr} {sl39 : Array (Option Value)} {oc39 kV39 dc39 pm39 cd39 ct39 : Value}
    {od40 an40 : Option Addr} {sl40 : Array (Option Value)} {oc40 kV40 dc40 pm40 cd40 ct40 : Value}
    {od41 an41 : Option Addr} {sl41 : Array (Option Value)} {oc41 kV41 dc41 pm41 cd41 ct41 : Value}
    {od42 an42 : Option Addr} {sl42 : Array (Option Value)} {oc42 kV42 dc42 pm42 cd42 ct42 : Value}
    {od43 an43 : Option Addr} {sl43 : Array (Option Value)} {oc43 kV43 dc43 pm43 cd43 ct43 : Value}
    {od44 an44 : Option Addr} {sl44 : Array (Option Value)} {oc44 kV44 dc44 pm44 cd44 ct44 : Value}
    {od45 an45 : Option Addr} {sl45 : Array (Option Value)} {oc45 kV45 dc45 pm45 cd45 ct45 : Value}
    {od46 an46 : Option Addr} {sl46 : Array (Option Value)} {oc46 kV46 dc46 pm46 cd46 ct46 : Value}
    {od47 an47 : Option Addr} {sl47 : Array (Option Value)} {oc47 kV47 dc47 pm47 cd47 ct47 : Value}
    {od48 an48 : Option Addr} {sl48 : Array (Option Value)} {oc48 kV48 dc48 pm48 cd48 ct48 : Value}
    {od49 an49 : Option Addr} {sl49 : Array (Option Value)} {oc49 kV49 dc49 pm49 cd49 ct49 : Value}
    {od50 an50 : Option Addr} {sl50 : Array (Option Value)} {oc50 kV50 dc50 pm50 cd50 ct50 : Value}
    {od51 an51 : Option Addr} {sl51 : Array (Option Value)} {oc51 kV51 dc51 pm51 cd51 ct51 : Value}
    {od52 an52 : Option Addr} {sl52 : Array (Option Value)} {oc52 kV52 dc52 pm52 cd52 ct52 : Value}
    {od53 an53 : Option Addr} {sl53 : Array (Option Value)} {oc53 kV53 dc53 pm53 cd53 ct53 : Value}
    {tD53 : Tok} {aD53 : Option Addr} {nD53 : Nat} {zD53 : Array (Option Value)}
    {od54 an54 : Option Addr} {sl54 : Array (Option Value)} {oc54 kV54 dc54 pm54 cd54 ct54 : Value}
    {od55 an55 : Option Addr} {sl55 : Array (Option Value)} {oc55 kV55 dc55 pm55 cd55 ct55 : Value}
    {od56 an56 : Option Addr} {sl56 : Array (Option Value)} {oc56 kV56 dc56 pm56 cd56 ct56 : Value}
    {od57 an57 : Option Addr} {sl57 : Array (Option Value)} {oc57 kV57 dc57 pm57 cd57 ct57 : Value}
    {od58 an58 : Option Addr} {sl58 : Array (Option Value)} {oc58 kV58 dc58 pm58 cd58 ct58 : Value}
    {od59 an59 : Option Addr} {sl59 : Array (Option Value)} {oc59 kV59 dc59 pm59 cd59 ct59 : Value}
    {od60 an60 : Option Addr} {sl60 : Array (Option Value)} {oc60 kV60 dc60 pm60 cd60 ct60 : Value}
    {od61 an61 : Option Addr} {sl61 : Array (Option Value)} {oc61 kV61 dc61 pm61 cd61 ct61 : Value}
    {od62 an62 : Option Addr} {sl62 : Array (Option Value)} {oc62 kV62 dc62 pm62 cd62 ct62 : Value}
    {od63 an63 : Option Addr} {sl63 : Array (Option Value)} {oc63 kV63 dc63 pm63 cd63 ct63 : Value}
    {od64 an64 : Option Addr} {sl64 : Array (Option Value)} {oc64 kV64 dc64 pm64 cd64 ct64 : Value}
    {od65 an65 : Option Addr} {sl65 : Array (Option Value)} {oc65 kV65 dc65 pm65 cd65 ct65 : Value}
    {od66 an66 : Option Addr} {sl66 : Array (Option Value)} {oc66 kV66 dc66 pm66 cd66 ct66 : Value}
    {od67 an67 : Option Addr} {sl67 : Array (Option Value)} {oc67 kV67 dc67 pm67 cd67 ct67 : Value}
    {od68 an68 : Option Addr} {sl68 : Array (Option Value)} {oc68 kV68 dc68 pm68 cd68 ct68 : Value}
    (gC : PySem.W.nsIn K mainGlobals "Layout" = some (some (.ref C)))
    (gM : PySem.W.nsIn K mainGlobals "Memory" = some (some (.ref M)))
    (gSK : PySem.W.nsIn K mainGlobals "Stack" = some (some (.ref SK)))
    (gMA : PySem.W.nsIn K mainGlobals "Machine" = some (some (.ref MA)))
    (gCD : PySem.W.nsIn K mainGlobals "Doing" = some (some (.ref CD)))
    (gNV : PySem.W.nsIn K mainGlobals "NotValid" = some (some (.ref NV)))
    (gLE : PySem.W.nsIn K mainGlobals "LineError" = some (some (.ref LE)))
    (a1 : PySem.W.nsIn K mainGlobals "is_whole" = some (some (.ref f1)))
    (l1 : K.lookup f1 = some ⟨oc1, od1, .func (PySem.W.fnOf "is_whole" "is_whole" (defArgs sWhole) (defBody sWhole) (defScope sWhole) .none kV1 dc1 pm1 an1 cd1 ct1), sl1⟩)
    (c1 : PySem.W.codeIn K cd1 "is_whole" = true)
    (k1 : PySem.W.keepIn K (.ref f1) = true)
    (a2 : PySem.W.nsIn K mainGlobals "is_within" = some (some (.ref f2)))
    (l2 : K.lookup f2 = some ⟨oc2, od2, .func (PySem.W.fnOf "is_within" "is_within" (defArgs sWithin) (defBody sWithin) (defScope sWithin) .none kV2 dc2 pm2 an2 cd2 ct2), sl2⟩)
    (c2 : PySem.W.codeIn K cd2 "is_within" = true)
    (k2 : PySem.W.keepIn K (.ref f2) = true)
    (a3 : PySem.W.nsIn K mainGlobals "is_many" = some (some (.ref f3)))
    (l3 : K.lookup f3 = some ⟨oc3, od3, .func (PySem.W.fnOf "is_many" "is_many" (defArgs sMany) (defBody sMany) (defScope sMany) .none kV3 dc3 pm3 an3 cd3 ct3), sl3⟩)
    (c3 : PySem.W.codeIn K cd3 "is_many" = true)
    (k3 : PySem.W.keepIn K (.ref f3) = true)
    (a4 : PySem.W.nsIn K mainGlobals "is_value" = some (some (.ref f4)))
    (l4 : K.lookup f4 = some ⟨oc4, od4, .func (PySem.W.fnOf "is_value" "is_value" (defArgs sIsValue) (defBody sIsValue) (defScope sIsValue) .none kV4 dc4 pm4 an4 cd4 ct4), sl4⟩)
    (c4 : PySem.W.codeIn K cd4 "is_value" = true)
    (k4 : PySem.W.keepIn K (.ref f4) = true)
    (a5 : PySem.W.nsIn K mainGlobals "is_same" = some (some (.ref f5)))
    (l5 : K.lookup f5 = some ⟨oc5, od5, .func (PySem.W.fnOf "is_same" "is_same" (defArgs sIsSame) (defBody sIsSame) (defScope sIsSame) .none kV5 dc5 pm5 an5 cd5 ct5), sl5⟩)
    (c5 : PySem.W.codeIn K cd5 "is_same" = true)
    (k5 : PySem.W.keepIn K (.ref f5) = true)
    (a6 : PySem.W.nsIn K mainGlobals "is_ascending" = some (some (.ref f6)))
    (l6 : K.lookup f6 = some ⟨oc6, od6, .func (PySem.W.fnOf "is_ascending" "is_ascending" (defArgs sAscd) (defBody sAscd) (defScope sAscd) .none kV6 dc6 pm6 an6 cd6 ct6), sl6⟩)
    (c6 : PySem.W.codeIn K cd6 "is_ascending" = true)
    (k6 : PySem.W.keepIn K (.ref f6) = true)
    (a7 : PySem.W.nsIn K mainGlobals "is_mark" = some (some (.ref f7)))
    (l7 : K.lookup f7 = some ⟨oc7, od7, .func (PySem.W.fnOf "is_mark" "is_mark" (defArgs sIsMark) (defBody sIsMark) (defScope sIsMark) .none kV7 dc7 pm7 an7 cd7 ct7), sl7⟩)
    (c7 : PySem.W.codeIn K cd7 "is_mark" = true)
    (k7 : PySem.W.keepIn K (.ref f7) = true)
    (a8 : PySem.W.nsIn K mainGlobals "is_access" = some (some (.ref f8)))
    (l8 : K.lookup f8 = some ⟨oc8, od8, .func (PySem.W.fnOf "is_access" "is_access" (defArgs sIsAcc) (defBody sIsAcc) (defScope sIsAcc) .none kV8 dc8 pm8 an8 cd8 ct8), sl8⟩)
    (c8 : PySem.W.codeIn K cd8 "is_access" = true)
    (k8 : PySem.W.keepIn K (.ref f8) = true)
    (a9 : PySem.W.nsIn K mainGlobals "lasting_accesses" = some (some (.ref f9)))
    (l9 : K.lookup f9 = some ⟨oc9, od9, .func (PySem.W.fnOf "lasting_accesses" "lasting_accesses" (defArgs sLast) (defBody sLast) (defScope sLast) .none kV9 dc9 pm9 an9 cd9 ct9), sl9⟩)
    (c9 : PySem.W.codeIn K cd9 "lasting_accesses" = true)
    (k9 : PySem.W.keepIn K (.ref f9) = true)
    (a10 : PySem.W.nsIn K mainGlobals "passing_values" = some (some (.ref f10)))
    (l10 : K.lookup f10 = some ⟨oc10, od10, .func (PySem.W.fnOf "passing_values" "passing_values" (defArgs sPass) (defBody sPass) (defScope sPass) .none kV10 dc10 pm10 an10 cd10 ct10), sl10⟩)
    (c10 : PySem.W.codeIn K cd10 "passing_values" = true)
    (k10 : PySem.W.keepIn K (.ref f10) = true)
    (a11 : PySem.W.nsIn K mainGlobals "first_trails" = some (some (.ref f11)))
    (l11 : K.lookup f11 = some ⟨oc11, od11, .func (PySem.W.fnOf "first_trails" "first_trails" (defArgs sTrails) (defBody sTrails) (defScope sTrails) .none kV11 dc11 pm11 an11 cd11 ct11), sl11⟩)
    (c11 : PySem.W.codeIn K cd11 "first_trails" = true)
    (k11 : PySem.W.keepIn K (.ref f11) = true)
    (a12 : PySem.W.nsIn K mainGlobals "no_notes" = some (some (.ref f12)))
    (l12 : K.lookup f12 = some ⟨oc12, od12, .func (PySem.W.fnOf "no_notes" "no_notes" (defArgs sNotes) (defBody sNotes) (defScope sNotes) .none kV12 dc12 pm12 an12 cd12 ct12), sl12⟩)
    (c12 : PySem.W.codeIn K cd12 "no_notes" = true)
    (k12 : PySem.W.keepIn K (.ref f12) = true)
    (a13 : PySem.W.nsIn K mainGlobals "is_done" = some (some (.ref f13)))
    (l13 : K.lookup f13 = some ⟨oc13, od13, .func (PySem.W.fnOf "is_done" "is_done" (defArgs sIsDone) (defBody sIsDone) (defScope sIsDone) .none kV13 dc13 pm13 an13 cd13 ct13), sl13⟩)
    (c13 : PySem.W.codeIn K cd13 "is_done" = true)
    (k13 : PySem.W.keepIn K (.ref f13) = true)
    (a14 : PySem.W.nsIn K mainGlobals "shown_by" = some (some (.ref f14)))
    (l14 : K.lookup f14 = some ⟨oc14, od14, .func (PySem.W.fnOf "shown_by" "shown_by" (defArgs sShBy) (defBody sShBy) (defScope sShBy) .none kV14 dc14 pm14 an14 cd14 ct14), sl14⟩)
    (c14 : PySem.W.codeIn K cd14 "shown_by" = true)
    (k14 : PySem.W.keepIn K (.ref f14) = true)
    (a15 : PySem.W.nsIn K mainGlobals "deed_record" = some (some (.ref f15)))
    (l15 : K.lookup f15 = some ⟨oc15, od15, .func (PySem.W.fnOf "deed_record" "deed_record" (defArgs sDeedR) (defBody sDeedR) (defScope sDeedR) .none kV15 dc15 pm15 an15 cd15 ct15), sl15⟩)
    (c15 : PySem.W.codeIn K cd15 "deed_record" = true)
    (k15 : PySem.W.keepIn K (.ref f15) = true)
    (a16 : PySem.W.nsIn K mainGlobals "_law_tape" = some (some (.ref f16)))
    (l16 : K.lookup f16 = some ⟨oc16, od16, .func (PySem.W.fnOf "_law_tape" "_law_tape" (defArgs sTape) (defBody sTape) (defScope sTape) .none kV16 dc16 pm16 an16 cd16 ct16), sl16⟩)
    (c16 : PySem.W.codeIn K cd16 "_law_tape" = true)
    (k16 : PySem.W.keepIn K (.ref f16) = true)
    (a17 : PySem.W.nsIn K mainGlobals "_law_at" = some (some (.ref f17)))
    (l17 : K.lookup f17 = some ⟨oc17, od17, .func (PySem.W.fnOf "_law_at" "_law_at" (defArgs sAt) (defBody sAt) (defScope sAt) .none kV17 dc17 pm17 an17 cd17 ct17), sl17⟩)
    (c17 : PySem.W.codeIn K cd17 "_law_at" = true)
    (k17 : PySem.W.keepIn K (.ref f17) = true)
    (a18 : PySem.W.nsIn K mainGlobals "_law_run" = some (some (.ref f18)))
    (l18 : K.lookup f18 = some ⟨oc18, od18, .func (PySem.W.fnOf "_law_run" "_law_run" (defArgs sRun) (defBody sRun) (defScope sRun) .none kV18 dc18 pm18 an18 cd18 ct18), sl18⟩)
    (c18 : PySem.W.codeIn K cd18 "_law_run" = true)
    (k18 : PySem.W.keepIn K (.ref f18) = true)
    (a19 : PySem.W.nsIn K mainGlobals "_law_words" = some (some (.ref f19)))
    (l19 : K.lookup f19 = some ⟨oc19, od19, .func (PySem.W.fnOf "_law_words" "_law_words" (defArgs sWords) (defBody sWords) (defScope sWords) .none kV19 dc19 pm19 an19 cd19 ct19), sl19⟩)
    (c19 : PySem.W.codeIn K cd19 "_law_words" = true)
    (k19 : PySem.W.keepIn K (.ref f19) = true)
    (a20 : PySem.W.nsIn K mainGlobals "_law_entries" = some (some (.ref f20)))
    (l20 : K.lookup f20 = some ⟨oc20, od20, .func (PySem.W.fnOf "_law_entries" "_law_entries" (defArgs sEntr) (defBody sEntr) (defScope sEntr) .none kV20 dc20 pm20 an20 cd20 ct20), sl20⟩)
    (c20 : PySem.W.codeIn K cd20 "_law_entries" = true)
    (k20 : PySem.W.keepIn K (.ref f20) = true)
    (a21 : PySem.W.nsIn K mainGlobals "_law_refused" = some (some (.ref f21)))
    (l21 : K.lookup f21 = some ⟨oc21, od21, .func (PySem.W.fnOf "_law_refused" "_law_refused" (defArgs sRefd) (defBody sRefd) (defScope sRefd) .none kV21 dc21 pm21 an21 cd21 ct21), sl21⟩)
    (c21 : PySem.W.codeIn K cd21 "_law_refused" = true)
    (k21 : PySem.W.keepIn K (.ref f21) = true)
    (a22 : PySem.W.nsIn K mainGlobals "_law_lasts" = some (some (.ref f22)))
    (l22 : K.lookup f22 = some ⟨oc22, od22, .func (PySem.W.fnOf "_law_lasts" "_law_lasts" (defArgs sLasts) (defBody sLasts) (defScope sLasts) .none kV22 dc22 pm22 an22 cd22 ct22), sl22⟩)
    (c22 : PySem.W.codeIn K cd22 "_law_lasts" = true)
    (k22 : PySem.W.keepIn K (.ref f22) = true)
    (a23 : PySem.W.nsIn K mainGlobals "law" = some (some (.ref f23)))
    (l23 : K.lookup f23 = some ⟨oc23, od23, .func (PySem.W.fnOf "law" "law" (defArgs sLaw) (defBody sLaw) (defScope sLaw) .none kV23 dc23 pm23 an23 cd23 ct23), sl23⟩)
    (c23 : PySem.W.codeIn K cd23 "law" = true)
    (k23 : PySem.W.keepIn K (.ref f23) = true)
    (a24 : PySem.W.findIn K (.ref C) "__init__" = some (some (.ref f24)))
    (i24 : PySem.W.isFn K (.ref f24) = true)
    (l24 : K.lookup f24 = some ⟨oc24, od24, .func (PySem.W.fnOf "__init__" "Layout.__init__" (defArgs sLInit) (defBody sLInit) (defScope sLInit) .none kV24 dc24 pm24 an24 cd24 ct24), sl24⟩)
    (c24 : PySem.W.codeIn K cd24 "Layout.__init__" = true)
    (k24 : PySem.W.keepIn K (.ref f24) = true)
    (a25 : PySem.W.findIn K (.ref C) "epoch" = some (some (.ref f25)))
    (i25 : PySem.W.isFn K (.ref f25) = true)
    (l25 : K.lookup f25 = some ⟨oc25, od25, .func (PySem.W.fnOf "epoch" "Layout.epoch" (defArgs sEpoch) (defBody sEpoch) (defScope sEpoch) .none kV25 dc25 pm25 an25 cd25 ct25), sl25⟩)
    (c25 : PySem.W.codeIn K cd25 "Layout.epoch" = true)
    (k25 : PySem.W.keepIn K (.ref f25) = true)
    (a26 : PySem.W.findIn K (.ref C) "epoch_slot" = some (some (.ref f26)))
    (i26 : PySem.W.isFn K (.ref f26) = true)
    (l26 : K.lookup f26 = some ⟨oc26, od26, .func (PySem.W.fnOf "epoch_slot" "Layout.epoch_slot" (defArgs sESlot) (defBody sESlot) (defScope sESlot) .none kV26 dc26 pm26 an26 cd26 ct26), sl26⟩)
    (c26 : PySem.W.codeIn K cd26 "Layout.epoch_slot" = true)
    (k26 : PySem.W.keepIn K (.ref f26) = true)
    (a27 : PySem.W.findIn K (.ref C) "call_slot" = some (some (.ref f27)))
    (i27 : PySem.W.isFn K (.ref f27) = true)
    (l27 : K.lookup f27 = some ⟨oc27, od27, .func (PySem.W.fnOf "call_slot" "Layout.call_slot" (defArgs sCSlot) (defBody sCSlot) (defScope sCSlot) .none kV27 dc27 pm27 an27 cd27 ct27), sl27⟩)
    (c27 : PySem.W.codeIn K cd27 "Layout.call_slot" = true)
    (k27 : PySem.W.keepIn K (.ref f27) = true)
    (a28 : PySem.W.findIn K (.ref C) "word" = some (some (.ref f28)))
    (i28 : PySem.W.isFn K (.ref f28) = true)
    (l28 : K.lookup f28 = some ⟨oc28, od28, .func (PySem.W.fnOf "word" "Layout.word" (defArgs sWord) (defBody sWord) (defScope sWord) .none kV28 dc28 pm28 an28 cd28 ct28), sl28⟩)
    (c28 : PySem.W.codeIn K cd28 "Layout.word" = true)
    (k28 : PySem.W.keepIn K (.ref f28) = true)
    (a29 : PySem.W.findIn K (.ref C) "record" = some (some (.ref f29)))
    (i29 : PySem.W.isFn K (.ref f29) = true)
    (l29 : K.lookup f29 = some ⟨oc29, od29, .func (PySem.W.fnOf "record" "Layout.record" (defArgs sRecord) (defBody sRecord) (defScope sRecord) .none kV29 dc29 pm29 an29 cd29 ct29), sl29⟩)
    (c29 : PySem.W.codeIn K cd29 "Layout.record" = true)
    (k29 : PySem.W.keepIn K (.ref f29) = true)
    (a30 : PySem.W.findIn K (.ref C) "cells" = some (some (.ref f30)))
    (i30 : PySem.W.isFn K (.ref f30) = true)
    (l30 : K.lookup f30 = some ⟨oc30, od30, .func (PySem.W.fnOf "cells" "Layout.cells" (defArgs sCells) (defBody sCells) (defScope sCells) .none kV30 dc30 pm30 an30 cd30 ct30), sl30⟩)
    (c30 : PySem.W.codeIn K cd30 "Layout.cells" = true)
    (k30 : PySem.W.keepIn K (.ref f30) = true)
    (a31 : PySem.W.findIn K (.ref C) "is_cell" = some (some (.ref f31)))
    (i31 : PySem.W.isFn K (.ref f31) = true)
    (l31 : K.lookup f31 = some ⟨oc31, od31, .func (PySem.W.fnOf "is_cell" "Layout.is_cell" (defArgs sIsCell) (defBody sIsCell) (defScope sIsCell) .none kV31 dc31 pm31 an31 cd31 ct31), sl31⟩)
    (c31 : PySem.W.codeIn K cd31 "Layout.is_cell" = true)
    (k31 : PySem.W.keepIn K (.ref f31) = true)
    (a32 : PySem.W.findIn K (.ref C) "is_lasting" = some (some (.ref f32)))
    (i32 : PySem.W.isFn K (.ref f32) = true)
    (l32 : K.lookup f32 = some ⟨oc32, od32, .func (PySem.W.fnOf "is_lasting" "Layout.is_lasting" (defArgs sIsLast) (defBody sIsLast) (defScope sIsLast) .none kV32 dc32 pm32 an32 cd32 ct32), sl32⟩)
    (c32 : PySem.W.codeIn K cd32 "Layout.is_lasting" = true)
    (k32 : PySem.W.keepIn K (.ref f32) = true)
    (a33 : PySem.W.findIn K (.ref C) "has_thread" = some (some (.ref f33)))
    (i33 : PySem.W.isFn K (.ref f33) = true)
    (l33 : K.lookup f33 = some ⟨oc33, od33, .func (PySem.W.fnOf "has_thread" "Layout.has_thread" (defArgs sHasT) (defBody sHasT) (defScope sHasT) .none kV33 dc33 pm33 an33 cd33 ct33), sl33⟩)
    (c33 : PySem.W.codeIn K cd33 "Layout.has_thread" = true)
    (k33 : PySem.W.keepIn K (.ref f33) = true)
    (a34 : PySem.W.findIn K (.ref M) "__init__" = some (some (.ref f34)))
    (i34 : PySem.W.isFn K (.ref f34) = true)
    (l34 : K.lookup f34 = some ⟨oc34, od34, .func (PySem.W.fnOf "__init__" "Memory.__init__" (defArgs sMInit) (defBody sMInit) (defScope sMInit) .none kV34 dc34 pm34 an34 cd34 ct34), sl34⟩)
    (c34 : PySem.W.codeIn K cd34 "Memory.__init__" = true)
    (k34 : PySem.W.keepIn K (.ref f34) = true)
    (a35 : PySem.W.findIn K (.ref M) "access" = some (some (.ref f35)))
    (i35 : PySem.W.isFn K (.ref f35) = true)
    (l35 : K.lookup f35 = some ⟨oc35, od35, .func (PySem.W.fnOf "access" "Memory.access" (defArgs sAccess) (defBody sAccess) (defScope sAccess) .none kV35 dc35 pm35 an35 cd35 ct35), sl35⟩)
    (c35 : PySem.W.codeIn K cd35 "Memory.access" = true)
    (k35 : PySem.W.keepIn K (.ref f35) = true)
    (a36 : PySem.W.findIn K (.ref M) "peek" = some (some (.ref f36)))
    (i36 : PySem.W.isFn K (.ref f36) = true)
    (l36 : K.lookup f36 = some ⟨oc36, od36, .func (PySem.W.fnOf "peek" "Memory.peek" (defArgs sPeek) (defBody sPeek) (defScope sPeek) .none kV36 dc36 pm36 an36 cd36 ct36), sl36⟩)
    (c36 : PySem.W.codeIn K cd36 "Memory.peek" = true)
    (k36 : PySem.W.keepIn K (.ref f36) = true)
    (a37 : PySem.W.findIn K (.ref M) "trail" = some (some (.ref f37)))
    (i37 : PySem.W.isFn K (.ref f37) = true)
    (l37 : K.lookup f37 = some ⟨oc37, od37, .func (PySem.W.fnOf "trail" "Memory.trail" (defArgs sTrail) (defBody sTrail) (defScope sTrail) .none kV37 dc37 pm37 an37 cd37 ct37), sl37⟩)
    (c37 : PySem.W.codeIn K cd37 "Memory.trail" = true)
    (k37 : PySem.W.keepIn K (.ref f37) = true)
    (a38 : PySem.W.findIn K (.ref M) "drift" = some (some (.ref f38)))
    (i38 : PySem.W.isFn K (.ref f38) = true)
    (l38 : K.lookup f38 = some ⟨oc38, od38, .func (PySem.W.fnOf "drift" "Memory.drift" (defArgs sDrift) (defBody sDrift) (defScope sDrift) .none kV38 dc38 pm38 an38 cd38 ct38), sl38⟩)
    (c38 : PySem.W.codeIn K cd38 "Memory.drift" = true)
    (k38 : PySem.W.keepIn K (.ref f38) = true)
    (a39 : PySem.W.findIn K (.ref M) "_ask_lasting" = some (some (.ref f39)))
    (i39 : PySem.W.isFn K (.ref f39) = true)
    (l39 : K.lookup f39 = some ⟨oc39, od39, .func (PySem.W.fnOf "_ask_lasting" "Memory._ask_lasting" (defArgs sAsk) (defBody sAsk) (defScope sAsk) .none kV39 dc39 pm39 an39 cd39 ct39), sl39⟩)
    (c39 : PySem.W.codeIn K cd39 "Memory._ask_lasting" = true)
    (k39 : PySem.W.keepIn K (.ref f39) = true)
    (a40 : PySem.W.findIn K (.ref M) "_result" = some (some (.ref f40)))
    (i40 : PySem.W.isFn K (.ref f40) = true)
    (l40 : K.lookup f40 = some ⟨oc40, od40, .func (PySem.W.fnOf "_result" "Memory._result" (defArgs sResult) (defBody sResult) (defScope sResult) .none kV40 dc40 pm40 an40 cd40 ct40), sl40⟩)
    (c40 : PySem.W.codeIn K cd40 "Memory._result" = true)
    (k40 : PySem.W.keepIn K (.ref f40) = true)
    (a41 : PySem.W.findIn K (.ref M) "_give" = some (some (.ref f41)))
    (i41 : PySem.W.isFn K (.ref f41) = true)
    (l41 : K.lookup f41 = some ⟨oc41, od41, .func (PySem.W.fnOf "_give" "Memory._give" (defArgs sGive) (defBody sGive) (defScope sGive) .none kV41 dc41 pm41 an41 cd41 ct41), sl41⟩)
    (c41 : PySem.W.codeIn K cd41 "Memory._give" = true)
    (k41 : PySem.W.keepIn K (.ref f41) = true)
    (a42 : PySem.W.findIn K (.ref M) "_give_if" = some (some (.ref f42)))
    (i42 : PySem.W.isFn K (.ref f42) = true)
    (l42 : K.lookup f42 = some ⟨oc42, od42, .func (PySem.W.fnOf "_give_if" "Memory._give_if" (defArgs sGiveIf) (defBody sGiveIf) (defScope sGiveIf) .none kV42 dc42 pm42 an42 cd42 ct42), sl42⟩)
    (c42 : PySem.W.codeIn K cd42 "Memory._give_if" = true)
    (k42 : PySem.W.keepIn K (.ref f42) = true)
    (a43 : PySem.W.findIn K (.ref M) "_fence" = some (some (.ref f43)))
    (i43 : PySem.W.isFn K (.ref f43) = true)
    (l43 : K.lookup f43 = some ⟨oc43, od43, .func (PySem.W.fnOf "_fence" "Memory._fence" (defArgs sFence) (defBody sFence) (defScope sFence) .none kV43 dc43 pm43 an43 cd43 ct43), sl43⟩)
    (c43 : PySem.W.codeIn K cd43 "Memory._fence" = true)
    (k43 : PySem.W.keepIn K (.ref f43) = true)
    (a44 : PySem.W.findIn K (.ref M) "_shorten" = some (some (.ref f44)))
    (i44 : PySem.W.isFn K (.ref f44) = true)
    (l44 : K.lookup f44 = some ⟨oc44, od44, .func (PySem.W.fnOf "_shorten" "Memory._shorten" (defArgs sShort) (defBody sShort) (defScope sShort) .none kV44 dc44 pm44 an44 cd44 ct44), sl44⟩)
    (c44 : PySem.W.codeIn K cd44 "Memory._shorten" = true)
    (k44 : PySem.W.keepIn K (.ref f44) = true)
    (a45 : PySem.W.findIn K (.ref SK) "__init__" = some (some (.ref f45)))
    (i45 : PySem.W.isFn K (.ref f45) = true)
    (l45 : K.lookup f45 = some ⟨oc45, od45, .func (PySem.W.fnOf "__init__" "Stack.__init__" (defArgs sKInit) (defBody sKInit) (defScope sKInit) .none kV45 dc45 pm45 an45 cd45 ct45), sl45⟩)
    (c45 : PySem.W.codeIn K cd45 "Stack.__init__" = true)
    (k45 : PySem.W.keepIn K (.ref f45) = true)
    (a46 : PySem.W.findIn K (.ref SK) "step" = some (some (.ref f46)))
    (i46 : PySem.W.isFn K (.ref f46) = true)
    (l46 : K.lookup f46 = some ⟨oc46, od46, .func (PySem.W.fnOf "step" "Stack.step" (defArgs sKStep) (defBody sKStep) (defScope sKStep) .none kV46 dc46 pm46 an46 cd46 ct46), sl46⟩)
    (c46 : PySem.W.codeIn K cd46 "Stack.step" = true)
    (k46 : PySem.W.keepIn K (.ref f46) = true)
    (a47 : PySem.W.findIn K (.ref SK) "ended" = some (some (.ref f47)))
    (i47 : PySem.W.isFn K (.ref f47) = true)
    (l47 : K.lookup f47 = some ⟨oc47, od47, .func (PySem.W.fnOf "ended" "Stack.ended" (defArgs sKEnded) (defBody sKEnded) (defScope sKEnded) .none kV47 dc47 pm47 an47 cd47 ct47), sl47⟩)
    (c47 : PySem.W.codeIn K cd47 "Stack.ended" = true)
    (k47 : PySem.W.keepIn K (.ref f47) = true)
    (a48 : PySem.W.findIn K (.ref SK) "value" = some (some (.ref f48)))
    (i48 : PySem.W.isFn K (.ref f48) = true)
    (l48 : K.lookup f48 = some ⟨oc48, od48, .func (PySem.W.fnOf "value" "Stack.value" (defArgs sKValue) (defBody sKValue) (defScope sKValue) .none kV48 dc48 pm48 an48 cd48 ct48), sl48⟩)
    (c48 : PySem.W.codeIn K cd48 "Stack.value" = true)
    (k48 : PySem.W.keepIn K (.ref f48) = true)
    (a49 : PySem.W.findIn K (.ref SK) "_check_thread" = some (some (.ref f49)))
    (i49 : PySem.W.isFn K (.ref f49) = true)
    (l49 : K.lookup f49 = some ⟨oc49, od49, .func (PySem.W.fnOf "_check_thread" "Stack._check_thread" (defArgs sKCheck) (defBody sKCheck) (defScope sKCheck) .none kV49 dc49 pm49 an49 cd49 ct49), sl49⟩)
    (c49 : PySem.W.codeIn K cd49 "Stack._check_thread" = true)
    (k49 : PySem.W.keepIn K (.ref f49) = true)
    (a50 : PySem.W.findIn K (.ref SK) "_settle" = some (some (.ref f50)))
    (i50 : PySem.W.isFn K (.ref f50) = true)
    (l50 : K.lookup f50 = some ⟨oc50, od50, .func (PySem.W.fnOf "_settle" "Stack._settle" (defArgs sKSettle) (defBody sKSettle) (defScope sKSettle) .none kV50 dc50 pm50 an50 cd50 ct50), sl50⟩)
    (c50 : PySem.W.codeIn K cd50 "Stack._settle" = true)
    (k50 : PySem.W.keepIn K (.ref f50) = true)
    (a51 : PySem.W.findIn K (.ref SK) "_end" = some (some (.ref f51)))
    (i51 : PySem.W.isFn K (.ref f51) = true)
    (l51 : K.lookup f51 = some ⟨oc51, od51, .func (PySem.W.fnOf "_end" "Stack._end" (defArgs sKEnd) (defBody sKEnd) (defScope sKEnd) .none kV51 dc51 pm51 an51 cd51 ct51), sl51⟩)
    (c51 : PySem.W.codeIn K cd51 "Stack._end" = true)
    (k51 : PySem.W.keepIn K (.ref f51) = true)
    (a52 : PySem.W.findIn K (.ref MA) "__init__" = some (some (.ref f52)))
    (i52 : PySem.W.isFn K (.ref f52) = true)
    (l52 : K.lookup f52 = some ⟨oc52, od52, .func (PySem.W.fnOf "__init__" "Machine.__init__" (defArgs sMaInit) (defBody sMaInit) (defScope sMaInit) .none kV52 dc52 pm52 an52 cd52 ct52), sl52⟩)
    (c52 : PySem.W.codeIn K cd52 "Machine.__init__" = true)
    (k52 : PySem.W.keepIn K (.ref f52) = true)
    (a53 : PySem.W.findIn K (.ref CD) "__init__" = some (some (.ref f53)))
    (i53 : PySem.W.isFn K (.ref f53) = true)
    (l53 : K.lookup f53 = some ⟨oc53, od53, .func (PySem.W.fnOf "__init__" "Doing.__init__" (defArgs sDInit) (defBody sDInit) (defScope sDInit) (.ref D53) kV53 dc53 pm53 an53 cd53 ct53), sl53⟩)
    (d53 : K.lookup D53 = some ⟨.type "tuple", aD53, .seq #[.int 0 tD53] nD53, zD53⟩)
    (c53 : PySem.W.codeIn K cd53 "Doing.__init__" = true)
    (k53 : PySem.W.keepIn K (.ref f53) = true)
    (a54 : PySem.W.findIn K (.ref CD) "request" = some (some (.ref f54)))
    (i54 : PySem.W.isFn K (.ref f54) = true)
    (l54 : K.lookup f54 = some ⟨oc54, od54, .func (PySem.W.fnOf "request" "Doing.request" (defArgs sDReq) (defBody sDReq) (defScope sDReq) .none kV54 dc54 pm54 an54 cd54 ct54), sl54⟩)
    (c54 : PySem.W.codeIn K cd54 "Doing.request" = true)
    (k54 : PySem.W.keepIn K (.ref f54) = true)
    (a55 : PySem.W.findIn K (.ref CD) "accept" = some (some (.ref f55)))
    (i55 : PySem.W.isFn K (.ref f55) = true)
    (l55 : K.lookup f55 = some ⟨oc55, od55, .func (PySem.W.fnOf "accept" "Doing.accept" (defArgs sDAcc) (defBody sDAcc) (defScope sDAcc) .none kV55 dc55 pm55 an55 cd55 ct55), sl55⟩)
    (c55 : PySem.W.codeIn K cd55 "Doing.accept" = true)
    (k55 : PySem.W.keepIn K (.ref f55) = true)
    (a56 : PySem.W.findIn K (.ref CD) "_take_deed" = some (some (.ref f56)))
    (i56 : PySem.W.isFn K (.ref f56) = true)
    (l56 : K.lookup f56 = some ⟨oc56, od56, .func (PySem.W.fnOf "_take_deed" "Doing._take_deed" (defArgs sDDeed) (defBody sDDeed) (defScope sDDeed) .none kV56 dc56 pm56 an56 cd56 ct56), sl56⟩)
    (c56 : PySem.W.codeIn K cd56 "Doing._take_deed" = true)
    (k56 : PySem.W.keepIn K (.ref f56) = true)
    (a57 : PySem.W.findIn K (.ref CD) "_take_status" = some (some (.ref f57)))
    (i57 : PySem.W.isFn K (.ref f57) = true)
    (l57 : K.lookup f57 = some ⟨oc57, od57, .func (PySem.W.fnOf "_take_status" "Doing._take_status" (defArgs sDStat) (defBody sDStat) (defScope sDStat) .none kV57 dc57 pm57 an57 cd57 ct57), sl57⟩)
    (c57 : PySem.W.codeIn K cd57 "Doing._take_status" = true)
    (k57 : PySem.W.keepIn K (.ref f57) = true)
    (a58 : PySem.W.findIn K (.ref CD) "_look" = some (some (.ref f58)))
    (i58 : PySem.W.isFn K (.ref f58) = true)
    (l58 : K.lookup f58 = some ⟨oc58, od58, .func (PySem.W.fnOf "_look" "Doing._look" (defArgs sDLook) (defBody sDLook) (defScope sDLook) .none kV58 dc58 pm58 an58 cd58 ct58), sl58⟩)
    (c58 : PySem.W.codeIn K cd58 "Doing._look" = true)
    (k58 : PySem.W.keepIn K (.ref f58) = true)
    (a59 : PySem.W.findIn K (.ref CD) "_take_word" = some (some (.ref f59)))
    (i59 : PySem.W.isFn K (.ref f59) = true)
    (l59 : K.lookup f59 = some ⟨oc59, od59, .func (PySem.W.fnOf "_take_word" "Doing._take_word" (defArgs sDWord) (defBody sDWord) (defScope sDWord) .none kV59 dc59 pm59 an59 cd59 ct59), sl59⟩)
    (c59 : PySem.W.codeIn K cd59 "Doing._take_word" = true)
    (k59 : PySem.W.keepIn K (.ref f59) = true)
    (a60 : PySem.W.findIn K (.ref CD) "_take_swap" = some (some (.ref f60)))
    (i60 : PySem.W.isFn K (.ref f60) = true)
    (l60 : K.lookup f60 = some ⟨oc60, od60, .func (PySem.W.fnOf "_take_swap" "Doing._take_swap" (defArgs sDSwap) (defBody sDSwap) (defScope sDSwap) .none kV60 dc60 pm60 an60 cd60 ct60), sl60⟩)
    (c60 : PySem.W.codeIn K cd60 "Doing._take_swap" = true)
    (k60 : PySem.W.keepIn K (.ref f60) = true)
    (a61 : PySem.W.findIn K (.ref CD) "_pass" = some (some (.ref f61)))
    (i61 : PySem.W.isFn K (.ref f61) = true)
    (l61 : K.lookup f61 = some ⟨oc61, od61, .func (PySem.W.fnOf "_pass" "Doing._pass" (defArgs sDPass) (defBody sDPass) (defScope sDPass) .none kV61 dc61 pm61 an61 cd61 ct61), sl61⟩)
    (c61 : PySem.W.codeIn K cd61 "Doing._pass" = true)
    (k61 : PySem.W.keepIn K (.ref f61) = true)
    (a62 : PySem.W.findIn K (.ref CD) "_decide" = some (some (.ref f62)))
    (i62 : PySem.W.isFn K (.ref f62) = true)
    (l62 : K.lookup f62 = some ⟨oc62, od62, .func (PySem.W.fnOf "_decide" "Doing._decide" (defArgs sDDec) (defBody sDDec) (defScope sDDec) .none kV62 dc62 pm62 an62 cd62 ct62), sl62⟩)
    (c62 : PySem.W.codeIn K cd62 "Doing._decide" = true)
    (k62 : PySem.W.keepIn K (.ref f62) = true)
    (a63 : PySem.W.findIn K (.ref CD) "_closing_accesses" = some (some (.ref f63)))
    (i63 : PySem.W.isFn K (.ref f63) = true)
    (l63 : K.lookup f63 = some ⟨oc63, od63, .func (PySem.W.fnOf "_closing_accesses" "Doing._closing_accesses" (defArgs sDClo) (defBody sDClo) (defScope sDClo) .none kV63 dc63 pm63 an63 cd63 ct63), sl63⟩)
    (c63 : PySem.W.codeIn K cd63 "Doing._closing_accesses" = true)
    (k63 : PySem.W.keepIn K (.ref f63) = true)
    (a64 : PySem.W.findIn K (.ref CD) "_close" = some (some (.ref f64)))
    (i64 : PySem.W.isFn K (.ref f64) = true)
    (l64 : K.lookup f64 = some ⟨oc64, od64, .func (PySem.W.fnOf "_close" "Doing._close" (defArgs sDClose) (defBody sDClose) (defScope sDClose) .none kV64 dc64 pm64 an64 cd64 ct64), sl64⟩)
    (c64 : PySem.W.codeIn K cd64 "Doing._close" = true)
    (k64 : PySem.W.keepIn K (.ref f64) = true)
    (a65 : PySem.W.findIn K (.ref CD) "_mark_of" = some (some (.ref f65)))
    (i65 : PySem.W.isFn K (.ref f65) = true)
    (l65 : K.lookup f65 = some ⟨oc65, od65, .func (PySem.W.fnOf "_mark_of" "Doing._mark_of" (defArgs sDMark) (defBody sDMark) (defScope sDMark) .none kV65 dc65 pm65 an65 cd65 ct65), sl65⟩)
    (c65 : PySem.W.codeIn K cd65 "Doing._mark_of" = true)
    (k65 : PySem.W.keepIn K (.ref f65) = true)
    (a66 : PySem.W.findIn K (.ref CD) "_ask" = some (some (.ref f66)))
    (i66 : PySem.W.isFn K (.ref f66) = true)
    (l66 : K.lookup f66 = some ⟨oc66, od66, .func (PySem.W.fnOf "_ask" "Machine._ask" (defArgs sMaAsk) (defBody sMaAsk) (defScope sMaAsk) .none kV66 dc66 pm66 an66 cd66 ct66), sl66⟩)
    (c66 : PySem.W.codeIn K cd66 "Machine._ask" = true)
    (k66 : PySem.W.keepIn K (.ref f66) = true)
    (a67 : PySem.W.findIn K (.ref CD) "_end" = some (some (.ref f67)))
    (i67 : PySem.W.isFn K (.ref f67) = true)
    (l67 : K.lookup f67 = some ⟨oc67, od67, .func (PySem.W.fnOf "_end" "Machine._end" (defArgs sMaEnd) (defBody sMaEnd) (defScope sMaEnd) .none kV67 dc67 pm67 an67 cd67 ct67), sl67⟩)
    (c67 : PySem.W.codeIn K cd67 "Machine._end" = true)
    (k67 : PySem.W.keepIn K (.ref f67) = true)
    (a68 : PySem.W.findIn K (.ref CD) "_go_on" = some (some (.ref f68)))
    (i68 : PySem.W.isFn K (.ref f68) = true)
    (l68 : K.lookup f68 = some ⟨oc68, od68, .func (PySem.W.fnOf "_go_on" "Machine._go_on" (defArgs sMaGo) (defBody sMaGo) (defScope sMaGo) .none kV68 dc68 pm68 an68 cd68 ct68), sl68⟩)
    (c68 : PySem.W.codeIn K cd68 "Machine._go_on" = true)
    (k68 : PySem.W.keepIn K (.ref f68) = true)
    (pgC : PySem.W.plainGet K C Str.empty = true)
    (hdC : PySem.W.hasDictIn K C = true)
    (poC : PySem.W.plainOver K C = true)
    (saC : PySem.W.findIn K (.ref C) "__setattr__" = some (some (.builtin "object.__setattr__")))
    (mkC : PySem.W.makesIn K C = true)
    (kcC : PySem.W.keepIn K (.ref C) = true)
    (pgM : PySem.W.plainGet K M Str.empty = true)
    (hdM : PySem.W.hasDictIn K M = true)
    (poM : PySem.W.plainOver K M = true)
    (saM : PySem.W.findIn K (.ref M) "__setattr__" = some (some (.builtin "object.__setattr__")))
    (mkM : PySem.W.makesIn K M = true)
    (kcM : PySem.W.keepIn K (.ref M) = true)
    (pgSK : PySem.W.plainGet K SK Str.empty = true)
    (hdSK : PySem.W.hasDictIn K SK = true)
    (poSK : PySem.W.plainOver K SK = true)
    (saSK : PySem.W.findIn K (.ref SK) "__setattr__" = some (some (.builtin "object.__setattr__")))
    (mkSK : PySem.W.makesIn K SK = true)
    (kcSK : PySem.W.keepIn K (.ref SK) = true)
    (pgMA : PySem.W.plainGet K MA Str.empty = true)
    (hdMA : PySem.W.hasDictIn K MA = true)
    (poMA : PySem.W.plainOver K MA = true)
    (saMA : PySem.W.findIn K (.ref MA) "__setattr__" = some (some (.builtin "object.__setattr__")))
    (mkMA : PySem.W.makesIn K MA = true)
    (kcMA : PySem.W.keepIn K (.ref MA) = true)
    (pgCD : PySem.W.plainGet K CD Str.empty = true)
    (hdCD : PySem.W.hasDictIn K CD = true)
    (poCD : PySem.W.plainOver K CD = true)
    (saCD : PySem.W.findIn K (.ref CD) "__setattr__" = some (some (.builtin "object.__setattr__")))
    (mkCD : PySem.W.makesIn K CD = true)
    (kcCD : PySem.W.keepIn K (.ref CD) = true)
    (gEm : PySem.W.nsIn K mainGlobals "EMPTY" = some (some (.ref E0)))
    (Cthreads : PySem.W.findIn K (.ref C) "threads" = some none)
    (Cwords : PySem.W.findIn K (.ref C) "words" = some none)
    (Crecords : PySem.W.findIn K (.ref C) "records" = some none)
    (Mlayout : PySem.W.findIn K (.ref M) "layout" = some none)
    (Mcount : PySem.W.findIn K (.ref M) "count" = some none)
    (M_passing : PySem.W.findIn K (.ref M) "_passing" = some none)
    (M_trails : PySem.W.findIn K (.ref M) "_trails" = some none)
    (M_lost : PySem.W.findIn K (.ref M) "_lost" = some none)
    (M_notes : PySem.W.findIn K (.ref M) "_notes" = some none)
    (M_log : PySem.W.findIn K (.ref M) "_log" = some none)
    (SK_machines : PySem.W.findIn K (.ref SK) "_machines" = some none)
    (SK_value : PySem.W.findIn K (.ref SK) "_value" = some none)
    (CD_wanted : PySem.W.findIn K (.ref CD) "_wanted" = some none)
    (CD_left : PySem.W.findIn K (.ref CD) "_left" = some none)
    (CD_then : PySem.W.findIn K (.ref CD) "_then" = some none)
    (CD_address : PySem.W.findIn K (.ref CD) "_address" = some none)
    (CD_without : PySem.W.findIn K (.ref CD) "_without" = some none)
    (CD_status_cell : PySem.W.findIn K (.ref CD) "_status_cell" = some none)
    (CD_entries : PySem.W.findIn K (.ref CD) "_entries" = some none)
    (CD_passed : PySem.W.findIn K (.ref CD) "_passed" = some none)
    (CD_status : PySem.W.findIn K (.ref CD) "_status" = some none)
    (hn : PySem.W.specialIn K (.builtin "object.__class__") "__get__" = some (some (.builtin "getset_descriptor.__get__")))
    (ht : PySem.W.takesIn K (.builtin "object.__class__") = some true)
    (xN : PySem.W.excIn K NV bmVE "ValueError.__new__" = true)
    (kN : PySem.W.keepIn K (.ref NV) = true)
    (sN : PySem.W.subIn K (.ref NV) (.type "BaseException") = some true)
    (tN : PySem.W.typeIn K (.ref NV) = some (.type "type"))
    (sL : PySem.W.subIn K (.ref LE) (.type "BaseException") = some true)
    (dL : PySem.W.hasDictIn K LE = true)
    (tL : PySem.W.typeIn K (.ref LE) = some (.type "type"))
    (sNL : PySem.W.subIn K (.ref NV) (.ref LE) = some true)
    (Ng : PySem.W.findIn K (.ref NV) "__getattribute__" = some (some (.builtin "BaseException.__getattribute__")))
    (Nk : PySem.W.findIn K (.ref NV) "__getattr__" = some none)
    (Nd : PySem.W.hasDictIn K NV = true)
    (Na : PySem.W.findIn K (.ref NV) "__class__" = some (some (.builtin "object.__class__")))
    (Nm : PySem.W.mroIn K NV (.type "object") = some true)
    (bgD : PySem.W.specialIn K (.ref f56) "__get__" = some (some (.builtin "function.__get__")))
    (btD : PySem.W.takesIn K (.ref f56) = some false)
    (bfD : PySem.W.fnIn K f56 = true)
    (bgT : PySem.W.specialIn K (.ref f57) "__get__" = some (some (.builtin "function.__get__")))
    (btT : PySem.W.takesIn K (.ref f57) = some false)
    (bfT : PySem.W.fnIn K f57 = true)
    (bgW : PySem.W.specialIn K (.ref f59) "__get__" = some (some (.builtin "function.__get__")))
    (btW : PySem.W.takesIn K (.ref f59) = some false)
    (bfW : PySem.W.fnIn K f59 = true)
    (bgS : PySem.W.specialIn K (.ref f60) "__get__" = some (some (.builtin "function.__get__")))
    (btS : PySem.W.takesIn K (.ref f60) = some false)
    (bfS : PySem.W.fnIn K f60 = true)
    (bgC : PySem.W.specialIn K (.ref f64) "__get__" = some (some (.builtin "function.__get__")))
    (btC : PySem.W.takesIn K (.ref f64) = some false)
    (bfC : PySem.W.fnIn K f64 = true)
    (mr : PySem.W.readsIn K MA (.type "type") = true)
    (mc : PySem.W.findCls K (.ref MA) (.type "type") "__init__" = some (.val (.ref f52)))
    (mg0 : PySem.W.specialIn K (.ref MA) "__getattribute__" = some (some (.builtin "type.__getattribute__")))
    (z_isinstance : PySem.W.nsIn K mainGlobals "isinstance" = some none)
    (z_int : PySem.W.nsIn K mainGlobals "int" = some none)
    (z_bool : PySem.W.nsIn K mainGlobals "bool" = some none)
    (z_str : PySem.W.nsIn K mainGlobals "str" = some none)
    (z_tuple : PySem.W.nsIn K mainGlobals "tuple" = some none)
    (z_list : PySem.W.nsIn K mainGlobals "list" = some none)
    (z_range : PySem.W.nsIn K mainGlobals "range" = some none)
    (z_len : PySem.W.nsIn K mainGlobals "len" = some none)
    (z_abs : PySem.W.nsIn K mainGlobals "abs" = some none)
    (z_max : PySem.W.nsIn K mainGlobals "max" = some none)
    (z_min : PySem.W.nsIn K mainGlobals "min" = some none)
    (z_zip : PySem.W.nsIn K mainGlobals "zip" = some none)
    (z_sorted : PySem.W.nsIn K mainGlobals "sorted" = some none)
    (z_all : PySem.W.nsIn K mainGlobals "all" = some none)
    : ∃ fd : FuncData, (∀ (s : Shared) (v : Value), BindsTo s fd ⟨[v], []⟩ [("script", v)]) ∧ ∀ base : Heap, K.In base → base.Ns mainGlobals mg → FnOk l.prog w K mg base CX0 21 fa fd ["script"] (spLaw K) := by
  have e := hfa.symm.trans (PySem.W.mg_of X G a23)
  cases e
  have F1 := fun_mk (st := sWhole) l1 c1 k1
  have b1 := F1.binds (ps := ["value"]) fun _ _ _ _ _ _ us hl => match us, hl with | [_], _ => rfl
  have T_is_whole : GT K mg "is_whole" sWhole ["value"] := ⟨_, _, F1, PySem.W.mg_of X G a1, b1⟩
  have F2 := fun_mk (st := sWithin) l2 c2 k2
  have b2 := F2.binds (ps := ["value", "low", "high"]) fun _ _ _ _ _ _ us hl => match us, hl with | [_, _, _], _ => rfl
  have T_is_within : GT K mg "is_within" sWithin ["value", "low", "high"] := ⟨_, _, F2, PySem.W.mg_of X G a2, b2⟩
  have F3 := fun_mk (st := sMany) l3 c3 k3
  have b3 := F3.binds (ps := ["value"]) fun _ _ _ _ _ _ us hl => match us, hl with | [_], _ => rfl
  have T_is_many : GT K mg "is_many" sMany ["value"] := ⟨_, _, F3, PySem.W.mg_of X G a3, b3⟩
  have F4 := fun_mk (st := sIsValue) l4 c4 k4
  have b4 := F4.binds (ps := ["value"]) fun _ _ _ _ _ _ us hl => match us, hl with | [_], _ => rfl
  have T_is_value : GT K mg "is_value" sIsValue ["value"] := ⟨_, _, F4, PySem.W.mg_of X G a4, b4⟩
  have F5 := fun_mk (st := sIsSame) l5 c5 k5
  have b5 := F5.binds (ps := ["one", "other"]) fun _ _ _ _ _ _ us hl => match us, hl with | [_, _], _ => rfl
  have T_is_same : GT K mg "is_same" sIsSame ["one", "other"] := ⟨_, _, F5, PySem.W.mg_of X G a5, b5⟩
  have F6 := fun_mk (st := sAscd) l6 c6 k6
  have b6 := F6.binds (ps := ["numbers"]) fun _ _ _ _ _ _ us hl => match us, hl with | [_], _ => rfl
  have T_is_ascending : GT K mg "is_ascending" sAscd ["numbers"] := ⟨_, _, F6, PySem.W.mg_of X G a6, b6⟩
  have F7 := fun_mk (st := sIsMark) l7 c7 k7
  have b7 := F7.binds (ps := ["value"]) fun _ _ _ _ _ _ us hl => match us, hl with | [_], _ => rfl
  have T_is_mark : GT K mg "is_mark" sIsMark ["value"] := ⟨_, _, F7, PySem.W.mg_of X G a7, b7⟩
  have F8 := fun_mk (st := sIsAcc) l8 c8 k8
  have b8 := F8.binds (ps := ["layout", "request"]) fun _ _ _ _ _ _ us hl => match us, hl with | [_, _], _ => rfl
  have T_is_access : GT K mg "is_access" sIsAcc ["layout", "request"] := ⟨_, _, F8, PySem.W.mg_of X G a8, b8⟩
  have F9 := fun_mk (st := sLast) l9 c9 k9
  have b9 := F9.binds (ps := ["cells"]) fun _ _ _ _ _ _ us hl => match us, hl with | [_], _ => rfl
  have T_lasting_accesses : GT K mg "lasting_accesses" sLast ["cells"] := ⟨_, _, F9, PySem.W.mg_of X G a9, b9⟩
  have F10 := fun_mk (st := sPass) l10 c10 k10
  have b10 := F10.binds (ps := ["layout"]) fun _ _ _ _ _ _ us hl => match us, hl with | [_], _ => rfl
  have T_passing_values : GT K mg "passing_values" sPass ["layout"] := ⟨_, _, F10, PySem.W.mg_of X G a10, b10⟩
  have F11 := fun_mk (st := sTrails) l11 c11 k11
  have b11 := F11.binds (ps := ["layout"]) fun _ _ _ _ _ _ us hl => match us, hl with | [_], _ => rfl
  have T_first_trails : GT K mg "first_trails" sTrails ["layout"] := ⟨_, _, F11, PySem.W.mg_of X G a11, b11⟩
  have F12 := fun_mk (st := sNotes) l12 c12 k12
  have b12 := F12.binds (ps := ["layout"]) fun _ _ _ _ _ _ us hl => match us, hl with | [_], _ => rfl
  have T_no_notes : GT K mg "no_notes" sNotes ["layout"] := ⟨_, _, F12, PySem.W.mg_of X G a12, b12⟩
  have F13 := fun_mk (st := sIsDone) l13 c13 k13
  have b13 := F13.binds (ps := ["status"]) fun _ _ _ _ _ _ us hl => match us, hl with | [_], _ => rfl
  have T_is_done : GT K mg "is_done" sIsDone ["status"] := ⟨_, _, F13, PySem.W.mg_of X G a13, b13⟩
  have F14 := fun_mk (st := sShBy) l14 c14 k14
  have b14 := F14.binds (ps := ["mark", "status"]) fun _ _ _ _ _ _ us hl => match us, hl with | [_, _], _ => rfl
  have T_shown_by : GT K mg "shown_by" sShBy ["mark", "status"] := ⟨_, _, F14, PySem.W.mg_of X G a14, b14⟩
  have F15 := fun_mk (st := sDeedR) l15 c15 k15
  have b15 := F15.binds (ps := ["status", "entries", "thread", "number", "answer"]) fun _ _ _ _ _ _ us hl => match us, hl with | [_, _, _, _, _], _ => rfl
  have T_deed_record : GT K mg "deed_record" sDeedR ["status", "entries", "thread", "number", "answer"] := ⟨_, _, F15, PySem.W.mg_of X G a15, b15⟩
  have F16 := fun_mk (st := sTape) l16 c16 k16
  have b16 := F16.binds (ps := ["script"]) fun _ _ _ _ _ _ us hl => match us, hl with | [_], _ => rfl
  have T__law_tape : GT K mg "_law_tape" sTape ["script"] := ⟨_, _, F16, PySem.W.mg_of X G a16, b16⟩
  have F17 := fun_mk (st := sAt) l17 c17 k17
  have b17 := F17.binds (ps := ["tape", "k"]) fun _ _ _ _ _ _ us hl => match us, hl with | [_, _], _ => rfl
  have T__law_at : GT K mg "_law_at" sAt ["tape", "k"] := ⟨_, _, F17, PySem.W.mg_of X G a17, b17⟩
  have F18 := fun_mk (st := sRun) l18 c18 k18
  have b18 := F18.binds (ps := ["memory", "address"]) fun _ _ _ _ _ _ us hl => match us, hl with | [_, _], _ => rfl
  have T__law_run : GT K mg "_law_run" sRun ["memory", "address"] := ⟨_, _, F18, PySem.W.mg_of X G a18, b18⟩
  have F19 := fun_mk (st := sWords) l19 c19 k19
  have b19 := F19.binds (ps := ["memory"]) fun _ _ _ _ _ _ us hl => match us, hl with | [_], _ => rfl
  have T__law_words : GT K mg "_law_words" sWords ["memory"] := ⟨_, _, F19, PySem.W.mg_of X G a19, b19⟩
  have F20 := fun_mk (st := sEntr) l20 c20 k20
  have b20 := F20.binds (ps := ["tape", "place", "words", "serial"]) fun _ _ _ _ _ _ us hl => match us, hl with | [_, _, _, _], _ => rfl
  have T__law_entries : GT K mg "_law_entries" sEntr ["tape", "place", "words", "serial"] := ⟨_, _, F20, PySem.W.mg_of X G a20, b20⟩
  have F21 := fun_mk (st := sRefd) l21 c21 k21
  have b21 := F21.binds (ps := ["entries"]) fun _ _ _ _ _ _ us hl => match us, hl with | [_], _ => rfl
  have T__law_refused : GT K mg "_law_refused" sRefd ["entries"] := ⟨_, _, F21, PySem.W.mg_of X G a21, b21⟩
  have F22 := fun_mk (st := sLasts) l22 c22 k22
  have b22 := F22.binds (ps := ["memory", "address", "status", "words"]) fun _ _ _ _ _ _ us hl => match us, hl with | [_, _, _, _], _ => rfl
  have T__law_lasts : GT K mg "_law_lasts" sLasts ["memory", "address", "status", "words"] := ⟨_, _, F22, PySem.W.mg_of X G a22, b22⟩
  have F23 := fun_mk (st := sLaw) l23 c23 k23
  have F24 := fun_mk (st := sLInit) l24 c24 k24
  have b24 := F24.binds (ps := ["self", "threads", "words", "records"]) fun _ _ _ _ _ _ us hl => match us, hl with | [_, _, _, _], _ => rfl
  have Mk_Layout : Mk K C f24 := ⟨mkC, a24, i24, kcC⟩
  have FI_Layout := F24
  have bI_Layout := b24
  have F25 := fun_mk (st := sEpoch) l25 c25 k25
  have b25 := F25.binds (ps := ["self"]) fun _ _ _ _ _ _ us hl => match us, hl with | [_], _ => rfl
  have T_Layout_epoch : MT K C "epoch" "Layout.epoch" sEpoch ["self"] := ⟨_, _, F25, ⟨a25, i25, k25⟩, b25⟩
  have F26 := fun_mk (st := sESlot) l26 c26 k26
  have b26 := F26.binds (ps := ["self", "thread"]) fun _ _ _ _ _ _ us hl => match us, hl with | [_, _], _ => rfl
  have T_Layout_epoch_slot : MT K C "epoch_slot" "Layout.epoch_slot" sESlot ["self", "thread"] := ⟨_, _, F26, ⟨a26, i26, k26⟩, b26⟩
  have F27 := fun_mk (st := sCSlot) l27 c27 k27
  have b27 := F27.binds (ps := ["self", "thread"]) fun _ _ _ _ _ _ us hl => match us, hl with | [_, _], _ => rfl
  have T_Layout_call_slot : MT K C "call_slot" "Layout.call_slot" sCSlot ["self", "thread"] := ⟨_, _, F27, ⟨a27, i27, k27⟩, b27⟩
  have F28 := fun_mk (st := sWord) l28 c28 k28
  have b28 := F28.binds (ps := ["self", "index"]) fun _ _ _ _ _ _ us hl => match us, hl with | [_, _], _ => rfl
  have T_Layout_word : MT K C "word" "Layout.word" sWord ["self", "index"] := ⟨_, _, F28, ⟨a28, i28, k28⟩, b28⟩
  have F29 := fun_mk (st := sRecord) l29 c29 k29
  have b29 := F29.binds (ps := ["self", "index"]) fun _ _ _ _ _ _ us hl => match us, hl with | [_, _], _ => rfl
  have T_Layout_record : MT K C "record" "Layout.record" sRecord ["self", "index"] := ⟨_, _, F29, ⟨a29, i29, k29⟩, b29⟩
  have F30 := fun_mk (st := sCells) l30 c30 k30
  have b30 := F30.binds (ps := ["self"]) fun _ _ _ _ _ _ us hl => match us, hl with | [_], _ => rfl
  have T_Layout_cells : MT K C "cells" "Layout.cells" sCells ["self"] := ⟨_, _, F30, ⟨a30, i30, k30⟩, b30⟩
  have F31 := fun_mk (st := sIsCell) l31 c31 k31
  have b31 := F31.binds (ps := ["self", "cell"]) fun _ _ _ _ _ _ us hl => match us, hl with | [_, _], _ => rfl
  have T_Layout_is_cell : MT K C "is_cell" "Layout.is_cell" sIsCell ["self", "cell"] := ⟨_, _, F31, ⟨a31, i31, k31⟩, b31⟩
  have F32 := fun_mk (st := sIsLast) l32 c32 k32
  have b32 := F32.binds (ps := ["self", "cell"]) fun _ _ _ _ _ _ us hl => match us, hl with | [_, _], _ => rfl
  have T_Layout_is_lasting : MT K C "is_lasting" "Layout.is_lasting" sIsLast ["self", "cell"] := ⟨_, _, F32, ⟨a32, i32, k32⟩, b32⟩
  have F33 := fun_mk (st := sHasT) l33 c33 k33
  have b33 := F33.binds (ps := ["self", "thread"]) fun _ _ _ _ _ _ us hl => match us, hl with | [_, _], _ => rfl
  have T_Layout_has_thread : MT K C "has_thread" "Layout.has_thread" sHasT ["self", "thread"] := ⟨_, _, F33, ⟨a33, i33, k33⟩, b33⟩
  have F34 := fun_mk (st := sMInit) l34 c34 k34
  have b34 := F34.binds (ps := ["self", "layout"]) fun _ _ _ _ _ _ us hl => match us, hl with | [_, _], _ => rfl
  have Mk_Memory : Mk K M f34 := ⟨mkM, a34, i34, kcM⟩
  have FI_Memory := F34
  have bI_Memory := b34
  have F35 := fun_mk (st := sAccess) l35 c35 k35
  have b35 := F35.binds (ps := ["self", "thread", "request"]) fun _ _ _ _ _ _ us hl => match us, hl with | [_, _, _], _ => rfl
  have T_Memory_access : MT K M "access" "Memory.access" sAccess ["self", "thread", "request"] := ⟨_, _, F35, ⟨a35, i35, k35⟩, b35⟩
  have F36 := fun_mk (st := sPeek) l36 c36 k36
  have b36 := F36.binds (ps := ["self", "cell"]) fun _ _ _ _ _ _ us hl => match us, hl with | [_, _], _ => rfl
  have T_Memory_peek : MT K M "peek" "Memory.peek" sPeek ["self", "cell"] := ⟨_, _, F36, ⟨a36, i36, k36⟩, b36⟩
  have F37 := fun_mk (st := sTrail) l37 c37 k37
  have b37 := F37.binds (ps := ["self", "cell"]) fun _ _ _ _ _ _ us hl => match us, hl with | [_, _], _ => rfl
  have T_Memory_trail : MT K M "trail" "Memory.trail" sTrail ["self", "cell"] := ⟨_, _, F37, ⟨a37, i37, k37⟩, b37⟩
  have F38 := fun_mk (st := sDrift) l38 c38 k38
  have b38 := F38.binds (ps := ["self", "cell", "steps"]) fun _ _ _ _ _ _ us hl => match us, hl with | [_, _, _], _ => rfl
  have T_Memory_drift : MT K M "drift" "Memory.drift" sDrift ["self", "cell", "steps"] := ⟨_, _, F38, ⟨a38, i38, k38⟩, b38⟩
  have F39 := fun_mk (st := sAsk) l39 c39 k39
  have b39 := F39.binds (ps := ["self", "cell"]) fun _ _ _ _ _ _ us hl => match us, hl with | [_, _], _ => rfl
  have T_Memory__ask_lasting : MT K M "_ask_lasting" "Memory._ask_lasting" sAsk ["self", "cell"] := ⟨_, _, F39, ⟨a39, i39, k39⟩, b39⟩
  have F40 := fun_mk (st := sResult) l40 c40 k40
  have b40 := F40.binds (ps := ["self", "thread", "request"]) fun _ _ _ _ _ _ us hl => match us, hl with | [_, _, _], _ => rfl
  have T_Memory__result : MT K M "_result" "Memory._result" sResult ["self", "thread", "request"] := ⟨_, _, F40, ⟨a40, i40, k40⟩, b40⟩
  have F41 := fun_mk (st := sGive) l41 c41 k41
  have b41 := F41.binds (ps := ["self", "cell", "value"]) fun _ _ _ _ _ _ us hl => match us, hl with | [_, _, _], _ => rfl
  have T_Memory__give : MT K M "_give" "Memory._give" sGive ["self", "cell", "value"] := ⟨_, _, F41, ⟨a41, i41, k41⟩, b41⟩
  have F42 := fun_mk (st := sGiveIf) l42 c42 k42
  have b42 := F42.binds (ps := ["self", "cell", "old", "new"]) fun _ _ _ _ _ _ us hl => match us, hl with | [_, _, _, _], _ => rfl
  have T_Memory__give_if : MT K M "_give_if" "Memory._give_if" sGiveIf ["self", "cell", "old", "new"] := ⟨_, _, F42, ⟨a42, i42, k42⟩, b42⟩
  have F43 := fun_mk (st := sFence) l43 c43 k43
  have b43 := F43.binds (ps := ["self", "thread"]) fun _ _ _ _ _ _ us hl => match us, hl with | [_, _], _ => rfl
  have T_Memory__fence : MT K M "_fence" "Memory._fence" sFence ["self", "thread"] := ⟨_, _, F43, ⟨a43, i43, k43⟩, b43⟩
  have F44 := fun_mk (st := sShort) l44 c44 k44
  have b44 := F44.binds (ps := ["self", "cell", "steps"]) fun _ _ _ _ _ _ us hl => match us, hl with | [_, _, _], _ => rfl
  have T_Memory__shorten : MT K M "_shorten" "Memory._shorten" sShort ["self", "cell", "steps"] := ⟨_, _, F44, ⟨a44, i44, k44⟩, b44⟩
  have F45 := fun_mk (st := sKInit) l45 c45 k45
  have b45 := F45.binds (ps := ["self", "machine"]) fun _ _ _ _ _ _ us hl => match us, hl with | [_, _], _ => rfl
  have Mk_Stack : Mk K SK f45 := ⟨mkSK, a45, i45, kcSK⟩
  have FI_Stack := F45
  have bI_Stack := b45
  have F46 := fun_mk (st := sKStep) l46 c46 k46
  have b46 := F46.binds (ps := ["self", "memory", "thread"]) fun _ _ _ _ _ _ us hl => match us, hl with | [_, _, _], _ => rfl
  have T_Stack_step : MT K SK "step" "Stack.step" sKStep ["self", "memory", "thread"] := ⟨_, _, F46, ⟨a46, i46, k46⟩, b46⟩
  have F47 := fun_mk (st := sKEnded) l47 c47 k47
  have b47 := F47.binds (ps := ["self"]) fun _ _ _ _ _ _ us hl => match us, hl with | [_], _ => rfl
  have T_Stack_ended : MT K SK "ended" "Stack.ended" sKEnded ["self"] := ⟨_, _, F47, ⟨a47, i47, k47⟩, b47⟩
  have F48 := fun_mk (st := sKValue) l48 c48 k48
  have b48 := F48.binds (ps := ["self"]) fun _ _ _ _ _ _ us hl => match us, hl with | [_], _ => rfl
  have T_Stack_value : MT K SK "value" "Stack.value" sKValue ["self"] := ⟨_, _, F48, ⟨a48, i48, k48⟩, b48⟩
  have F49 := fun_mk (st := sKCheck) l49 c49 k49
  have b49 := F49.binds (ps := ["self", "memory", "thread"]) fun _ _ _ _ _ _ us hl => match us, hl with | [_, _, _], _ => rfl
  have T_Stack__check_thread : MT K SK "_check_thread" "Stack._check_thread" sKCheck ["self", "memory", "thread"] := ⟨_, _, F49, ⟨a49, i49, k49⟩, b49⟩
  have F50 := fun_mk (st := sKSettle) l50 c50 k50
  have b50 := F50.binds (ps := ["self"]) fun _ _ _ _ _ _ us hl => match us, hl with | [_], _ => rfl
  have T_Stack__settle : MT K SK "_settle" "Stack._settle" sKSettle ["self"] := ⟨_, _, F50, ⟨a50, i50, k50⟩, b50⟩
  have F51 := fun_mk (st := sKEnd) l51 c51 k51
  have b51 := F51.binds (ps := ["self", "value"]) fun _ _ _ _ _ _ us hl => match us, hl with | [_, _], _ => rfl
  have T_Stack__end : MT K SK "_end" "Stack._end" sKEnd ["self", "value"] := ⟨_, _, F51, ⟨a51, i51, k51⟩, b51⟩
  have F52 := fun_mk (st := sMaInit) l52 c52 k52
  have b52 := F52.binds (ps := ["self"]) fun _ _ _ _ _ _ us hl => match us, hl with | [_], _ => rfl
  have Mk_Machine : Mk K MA f52 := ⟨mkMA, a52, i52, kcMA⟩
  have FI_Machine := F52
  have bI_Machine := b52
  have F53 : FunD K "__init__" "Doing.__init__" (defArgs sDInit) (defBody sDInit) (defScope sDInit) [V.int 0] [] f53 _ := ⟨⟨_, _, _, _, _, _, _, _, _, _, rfl, l53, c53, .inr ⟨by simp, D53, _, _, _, rfl, d53, rfl, .cons ⟨_, rfl⟩ (.nil)⟩, .inl rfl⟩, k53⟩
  obtain ⟨ds53, vD53, b53⟩ := F53.binds1 2 0 (by simp) (ps := ["self", "address", "without"]) rfl fun T kV doc pm an cdv ct us its h1 h2 => match us, its, h1, h2 with | [_, _], [_], _, _ => ⟨_, rfl, rfl⟩
  have Mk_Doing : Mk K CD f53 := ⟨mkCD, a53, i53, kcCD⟩
  have FI_Doing := F53
  have bI_Doing := b53
  have vI_Doing := vD53
  have F54 := fun_mk (st := sDReq) l54 c54 k54
  have b54 := F54.binds (ps := ["self"]) fun _ _ _ _ _ _ us hl => match us, hl with | [_], _ => rfl
  have T_Doing_request : MT K CD "request" "Doing.request" sDReq ["self"] := ⟨_, _, F54, ⟨a54, i54, k54⟩, b54⟩
  have F55 := fun_mk (st := sDAcc) l55 c55 k55
  have b55 := F55.binds (ps := ["self", "result"]) fun _ _ _ _ _ _ us hl => match us, hl with | [_, _], _ => rfl
  have T_Doing_accept : MT K CD "accept" "Doing.accept" sDAcc ["self", "result"] := ⟨_, _, F55, ⟨a55, i55, k55⟩, b55⟩
  have F56 := fun_mk (st := sDDeed) l56 c56 k56
  have b56 := F56.binds (ps := ["self", "result"]) fun _ _ _ _ _ _ us hl => match us, hl with | [_, _], _ => rfl
  have T_Doing__take_deed : MT K CD "_take_deed" "Doing._take_deed" sDDeed ["self", "result"] := ⟨_, _, F56, ⟨a56, i56, k56⟩, b56⟩
  have F57 := fun_mk (st := sDStat) l57 c57 k57
  have b57 := F57.binds (ps := ["self", "result"]) fun _ _ _ _ _ _ us hl => match us, hl with | [_, _], _ => rfl
  have T_Doing__take_status : MT K CD "_take_status" "Doing._take_status" sDStat ["self", "result"] := ⟨_, _, F57, ⟨a57, i57, k57⟩, b57⟩
  have F58 := fun_mk (st := sDLook) l58 c58 k58
  have b58 := F58.binds (ps := ["self"]) fun _ _ _ _ _ _ us hl => match us, hl with | [_], _ => rfl
  have T_Doing__look : MT K CD "_look" "Doing._look" sDLook ["self"] := ⟨_, _, F58, ⟨a58, i58, k58⟩, b58⟩
  have F59 := fun_mk (st := sDWord) l59 c59 k59
  have b59 := F59.binds (ps := ["self", "result"]) fun _ _ _ _ _ _ us hl => match us, hl with | [_, _], _ => rfl
  have T_Doing__take_word : MT K CD "_take_word" "Doing._take_word" sDWord ["self", "result"] := ⟨_, _, F59, ⟨a59, i59, k59⟩, b59⟩
  have F60 := fun_mk (st := sDSwap) l60 c60 k60
  have b60 := F60.binds (ps := ["self", "result"]) fun _ _ _ _ _ _ us hl => match us, hl with | [_, _], _ => rfl
  have T_Doing__take_swap : MT K CD "_take_swap" "Doing._take_swap" sDSwap ["self", "result"] := ⟨_, _, F60, ⟨a60, i60, k60⟩, b60⟩
  have F61 := fun_mk (st := sDPass) l61 c61 k61
  have b61 := F61.binds (ps := ["self"]) fun _ _ _ _ _ _ us hl => match us, hl with | [_], _ => rfl
  have T_Doing__pass : MT K CD "_pass" "Doing._pass" sDPass ["self"] := ⟨_, _, F61, ⟨a61, i61, k61⟩, b61⟩
  have F62 := fun_mk (st := sDDec) l62 c62 k62
  have b62 := F62.binds (ps := ["self", "word"]) fun _ _ _ _ _ _ us hl => match us, hl with | [_, _], _ => rfl
  have T_Doing__decide : MT K CD "_decide" "Doing._decide" sDDec ["self", "word"] := ⟨_, _, F62, ⟨a62, i62, k62⟩, b62⟩
  have F63 := fun_mk (st := sDClo) l63 c63 k63
  have b63 := F63.binds (ps := ["self"]) fun _ _ _ _ _ _ us hl => match us, hl with | [_], _ => rfl
  have T_Doing__closing_accesses : MT K CD "_closing_accesses" "Doing._closing_accesses" sDClo ["self"] := ⟨_, _, F63, ⟨a63, i63, k63⟩, b63⟩
  have F64 := fun_mk (st := sDClose) l64 c64 k64
  have b64 := F64.binds (ps := ["self", "result"]) fun _ _ _ _ _ _ us hl => match us, hl with | [_, _], _ => rfl
  have T_Doing__close : MT K CD "_close" "Doing._close" sDClose ["self", "result"] := ⟨_, _, F64, ⟨a64, i64, k64⟩, b64⟩
  have F65 := fun_mk (st := sDMark) l65 c65 k65
  have b65 := F65.binds (ps := ["self", "entry"]) fun _ _ _ _ _ _ us hl => match us, hl with | [_, _], _ => rfl
  have T_Doing__mark_of : MT K CD "_mark_of" "Doing._mark_of" sDMark ["self", "entry"] := ⟨_, _, F65, ⟨a65, i65, k65⟩, b65⟩
  have F66 := fun_mk (st := sMaAsk) l66 c66 k66
  have b66 := F66.binds (ps := ["self", "requests", "then"]) fun _ _ _ _ _ _ us hl => match us, hl with | [_, _, _], _ => rfl
  have T_Doing__ask : MT K CD "_ask" "Machine._ask" sMaAsk ["self", "requests", "then"] := ⟨_, _, F66, ⟨a66, i66, k66⟩, b66⟩
  have F67 := fun_mk (st := sMaEnd) l67 c67 k67
  have b67 := F67.binds (ps := ["self", "value"]) fun _ _ _ _ _ _ us hl => match us, hl with | [_, _], _ => rfl
  have T_Doing__end : MT K CD "_end" "Machine._end" sMaEnd ["self", "value"] := ⟨_, _, F67, ⟨a67, i67, k67⟩, b67⟩
  have F68 := fun_mk (st := sMaGo) l68 c68 k68
  have b68 := F68.binds (ps := ["self", "result"]) fun _ _ _ _ _ _ us hl => match us, hl with | [_, _], _ => rfl
  have T_Doing__go_on : MT K CD "_go_on" "Machine._go_on" sMaGo ["self", "result"] := ⟨_, _, F68, ⟨a68, i68, k68⟩, b68⟩
  have Bn0 : Bn mg := ⟨PySem.W.mg_none_of X G z_isinstance, PySem.W.mg_none_of X G z_int, PySem.W.mg_none_of X G z_bool, PySem.W.mg_none_of X G z_str, PySem.W.mg_none_of X G z_tuple, PySem.W.mg_none_of X G z_list, PySem.W.mg_none_of X G z_range, PySem.W.mg_none_of X G z_len, PySem.W.mg_none_of X G z_abs⟩
  have T : LTxt K mg C := ⟨Bn0, ⟨pgC, hdC, poC, saC⟩, Cthreads, Cwords, Crecords⟩
  have TM : MTxt K M := ⟨⟨pgM, hdM, poM, saM⟩, Mlayout, Mcount, M_passing, M_trails, M_lost, M_notes, M_log⟩
  have TK : KTx K SK := ⟨⟨pgSK, hdSK, poSK, saSK⟩, SK_machines, SK_value⟩
  have TCD : MTx K CD := ⟨⟨pgCD, hdCD, poCD, saCD⟩, CD_wanted, CD_left, CD_then⟩
  have TD : DTx K CD := ⟨TCD, CD_address, CD_without, CD_status_cell, CD_entries, CD_passed, CD_status⟩
  have X0 : XTxt K mg NV LE := ⟨PySem.W.mg_of X G gNV, PySem.W.mg_of X G gLE, xN, kN, sN, tN, PySem.W.exm_ref sL dL tL sNL, ⟨Ng, Nk, sN, Nd, Na, hn, ht, Nm⟩, kit_self⟩
  have cMi : Mr.CFn K MA "__init__" f52 := ⟨⟨_, mr, mc⟩, mg0, k52⟩
  have BD : BMeth K CD "_take_deed" f56 := ⟨⟨a56, i56, k56⟩, bgD, btD, by decide +kernel, bfD⟩
  have BT : BMeth K CD "_take_status" f57 := ⟨⟨a57, i57, k57⟩, bgT, btT, by decide +kernel, bfT⟩
  have BW : BMeth K CD "_take_word" f59 := ⟨⟨a59, i59, k59⟩, bgW, btW, by decide +kernel, bfW⟩
  have BS : BMeth K CD "_take_swap" f60 := ⟨⟨a60, i60, k60⟩, bgS, btS, by decide +kernel, bfS⟩
  have BC : BMeth K CD "_close" f64 := ⟨⟨a64, i64, k64⟩, bgC, btC, by decide +kernel, bfC⟩
  refine ⟨PySem.W.fnOf "law" "law" (defArgs sLaw) (defBody sLaw) (defScope sLaw) .none kV23 dc23 pm23 an23 cd23 ct23, fun s v => .of_eq rfl, fun base _ _ => ?_⟩
  have Gwh := go_whole (P := l.prog) (w := w) (base := base) T_is_whole Bn0
  have Gwi := go_within T_is_within Gwh
  have Giv := go_isvalueD (P := l.prog) (w := w) (base := base) T_is_value Bn0
  have Gsm := go_issameD (P := l.prog) (w := w) (base := base) T_is_same Bn0 (PySem.W.mg_none_of X G z_zip)
  have Gep := mo_epoch (P := l.prog) (w := w) (mg := mg) (base := base) T_Layout_epoch
  have Ges := mo_eslot (P := l.prog) (w := w) (mg := mg) (base := base) T_Layout_epoch_slot
  have Gcs := mo_cslot T_Layout_call_slot T Ges
  have Gwo := mo_word T_Layout_word T Gcs
  have Gre := mo_record T_Layout_record T Gwo
  have Gce := mo_cells T_Layout_cells T Gre
  have Gic := mo_iscell T_Layout_is_cell T Gce Gwi
  have Gil := mo_islast T_Layout_is_lasting T Gic Gcs
  have Ght := mo_hast T_Layout_has_thread T Gwi
  have Gia := go_isacc T_is_access T Gic Gil Giv
  have Gli := ok_linit FI_Layout T X0 Gwi
  have Gpv := go_pass (P := l.prog) (w := w) (base := base) T_passing_values T
  have Gft := go_trails T_first_trails T (PySem.W.mg_of X G gEm) Gcs Gwo Gre Gce
  have Gnn := go_notes (P := l.prog) (w := w) (base := base) T_no_notes T
  have Gmi := ok_minit FI_Memory T TM Gpv Gft Gnn
  have Gpk := mo_peek T_Memory_peek T TM Gic Gil
  have Ggi := mo_give T_Memory__give T TM Gil
  have Gsh := mo_short (P := l.prog) (w := w) (base := base) T_Memory__shorten T TM (PySem.W.mg_none_of X G z_max) (PySem.W.mg_none_of X G z_min)
  have Ggf := mo_giveif T_Memory__give_if T TM Gsm Gpk Ggi
  have Gfe := mo_fence T_Memory__fence TM Gsh
  have Grs := mo_result T_Memory__result T TM Gpk Ggi Ggf Gfe
  have Gac := mo_access T_Memory_access T TM Ght Gia Grs
  have Gtp := go_tape (P := l.prog) (w := w) (base := base) T__law_tape Bn0
  have Gat := go_at (P := l.prog) (w := w) (base := base) T__law_at Bn0
  have Gmy := go_many T_is_many Gwh
  have Gak := mo_ask T_Memory__ask_lasting T TM X0 Gil
  have Gtr := mo_trail T_Memory_trail T TM Gak
  have Gdf := mo_drift T_Memory_drift TM Gak Gmy Gsh
  have Gki := ok_kinit (P := l.prog) (w := w) (base := base) (mg := mg) FI_Stack TK
  have Gke := mo_kended (P := l.prog) (w := w) (base := base) (mg := mg) T_Stack_ended TK
  have Gkv := mo_kvalue (P := l.prog) (w := w) (base := base) (mg := mg) T_Stack_value TK
  have Gkd := mo_kend (P := l.prog) (w := w) (base := base) (mg := mg) T_Stack__end TK
  have Gkc := mo_kcheck T_Stack__check_thread TK T TM Ght
  have Gks := mo_ksettle T_Stack__settle TK Gkd
  have Gkp := mo_kstep (ka := 7) T_Stack_step TK TM Gkc Gks Gac
  have Gmk := go_ismark (P := l.prog) (w := w) (base := base) T_is_mark Bn0
  have Gdn := go_isdone (P := l.prog) (w := w) (base := base) T_is_done Bn0
  have Gsb := go_shby T_shown_by Gdn
  have Gla := go_lasta (P := l.prog) (w := w) (base := base) (mg := mg) T_lasting_accesses
  have Gsc := go_asc (P := l.prog) (w := w) (base := base) T_is_ascending Bn0 (PySem.W.mg_none_of X G z_all) (PySem.W.mg_none_of X G z_zip)
  have Gdr : GO l.prog w K mg base (L2.CX l.prog w) 2 "deed_record" ["status", "entries", "thread", "number", "answer"] (spDeedR K NV) := ⟨_, _, ok_deedr F15 Bn0 (PySem.W.mg_none_of X G z_tuple) X0 Gsc, PySem.W.mg_of X G a15, k15, b15⟩
  have Gas := mo_maask (P := l.prog) (w := w) (base := base) (mg := mg) T_Doing__ask TCD
  have Ged := mo_maend (P := l.prog) (w := w) (base := base) (mg := mg) T_Doing__end TCD
  have Ggo := mo_mago (P := l.prog) (w := w) (base := base) (mg := mg) (k := 5) T_Doing__go_on TCD
  have Mi := raw0 (ok_mainit (P := l.prog) (w := w) (base := base) (mg := mg) FI_Machine TCD) bI_Machine
  have Grq := mo_dreq (P := l.prog) (w := w) (base := base) (mg := mg) T_Doing_request TCD
  have Gcc := mo_dacc (k := 5) T_Doing_accept TCD Ggo
  have Gdi := ok_dinit FI_Doing TD (PySem.W.mg_of X G gMA) cMi Mi BD Gas
  have Gmo := mo_dmark (P := l.prog) (w := w) (base := base) (mg := mg) T_Doing__mark_of TD
  have Gdc := mo_ddec T_Doing__decide TD BT Gas
  have Glk := mo_dlook T_Doing__look Bn0 TD BW Gas Gdc
  have Gdd := mo_ddeed T_Doing__take_deed TD BT Gas
  have Gdw := mo_dword T_Doing__take_word TD BS Gas Gdc Gmo Gmk
  have Gdp := mo_dpass T_Doing__pass TD Glk
  have Gds := mo_dswap T_Doing__take_swap TD Gdp Glk
  have Gdx := mo_dclose T_Doing__close TD Ged
  have Gdy := mo_dclo T_Doing__closing_accesses TD Gmo Gsb Gla
  have Gdt := mo_dstat T_Doing__take_status TD BC Gas Glk Gdy Gsm
  have mc : MCl l.prog w K mg base CD f55 := ⟨TCD.cl, Grq.md, ⟨a55, i55, k55⟩, md_at Gcc.md ⟨a55, i55, k55⟩⟩
  have DT : DoT l.prog w K mg base CD _ _ _ _ _ _ := ⟨mc, bfD, md_at Gdd.md BD.mt, bfT, md_at Gdt.md BT.mt, bfC, md_at Gdx.md BC.mt, bfW, md_at Gdw.md BW.mt, bfS, md_at Gds.md BS.mt⟩
  have Gru := go_run T__law_run Bn0 TK (PySem.W.mg_of X G gSK) Mk_Stack Gki bI_Stack (PySem.W.mg_of X G gCD) Mk_Doing Gdi bI_Doing vI_Doing Gkp Gke Gkv
  have Gwd := go_words T__law_words Bn0 TM Gpk
  have Gls := go_lasts T__law_lasts Bn0 TM Gtr
  have Gen := go_entr T__law_entries Bn0 Gat
  have Grf := go_refd T__law_refused Bn0 X0 Gdr
  exact ok_law F23 Bn0 TM DT (PySem.W.mg_of X G gC) Mk_Layout Gli bI_Layout (PySem.W.mg_of X G gM) Mk_Memory Gmi bI_Memory Gtp Grf Gat Gru Gwd Gls Gtr Gac Gpk Gdf Gdr Gen
theorem walk {l : PySem.W.OpenLaw} {q : Program} {loose : List Str} {XP : (Str → Option Value) → Heap → Prop} {YP : World → Heap → Prop} {d : DefRec} {K : Params → PySem.W.Frag} (hn : l.most = some 63) (hdf : d.params.defaults = [])
    (hY : ∀ (w : World) (h : Heap), YP w h → (K w.params).In h)
    (F : ∀ (w : World) (mg : Str → Option Value) (fa : Addr) (h : Heap), (K w.params).In h → h.Ns mainGlobals mg → mg d.name = some (.ref fa) →
      ∃ fd : FuncData, (∀ (s : Shared) (u : Value), BindsTo s fd ⟨[u], []⟩ [("script", u)]) ∧ ∀ base : Heap, (K w.params).In base → base.Ns mainGlobals mg → FnOk l.prog w (K w.params) mg base CX0 21 fa fd ["script"] (spLaw (K w.params))) :
    PySem.W.WalkO q loose XP YP l.row.toRowW d [] (fun f vs => PySem.call f vs) :=
  L2.walk_of (n := 63) (k := 21) (x := "script") (CX := fun _ => CX0) (sp := fun w => spLaw (K w.params)) hn (by decide) hdf ⟨rfl, by decide, by decide⟩ hY F (fun _ _ a ns hl _ hS => ⟨a, ns, rfl, hS, hl, fun _ => rfl⟩) fun _ _ _ _ _ z => z
end Dk
open PySem PySem.W PyProof.Rows
set_option maxRecDepth 100000 in
set_option maxHeartbeats 0 in
theorem PySem.Challenge.cw_driftkept_k05_deed_alone_holds : PySem.Challenge.rw_driftkept_k05_deed_alone.Holds := by
  w_on; o_law; k_head; (case hw => w_witness2)
  k_fill
  refine Dk.walk (l := PySem.Challenge.rw_driftkept_k05_deed_alone) rfl rfl (fun w h Y => PySem.W.kIn_of Y) ?F
  case F =>
    intro w mg fa h KX G hmg
    refine' Dk.all_mk KX G hmg ?gC ?gM ?gSK ?gMA ?gCD ?gNV ?gLE ?a1 ?l1 ?c1 ?k1 ?a2 ?l2 ?c2 ?k2 ?a3 ?l3 ?c3 ?k3 ?a4 ?l4 ?c4 ?k4 ?a5 ?l5 ?c5 ?k5 ?a6 ?l6 ?c6 ?k6 ?a7 ?l7 ?c7 ?k7 ?a8 ?l8 ?c8 ?k8 ?a9 ?l9 ?c9 ?k9 ?a10 ?l10 ?c10 ?k10 ?a11 ?l11 ?c11 ?k11 ?a12 ?l12 ?c12 ?k12 ?a13 ?l13 ?c13 ?k13 ?a14 ?l14 ?c14 ?k14 ?a15 ?l15 ?c15 ?k15 ?a16 ?l16 ?c16 ?k16 ?a17 ?l17 ?c17 ?k17 ?a18 ?l18 ?c18 ?k18 ?a19 ?l19 ?c19 ?k19 ?a20 ?l20 ?c20 ?k20 ?a21 ?l21 ?c21 ?k21 ?a22 ?l22 ?c22 ?k22 ?a23 ?l23 ?c23 ?k23 ?a24 ?i24 ?l24 ?c24 ?k24 ?a25 ?i25 ?l25 ?c25 ?k25 ?a26 ?i26 ?l26 ?c26 ?k26 ?a27 ?i27 ?l27 ?c27 ?k27 ?a28 ?i28 ?l28 ?c28 ?k28 ?a29 ?i29 ?l29 ?c29 ?k29 ?a30 ?i30 ?l30 ?c30 ?k30 ?a31 ?i31 ?l31 ?c31 ?k31 ?a32 ?i32 ?l32 ?c32 ?k32 ?a33 ?i33 ?l33 ?c33 ?k33 ?a34 ?i34 ?l34 ?c34 ?k34 ?a35 ?i35 ?l35 ?c35 ?k35 ?a36 ?i36 ?l36 ?c36 ?k36 ?a37 ?i37 ?l37 ?c37 ?k37 ?a38 ?i38 ?l38 ?c38 ?k38 ?a39 ?i39 ?l39 ?c39 ?k39 ?a40 ?i40 ?l40 ?c40 ?k40 ?a41 ?i41 ?l41 ?c41 ?k41 ?a42 ?i42 ?l42 ?c42 ?k42 ?a43 ?i43 ?l43 ?c43 ?k43 ?a44 ?i44 ?l44 ?c44 ?k44 ?a45 ?i45 ?l45 ?c45 ?k45 ?a46 ?i46 ?l46 ?c46 ?k46 ?a47 ?i47 ?l47 ?c47 ?k47 ?a48 ?i48 ?l48 ?c48 ?k48 ?a49 ?i49 ?l49 ?c49 ?k49 ?a50 ?i50 ?l50 ?c50 ?k50 ?a51 ?i51 ?l51 ?c51 ?k51 ?a52 ?i52 ?l52 ?c52 ?k52 ?a53 ?i53 ?l53 ?d53 ?c53 ?k53 ?a54 ?i54 ?l54 ?c54 ?k54 ?a55 ?i55 ?l55 ?c55 ?k55 ?a56 ?i56 ?l56 ?c56 ?k56 ?a57 ?i57 ?l57 ?c57 ?k57 ?a58 ?i58 ?l58 ?c58 ?k58 ?a59 ?i59 ?l59 ?c59 ?k59 ?a60 ?i60 ?l60 ?c60 ?k60 ?a61 ?i61 ?l61 ?c61 ?k61 ?a62 ?i62 ?l62 ?c62 ?k62 ?a63 ?i63 ?l63 ?c63 ?k63 ?a64 ?i64 ?l64 ?c64 ?k64 ?a65 ?i65 ?l65 ?c65 ?k65 ?a66 ?i66 ?l66 ?c66 ?k66 ?a67 ?i67 ?l67 ?c67 ?k67 ?a68 ?i68 ?l68 ?c68 ?k68 ?pgC ?hdC ?poC ?saC ?mkC ?kcC ?pgM ?hdM ?poM ?saM ?mkM ?kcM ?pgSK ?hdSK ?poSK ?saSK ?mkSK ?kcSK ?pgMA ?hdMA ?poMA ?saMA ?mkMA ?kcMA ?pgCD ?hdCD ?poCD ?saCD ?mkCD ?kcCD ?gEm ?Cthreads ?Cwords ?Crecords ?Mlayout ?Mcount ?M_passing ?M_trails ?M_lost ?M_notes ?M_log ?SK_machines ?SK_value ?CD_wanted ?CD_left ?CD_then ?CD_address ?CD_without ?CD_status_cell ?CD_entries ?CD_passed ?CD_status ?hn ?ht ?xN ?kN ?sN ?tN ?sL ?dL ?tL ?sNL ?Ng ?Nk ?Nd ?Na ?Nm ?bgD ?btD ?bfD ?bgT ?btT ?bfT ?bgW ?btW ?bfW ?bgS ?btS ?bfS ?bgC ?btC ?bfC ?mr ?mc ?mg0 ?z_isinstance ?z_int ?z_bool ?z_str ?z_tuple ?z_list ?z_range ?z_len ?z_abs ?z_max ?z_min ?z_zip ?z_sorted ?z_all
    (case gC => k_is)
    (case gM => k_is)
    (case gSK => k_is)
    (case gMA => k_is)
    (case gCD => k_is)
    (case gNV => k_is)
    (case gLE => k_is)
    (case a1 => k_is)
    (case l1 => k_is)
    (case c1 => k_is)
    (case k1 => k_is)
    (case a2 => k_is)
    (case l2 => k_is)
    (case c2 => k_is)
    (case k2 => k_is)
    (case a3 => k_is)
    (case l3 => k_is)
    (case c3 => k_is)
    (case k3 => k_is)
    (case a4 => k_is)
    (case l4 => k_is)
    (case c4 => k_is)
    (case k4 => k_is)
    (case a5 => k_is)
    (case l5 => k_is)
    (case c5 => k_is)
    (case k5 => k_is)
    (case a6 => k_is)
    (case l6 => k_is)
    (case c6 => k_is)
    (case k6 => k_is)
    (case a7 => k_is)
    (case l7 => k_is)
    (case c7 => k_is)
    (case k7 => k_is)
    (case a8 => k_is)
    (case l8 => k_is)
    (case c8 => k_is)
    (case k8 => k_is)
    (case a9 => k_is)
    (case l9 => k_is)
    (case c9 => k_is)
    (case k9 => k_is)
    (case a10 => k_is)
    (case l10 => k_is)
    (case c10 => k_is)
    (case k10 => k_is)
    (case a11 => k_is)
    (case l11 => k_is)
    (case c11 => k_is)
    (case k11 => k_is)
    (case a12 => k_is)
    (case l12 => k_is)
    (case c12 => k_is)
    (case k12 => k_is)
    (case a13 => k_is)
    (case l13 => k_is)
    (case c13 => k_is)
    (case k13 => k_is)
    (case a14 => k_is)
    (case l14 => k_is)
    (case c14 => k_is)
    (case k14 => k_is)
    (case a15 => k_is)
    (case l15 => k_is)
    (case c15 => k_is)
    (case k15 => k_is)
    (case a16 => k_is)
    (case l16 => k_is)
    (case c16 => k_is)
    (case k16 => k_is)
    (case a17 => k_is)
    (case l17 => k_is)
    (case c17 => k_is)
    (case k17 => k_is)
    (case a18 => k_is)
    (case l18 => k_is)
    (case c18 => k_is)
    (case k18 => k_is)
    (case a19 => k_is)
    (case l19 => k_is)
    (case c19 => k_is)
    (case k19 => k_is)
    (case a20 => k_is)
    (case l20 => k_is)
    (case c20 => k_is)
    (case k20 => k_is)
    (case a21 => k_is)
    (case l21 => k_is)
    (case c21 => k_is)
    (case k21 => k_is)
    (case a22 => k_is)
    (case l22 => k_is)
    (case c22 => k_is)
    (case k22 => k_is)
    (case a23 => k_is)
    (case l23 => k_is)
    (case c23 => k_is)
    (case k23 => k_is)
    (case a24 => k_is)
    (case i24 => k_is)
    (case l24 => k_is)
    (case c24 => k_is)
    (case k24 => k_is)
    (case a25 => k_is)
    (case i25 => k_is)
    (case l25 => k_is)
    (case c25 => k_is)
    (case k25 => k_is)
    (case a26 => k_is)
    (case i26 => k_is)
    (case l26 => k_is)
    (case c26 => k_is)
    (case k26 => k_is)
    (case a27 => k_is)
    (case i27 => k_is)
    (case l27 => k_is)
    (case c27 => k_is)
    (case k27 => k_is)
    (case a28 => k_is)
    (case i28 => k_is)
    (case l28 => k_is)
    (case c28 => k_is)
    (case k28 => k_is)
    (case a29 => k_is)
    (case i29 => k_is)
    (case l29 => k_is)
    (case c29 => k_is)
    (case k29 => k_is)
    (case a30 => k_is)
    (case i30 => k_is)
    (case l30 => k_is)
    (case c30 => k_is)
    (case k30 => k_is)
    (case a31 => k_is)
    (case i31 => k_is)
    (case l31 => k_is)
    (case c31 => k_is)
    (case k31 => k_is)
    (case a32 => k_is)
    (case i32 => k_is)
    (case l32 => k_is)
    (case c32 => k_is)
    (case k32 => k_is)
    (case a33 => k_is)
    (case i33 => k_is)
    (case l33 => k_is)
    (case c33 => k_is)
    (case k33 => k_is)
    (case a34 => k_is)
    (case i34 => k_is)
    (case l34 => k_is)
    (case c34 => k_is)
    (case k34 => k_is)
    (case a35 => k_is)
    (case i35 => k_is)
    (case l35 => k_is)
    (case c35 => k_is)
    (case k35 => k_is)
    (case a36 => k_is)
    (case i36 => k_is)
    (case l36 => k_is)
    (case c36 => k_is)
    (case k36 => k_is)
    (case a37 => k_is)
    (case i37 => k_is)
    (case l37 => k_is)
    (case c37 => k_is)
    (case k37 => k_is)
    (case a38 => k_is)
    (case i38 => k_is)
    (case l38 => k_is)
    (case c38 => k_is)
    (case k38 => k_is)
    (case a39 => k_is)
    (case i39 => k_is)
    (case l39 => k_is)
    (case c39 => k_is)
    (case k39 => k_is)
    (case a40 => k_is)
    (case i40 => k_is)
    (case l40 => k_is)
    (case c40 => k_is)
    (case k40 => k_is)
    (case a41 => k_is)
    (case i41 => k_is)
    (case l41 => k_is)
    (case c41 => k_is)
    (case k41 => k_is)
    (case a42 => k_is)
    (case i42 => k_is)
    (case l42 => k_is)
    (case c42 => k_is)
    (case k42 => k_is)
    (case a43 => k_is)
    (case i43 => k_is)
    (case l43 => k_is)
    (case c43 => k_is)
    (case k43 => k_is)
    (case a44 => k_is)
    (case i44 => k_is)
    (case l44 => k_is)
    (case c44 => k_is)
    (case k44 => k_is)
    (case a45 => k_is)
    (case i45 => k_is)
    (case l45 => k_is)
    (case c45 => k_is)
    (case k45 => k_is)
    (case a46 => k_is)
    (case i46 => k_is)
    (case l46 => k_is)
    (case c46 => k_is)
    (case k46 => k_is)
    (case a47 => k_is)
    (case i47 => k_is)
    (case l47 => k_is)
    (case c47 => k_is)
    (case k47 => k_is)
    (case a48 => k_is)
    (case i48 => k_is)
    (case l48 => k_is)
    (case c48 => k_is)
    (case k48 => k_is)
    (case a49 => k_is)
    (case i49 => k_is)
    (case l49 => k_is)
    (case c49 => k_is)
    (case k49 => k_is)
    (case a50 => k_is)
    (case i50 => k_is)
    (case l50 => k_is)
    (case c50 => k_is)
    (case k50 => k_is)
    (case a51 => k_is)
    (case i51 => k_is)
    (case l51 => k_is)
    (case c51 => k_is)
    (case k51 => k_is)
    (case a52 => k_is)
    (case i52 => k_is)
    (case l52 => k_is)
    (case c52 => k_is)
    (case k52 => k_is)
    (case a53 => k_is)
    (case i53 => k_is)
    (case l53 => k_is)
    (case d53 => k_is)
    (case c53 => k_is)
    (case k53 => k_is)
    (case a54 => k_is)
    (case i54 => k_is)
    (case l54 => k_is)
    (case c54 => k_is)
    (case k54 => k_is)
    (case a55 => k_is)
    (case i55 => k_is)
    (case l55 => k_is)
    (case c55 => k_is)
    (case k55 => k_is)
    (case a56 => k_is)
    (case i56 => k_is)
    (case l56 => k_is)
    (case c56 => k_is)
    (case k56 => k_is)
    (case a57 => k_is)
    (case i57 => k_is)
    (case l57 => k_is)
    (case c57 => k_is)
    (case k57 => k_is)
    (case a58 => k_is)
    (case i58 => k_is)
    (case l58 => k_is)
    (case c58 => k_is)
    (case k58 => k_is)
    (case a59 => k_is)
    (case i59 => k_is)
    (case l59 => k_is)
    (case c59 => k_is)
    (case k59 => k_is)
    (case a60 => k_is)
    (case i60 => k_is)
    (case l60 => k_is)
    (case c60 => k_is)
    (case k60 => k_is)
    (case a61 => k_is)
    (case i61 => k_is)
    (case l61 => k_is)
    (case c61 => k_is)
    (case k61 => k_is)
    (case a62 => k_is)
    (case i62 => k_is)
    (case l62 => k_is)
    (case c62 => k_is)
    (case k62 => k_is)
    (case a63 => k_is)
    (case i63 => k_is)
    (case l63 => k_is)
    (case c63 => k_is)
    (case k63 => k_is)
    (case a64 => k_is)
    (case i64 => k_is)
    (case l64 => k_is)
    (case c64 => k_is)
    (case k64 => k_is)
    (case a65 => k_is)
    (case i65 => k_is)
    (case l65 => k_is)
    (case c65 => k_is)
    (case k65 => k_is)
    (case a66 => k_is)
    (case i66 => k_is)
    (case l66 => k_is)
    (case c66 => k_is)
    (case k66 => k_is)
    (case a67 => k_is)
    (case i67 => k_is)
    (case l67 => k_is)
    (case c67 => k_is)
    (case k67 => k_is)
    (case a68 => k_is)
    (case i68 => k_is)
    (case l68 => k_is)
    (case c68 => k_is)
    (case k68 => k_is)
    (case pgC => k_is)
    (case hdC => k_is)
    (case poC => k_is)
    (case saC => k_is)
    (case mkC => k_is)
    (case kcC => k_is)
    (case pgM => k_is)
    (case hdM => k_is)
    (case poM => k_is)
    (case saM => k_is)
    (case mkM => k_is)
    (case kcM => k_is)
    (case pgSK => k_is)
    (case hdSK => k_is)
    (case poSK => k_is)
    (case saSK => k_is)
    (case mkSK => k_is)
    (case kcSK => k_is)
    (case pgMA => k_is)
    (case hdMA => k_is)
    (case poMA => k_is)
    (case saMA => k_is)
    (case mkMA => k_is)
    (case kcMA => k_is)
    (case pgCD => k_is)
    (case hdCD => k_is)
    (case poCD => k_is)
    (case saCD => k_is)
    (case mkCD => k_is)
    (case kcCD => k_is)
    (case gEm => k_is)
    (case Cthreads => k_is)
    (case Cwords => k_is)
    (case Crecords => k_is)
    (case Mlayout => k_is)
    (case Mcount => k_is)
    (case M_passing => k_is)
    (case M_trails => k_is)
    (case M_lost => k_is)
    (case M_notes => k_is)
    (case M_log => k_is)
    (case SK_machines => k_is)
    (case SK_value => k_is)
    (case CD_wanted => k_is)
    (case CD_left => k_is)
    (case CD_then => k_is)
    (case CD_address => k_is)
    (case CD_without => k_is)
    (case CD_status_cell => k_is)
    (case CD_entries => k_is)
    (case CD_passed => k_is)
    (case CD_status => k_is)
    (case hn => k_is)
    (case ht => k_is)
    (case xN => k_exc)
    (case kN => k_is)
    (case sN => k_is)
    (case tN => k_is)
    (case sL => k_is)
    (case dL => k_is)
    (case tL => k_is)
    (case sNL => k_is)
    (case Ng => k_is)
    (case Nk => k_is)
    (case Nd => k_is)
    (case Na => k_is)
    (case Nm => k_is)
    (case bgD => k_is)
    (case btD => k_is)
    (case bfD => k_is)
    (case bgT => k_is)
    (case btT => k_is)
    (case bfT => k_is)
    (case bgW => k_is)
    (case btW => k_is)
    (case bfW => k_is)
    (case bgS => k_is)
    (case btS => k_is)
    (case bfS => k_is)
    (case bgC => k_is)
    (case btC => k_is)
    (case bfC => k_is)
    (case mr => k_is)
    (case mc => k_is)
    (case mg0 => k_is)
    (case z_isinstance => k_is)
    (case z_int => k_is)
    (case z_bool => k_is)
    (case z_str => k_is)
    (case z_tuple => k_is)
    (case z_list => k_is)
    (case z_range => k_is)
    (case z_len => k_is)
    (case z_abs => k_is)
    (case z_max => k_is)
    (case z_min => k_is)
    (case z_zip => k_is)
    (case z_sorted => k_is)
    (case z_all => k_is)

