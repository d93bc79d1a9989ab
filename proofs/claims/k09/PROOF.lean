import PyProof.Rows.All
import Wide.All
import OpenK.AllK
import Wide.FinOn
import HandS.ForMost
import HandS.ForExc
import HandS.IsInst
import HandS.ExcIs
import HandS.DictComp
import HandS.Style
import HandS.Walk
import HandS.SortInts
import HandS.Star
import HandS.More
import HandS.ClsMeth
import HandS.Codes
import HandS.Zip
import PySem.Challenge.RW_driftkept_k09_whole_epochs
import PyProof.Rows.MatchSeqLen
import HandS.OwnIter
import HandS.Flow
import HandS.Deep
import HandS.Small
set_option Elab.async false
set_option linter.all false
set_option maxRecDepth 100000
set_option maxHeartbeats 4000000
/-! general rules -/
namespace Dk
open PySem PySem.Spec PyProof.Rows L2
/-- a def of the top keeps a promise -/
def GO (P : Program) (w : World) (K : PySem.W.Frag) (mg : Str → Option Value) (base : Heap) (CX : CXT) (k : Nat) (x : Str) (ps : List Str) (sp : Sp) : Prop :=
  ∃ f fd, FnOk P w K mg base CX k f fd ps sp ∧ mg x = some (.ref f) ∧ PySem.W.keepIn K (.ref f) = true ∧ Binds K fd ps []
def MO (P : Program) (w : World) (K : PySem.W.Frag) (mg : Str → Option Value) (base : Heap) (CX : CXT) (C : Addr) (k : Nat) (m : Str) (ps : List Str) (sp : Sp) : Prop :=
  ∃ f fd, FnOk P w K mg base CX k f fd ps sp ∧ Meth K C m f ∧ Binds K fd ps []
/-- where a def of the top, a method stands -/
def GT (K : PySem.W.Frag) (mg : Str → Option Value) (x : Str) (st : Stmt) (ps : List Str) : Prop := ∃ f fd, Fun K x x st f fd ∧ mg x = some (.ref f) ∧ Binds K fd ps []
def MT (K : PySem.W.Frag) (C : Addr) (m qual : Str) (st : Stmt) (ps : List Str) : Prop := ∃ f fd, Fun K m qual st f fd ∧ Meth K C m f ∧ Binds K fd ps []
section
variable {X : Cx} {CX : CXT} {k : Nat} {f C : Addr} {fd : FuncData} {ps : List Str} {sp : Sp} {x m : Str} {p pos apos : Pos} {e o : Expr} {es : List Expr} {ta : TE} {t : TA}
theorem pc_ (G : GO X.prog X.w X.K X.mg X.base CX0 k x ps sp) (hr : Room k X.A) (ha : PA X (e :: es) t) (hg : Gl X x := by rfl) (hdb : (x == ("__debug__" : Str)) = false := by decide)
    (he : starEach (e :: es) X.env = (false, eval e X.env) :: starEach es X.env := by rfl) (hpl : (backTo pos (starEach es X.env)).any (·.1) = false := by rfl) : PE X (.Call (.Name x p) (e :: es) [] pos) (tCall sp [] E0 t) := by
  obtain ⟨f, fd, F, hm, hk, hb⟩ := G
  exact pe_call F hr hg hm hk hb .nil pass0 ha hdb he hpl
theorem pm_ {pl : Sem Bool} (G : MO X.prog X.w X.K X.mg X.base CX0 C k m ps sp) (c : Cls X.K C) (hr : Room k X.A) (he : PE X o ta) (ha : PA X (e :: es) t)
    (hst : starEach (e :: es) X.env = (false, eval e X.env) :: starEach es X.env := by rfl) (hpl : (backTo pos (starEach es X.env)).any (·.1) = false := by rfl)
    (ht : eval (.Call (.Attribute o m apos) (e :: es) [] pos) X.env = (do
      let ov ← eval o X.env
      standAt apos.atName
      let (f, first) ← holding [ov] (getMethod ov m pl)
      callWith pos f first (backTo pos (starEach (e :: es) X.env)) (backToKw pos (keywordEach [] X.env))) := by rfl) : PE X (.Call (.Attribute o m apos) (e :: es) [] pos) (tMeth C m sp [] E0 ta t) := by
  obtain ⟨f, fd, F, hm, hb⟩ := G
  exact pe_meth he c hm F hr hb .nil pass0 ha hst hpl ht
theorem pm0_ {pl : Sem Bool} (G : MO X.prog X.w X.K X.mg X.base CX0 C k m ps sp) (c : Cls X.K C) (hr : Room k X.A) (he : PE X o ta)
    (ht : eval (.Call (.Attribute o m apos) [] [] pos) X.env = (do
      let ov ← eval o X.env
      standAt apos.atName
      let (f, first) ← holding [ov] (getMethod ov m pl)
      callWith pos f first (backTo pos (starEach [] X.env)) (backToKw pos (keywordEach [] X.env))) := by rfl) : PE X (.Call (.Attribute o m apos) [] [] pos) (tMeth C m sp [] E0 ta tNil) := by
  obtain ⟨f, fd, F, hm, hb⟩ := G
  exact pe_meth0 he c hm F hr hb .nil pass0 ht
/-- a method that may raise, called at the slots -/
def tMethE (C : Addr) (m : Str) (sp : Sp) (E : L2.St → XK) (ta : TE) (t : TA) : TE := fun σ H Q => ta σ H fun x H1 => ∃ a dx fs, x = .ref a ∧ H1 a = some (.ins C dx fs) ∧ fs.lookup m = none ∧
  t σ H1 fun vs H2 => sp (x :: vs) H2 Q (E σ)
theorem pmE_ {pl : Sem Bool} {E : L2.St → XK} (G : MO X.prog X.w X.K X.mg X.base CX C k m ps sp) (c : Cls X.K C) (hr : Room k X.A) (hx : ∀ σ, PassesAt CX X σ (E σ)) (he : PE X o ta) (ha : PA X (e :: es) t)
    (hst : starEach (e :: es) X.env = (false, eval e X.env) :: starEach es X.env := by rfl) (hpl : (backTo pos (starEach es X.env)).any (·.1) = false := by rfl)
    (ht : eval (.Call (.Attribute o m apos) (e :: es) [] pos) X.env = (do
      let ov ← eval o X.env
      standAt apos.atName
      let (f, first) ← holding [ov] (getMethod ov m pl)
      callWith pos f first (backTo pos (starEach (e :: es) X.env)) (backToKw pos (keywordEach [] X.env))) := by rfl) : PE X (.Call (.Attribute o m apos) (e :: es) [] pos) (tMethE C m sp E ta t) := by
  obtain ⟨f, fd, F, hm, hb⟩ := G
  refine ⟨fun pins s σ H Q I h => ?_⟩
  refine PySem.W.methodCall_KW (pl := pl) (thn (he.run pins s σ H _ I h) fun u s1 ⟨x, H1, I1, rx, a, dx, fs, ex, ea, l, q⟩ => ?_) ht
  subst ex
  obtain rfl : u = Value.ref a := rx
  refine getmeth_ok I1 ea c hm l ?_
  refine PySem.W.callWith_K (first := [.ref a]) (h₀ := X.base) I.ok.mod.kin hm.kp (thn (ha.run pos pins s1 σ H1 _ I1 q) fun us s2 ⟨vs, H2, I2, r, q2⟩ => ⟨I2.kIn, ?_⟩) hst hpl
  exact run_fnS (us := .ref a :: us) (vs := .ref a :: vs) F hr hb (hx σ) I2 (.cons rfl r) q2
/-- C(e, ..) where __init__ may raise, at the slots -/
def tMakeE (C : Addr) (sp : Sp) (E : L2.St → XK) (t : TA) : TE := fun σ H Q => t σ H fun vs H1 => ∀ x dx, H1 x = none → H1 dx = none → dx ≠ x →
  sp (.ref x :: vs) (upd (upd H1 dx (.own x)) x (.ins C dx [])) (fun v H2 => v = .non ∧ Q (.ref x) H2) (fun cls d H2 => E σ cls d H2)
theorem run_makeE {pins : List (Addr × Obj)} {σ : L2.St} {H : Hp} {s : Shared} {Q : VK} {E : XK} {us : List Value} {vs : List V} (M : Mk X.K C f) (F : FnOk X.prog X.w X.K X.mg X.base CX k f fd ps sp) (hr : Room (k + 1) X.A) (hb : Binds X.K fd ps [])
    (hx : PassesAt CX X σ E) (I : Inv X pins σ H s) (r : Vals vs us)
    (h : ∀ x dx, H x = none → H dx = none → dx ≠ x → sp (.ref x :: vs) (upd (upd H dx (.own x)) x (.ins C dx [])) (fun v H2 => v = .non ∧ Q (.ref x) H2) E) :
    wpAny (model X.prog X.w) X.A (call (.ref C) us) (EP X pins σ Q) X.xe s := by
  have hq := h (s.heap.objs.size + 1) s.heap.objs.size (I.hok.fresh (Nat.le_succ _)) (I.hok.fresh (Nat.le_refl _)) (Nat.ne_of_lt (Nat.lt_succ_self _))
  have I2 := Inv.made (C := C) I
  have r2 : Vals (V.ref (s.heap.objs.size + 1) :: vs) (Value.ref (s.heap.objs.size + 1) :: us) := .cons rfl r
  have hl : (Value.ref (s.heap.objs.size + 1) :: us ++ []).length = ps.length := by
    have e := r2.length
    rw [F.len _ _ _ _ hq] at e
    rw [List.append_nil]
    exact e.symm
  have b := hb _ (Value.ref (s.heap.objs.size + 1) :: us) I2.kIn hl
  rw [List.append_nil] at b
  refine wpAny_call (make_map (f := f) I.kIn M.makes M.init (beq_iff_eq.mp M.fn) (codeAny_mono (F.run _ X.stack _ _ ⟨Value.ref (s.heap.objs.size + 1) :: us, []⟩ (Value.ref (s.heap.objs.size + 1) :: us) _ _ E (hr.make C us [])
    (I2.env0.make C us []) b r2 hq) fun r s' hq' => ?_))
  cases r with
  | error e => exact hx pins _ _ e s' I2 hq'
  | ok fl =>
    cases fl with
    | ret u =>
      obtain ⟨v, H', I3, rv, ev, q3⟩ := I2.after hq'
      subst ev
      exact ⟨rv, ⟨V.ref (s.heap.objs.size + 1), H', I3, rfl, q3⟩⟩
    | next => exact False.elim hq'
    | brk => exact False.elim hq'
    | cont => exact False.elim hq'
theorem pe_makeE {E : L2.St → XK} (M : Mk X.K C f) (F : FnOk X.prog X.w X.K X.mg X.base CX k f fd ps sp) (hr : Room (k + 1) X.A) (hg : Gl X x) (hm : X.mg x = some (.ref C)) (hb : Binds X.K fd ps []) (hx : ∀ σ, PassesAt CX X σ (E σ))
    (ha : PA X (e :: es) t) (hdb : (x == ("__debug__" : Str)) = false := by decide) (he : starEach (e :: es) X.env = (false, eval e X.env) :: starEach es X.env := by rfl) (hpl : (backTo pos (starEach es X.env)).any (·.1) = false := by rfl) :
    PE X (.Call (.Name x p) (e :: es) [] pos) (tMakeE C sp E t) := by
  refine ⟨fun pins s σ H Q I h => ?_⟩
  refine wpAny_Call_Name_kw (ld_glob I hg hm ?_ hdb)
  refine PySem.W.callWith_K (h₀ := X.base) I.ok.mod.kin M.kp (thn (ha.run pos pins s σ H _ I h) fun us s1 ⟨vs, H1, I1, r, q⟩ => ⟨I1.kIn, ?_⟩) he hpl
  exact run_makeE M F hr hb (hx σ) I1 r q
end
section
variable {X : Cx} {C : Addr} {bmB : List Value} {B newId initId : String}
/-- X() -/
theorem pmk_own0 {x : Str} {p pos : Pos} (F : ExcBaseFacts B newId initId bmB) (q : PySem.W.excIn X.K C bmB newId = true) (gC : X.mg x = some (.ref C)) (kC : PySem.W.keepIn X.K (.ref C) = true) (r : Raises X (.ref C)) (hg : Gl X x)
    (hdb : (x == ("__debug__" : Str)) = false := by decide) : PMk X (.Call (.Name x p) [] [] pos) (fun _ H Q => Q (.ref C) none H) := by
  intro pins s σ H Q I h
  refine wpAny_Call_Name_kw (ld_glob I hg gC ?_ hdb)
  refine PySem.W.callWith_K0 I.kIn kC ?_
  show wpAny _ _ (call (.ref C) []) _ _ _
  obtain ⟨bm, N, nm, qn, bs, hdct, sn, sub, ab, col, dd, k0, k1, k2, k3, k5, mN, hC, hN, hni, T⟩ := exc_obj I.kIn q
  refine wpAny_call_exc_subT F T hC hN hni (fun h' e hm => ?_) (by show 0 ≤ sizeLine; exact Nat.zero_le _)
  exact mk_of I hm r h (I.hok.gone hm.new)
end
/-- a dict comprehension over a walk -/
theorem dc_it {J : It} {n : Nat} {G : Hp → Prop} {Y : Nat → Hp → V → Hp → Prop} (w : Walk J n G Y) {g : TG} {tt : TT} {tk tv : TE} {vs : List Nat} {σ : L2.St} {H1 : Hp} {D : Addr} {Qd : Hp → Prop} (Pv : Nat → Hp → Prop) (h0 : Pv 0 (upd H1 D (.dK []))) (hG : ∀ i H, i ≤ n → Pv i H → G H)
    (hs : ∀ i x H H', i < n → Pv i H → Y i H x H' → g x (wipe σ vs) H' fun σ2 H2 => wipe σ2 vs = wipe σ vs ∧ tt σ2 H2 fun b H3 =>
      if b = true then tk σ2 H3 fun y H4 => tv σ2 H4 fun z H5 => ∃ kvs k, y = kV k ∧ H5 D = some (.dK kvs) ∧ kvs.length < sizeLine ∧ Pv (i + 1) (upd H5 D (.dK (putK kvs k z))) else Pv (i + 1) H3) (hd : ∀ H, Pv n H → Qd H) :
    ∃ W : Nat → Nat → Hp → Prop, (∃ m, W 0 m (upd H1 D (.dK []))) ∧ ∀ i m H, W i m H →
      (J.stop i H ∧ Qd H) ∨ (J.go i H ∧ ∃ Nx : Hp → Prop, (∀ H', Nx H' → ∃ m', m' < m ∧ W (i + 1) m' H') ∧ ∀ x H', J.yld i H x H' → g x (wipe σ vs) H' fun σ2 H2 => wipe σ2 vs = wipe σ vs ∧ tt σ2 H2 fun b H3 =>
        if b = true then tk σ2 H3 fun y H4 => tv σ2 H4 fun z H5 => ∃ kvs k, y = kV k ∧ H5 D = some (.dK kvs) ∧ kvs.length < sizeLine ∧ Nx (upd H5 D (.dK (putK kvs k z))) else Nx H3) := by
  refine ⟨fun i m H => m = n - i ∧ i ≤ n ∧ Pv i H, ⟨n, by simp, Nat.zero_le _, h0⟩, ?_⟩
  rintro i m H ⟨rfl, hi, p⟩
  have q := hG i H hi p
  by_cases hlt : i < n
  · refine .inr ⟨w.goes i H hlt q, Pv (i + 1), fun H' p' => ⟨n - (i + 1), by omega, rfl, hlt, p'⟩, fun x H' y => hs i x H H' hlt p (w.yields i H x H' hlt q y)⟩
  · have e : i = n := by omega
    subst e
    exact .inl ⟨w.stops H q, hd H p⟩
end Dk

set_option maxHeartbeats 4000000
/-! values and layouts -/
namespace Dk
open PySem PySem.Spec PyProof.Rows L2
def top (i : Nat) : Stmt := PySem.Challenge.pw_driftkept_k09_whole_epochs.main.body.getD i (.Pass ⟨0, 0, 0, 0⟩)
abbrev sWhole : Stmt := top 8
abbrev sWithin : Stmt := top 9
abbrev sLInit : Stmt := inClass (top 20) 0
abbrev sEpoch : Stmt := inClass (top 20) 1
abbrev sESlot : Stmt := inClass (top 20) 2
abbrev sCSlot : Stmt := inClass (top 20) 3
abbrev sWord : Stmt := inClass (top 20) 4
abbrev sRecord : Stmt := inClass (top 20) 5
abbrev sCells : Stmt := inClass (top 20) 6
abbrev sIsCell : Stmt := inClass (top 20) 7
abbrev sIsLast : Stmt := inClass (top 20) 8
abbrev sHasT : Stmt := inClass (top 20) 10
/-- the type of a value that is no object -/
def vty : V → Option String
  | .non => some "NoneType"
  | .bl _ => some "bool"
  | .int _ => some "int"
  | .str _ => some "str"
  | _ => none
theorem ty_of {K : PySem.W.Frag} {H : Hp} : ∀ {v : V} {t : String}, vty v = some t → TyX K H v (.type t)
  | .non, _, h => by cases h; exact .base .non
  | .bl b, _, h => by cases h; exact .base (.bl b)
  | .int i, _, h => by cases h; exact .base (.int i)
  | .str x, _, h => by cases h; exact .base (.str x)
def isI : V → Bool
  | .int _ => true
  | _ => false
/-- an integer within lo .. hi -/
def inW (lo hi : Int) : V → Bool
  | .int i => decide (lo ≤ i) && decide (i ≤ hi)
  | _ => false
theorem inW_int {lo hi i : Int} : inW lo hi (.int i) = true ↔ lo ≤ i ∧ i ≤ hi := by
  show (decide (lo ≤ i) && decide (i ≤ hi)) = true ↔ _
  simp
/-- the built-in names as they are -/
structure Bn (mg : Str → Option Value) : Prop where
  isi : mg "isinstance" = none
  int : mg "int" = none
  bool : mg "bool" = none
  str : mg "str" = none
  tuple : mg "tuple" = none
  list : mg "list" = none
  range : mg "range" = none
  len : mg "len" = none
  abs : mg "abs" = none
def lf (t w r : Int) : List (Str × V) := [("threads", .int t), ("words", .int w), ("records", .int r)]
/-- a layout stands at a -/
def LayAt (C : Addr) (H : Hp) (a : Addr) (t w r : Int) : Prop := ∃ dx, H a = some (.ins C dx (lf t w r))
structure LTxt (K : PySem.W.Frag) (mg : Str → Option Value) (C : Addr) : Prop where
  bn : Bn mg
  cl : Cls K C
  nT : NoAttr K C "threads"
  nW : NoAttr K C "words"
  nR : NoAttr K C "records"
def spWhole : Sp := fun vs H Q _ => ∃ v t, vs = [v] ∧ vty v = some t ∧ Q (.bl (isI v)) H
def spWithin : Sp := fun vs H Q _ => ∃ v t lo hi, vs = [v, .int lo, .int hi] ∧ vty v = some t ∧ Q (.bl (inW lo hi v)) H
def spL0 (C : Addr) (g : Int → Int → Int → V) : Sp := fun vs H Q _ => ∃ a t w r, vs = [.ref a] ∧ LayAt C H a t w r ∧ Q (g t w r) H
def spL1 (C : Addr) (g : Int → Int → Int → Int → V) : Sp := fun vs H Q _ => ∃ a t w r i, vs = [.ref a, .int i] ∧ LayAt C H a t w r ∧ Q (g t w r i) H
def spLV (C : Addr) (g : Int → Int → Int → V → V) : Sp := fun vs H Q _ => ∃ a t w r v ty, vs = [.ref a, v] ∧ vty v = some ty ∧ LayAt C H a t w r ∧ Q (g t w r v) H
/-- the cells -/
def cells (t w r : Int) : Int := 1 + t + t + w + r
def first (t : Int) : Int := 1 + t
def rec0 (t w : Int) : Int := 1 + t + t + w
def geB (x : Int) : V → Bool
  | .int i => decide (x ≤ i)
  | _ => false
def lastB (t w r : Int) (v : V) : Bool := inW 0 (cells t w r - 1) v && geB (first t + 0) v
def recB (t w r : Int) (v : V) : Bool := inW 0 (cells t w r - 1) v && geB (rec0 t w + 0) v
section
variable {P : Program} {w : World} {K : PySem.W.Frag} {mg : Str → Option Value} {base : Heap} {C : Addr}
theorem scWhole : FnScope ["value"] ["value"] (defScope sWhole) := ⟨rfl, rfl, rfl, by decide +kernel, rfl, by decide +kernel, by decide +kernel⟩
theorem go_whole (F : GT K mg "is_whole" sWhole ["value"]) (T : Bn mg) : GO P w K mg base CX0 1 "is_whole" ["value"] spWhole := by
  obtain ⟨f, fd, F, hm, hb⟩ := F
  refine ⟨f, fd, ?_, hm, F.kp, hb⟩
  refine F.ok scWhole (fun vs H Q E h => ?_) (fun cdv A outer s H vs Q E hr h => ?_)
  · obtain ⟨v, t, rfl, _⟩ := h
    rfl
  · obtain ⟨v, t, rfl, ht, k⟩ := h
    refine ⟨_, pss_one (ps_ret (pe_and (pe_callB call_isi (by rfl) T.isi (by decide +kernel) (pa_cons (pv 0) (pa_cons (pe_bltn (v := .ty "int") (by rfl) T.int (by decide +kernel) rfl) pa_nil)))
      (pe_one (pe_not (pe_callB call_isi (by rfl) T.isi (by decide +kernel) (pa_cons (pv 0) (pa_cons (pe_bltn (v := .ty "bool") (by rfl) T.bool (by decide +kernel) rfl) pa_nil))))))), ?_⟩
    have ty := ty_of (K := K) (H := H) ht
    cases v <;> cases ht
    · exact ⟨_, rfl, _, _, _, _, false, rfl, .ty "int", ty, kit_ty (by decide +kernel), false, rfl, k⟩
    · refine ⟨_, rfl, _, _, _, _, true, rfl, .ty "int", ty, kit_ty (by decide +kernel), true, rfl, ?_⟩
      exact iteT ⟨_, rfl, _, _, _, _, true, rfl, .ty "bool", ty, kit_ty (by decide +kernel), true, rfl, k⟩
    · refine ⟨_, rfl, _, _, _, _, true, rfl, .ty "int", ty, kit_ty (by decide +kernel), true, rfl, ?_⟩
      exact iteT ⟨_, rfl, _, _, _, _, false, rfl, .ty "bool", ty, kit_ty (by decide +kernel), false, rfl, k⟩
    · exact ⟨_, rfl, _, _, _, _, false, rfl, .ty "int", ty, kit_ty (by decide +kernel), false, rfl, k⟩
theorem scWithin : FnScope ["value", "low", "high"] ["value", "low", "high"] (defScope sWithin) := ⟨rfl, rfl, rfl, by decide +kernel, rfl, by decide +kernel, by decide +kernel⟩
theorem go_within (F : GT K mg "is_within" sWithin ["value", "low", "high"]) (G : GO P w K mg base CX0 1 "is_whole" ["value"] spWhole) : GO P w K mg base CX0 2 "is_within" ["value", "low", "high"] spWithin := by
  obtain ⟨f, fd, F, hm, hb⟩ := F
  refine ⟨f, fd, ?_, hm, F.kp, hb⟩
  refine F.ok scWithin (fun vs H Q E h => ?_) (fun cdv A outer s H vs Q E hr h => ?_)
  · obtain ⟨v, t, lo, hi, rfl, _⟩ := h
    rfl
  · obtain ⟨v, t, lo, hi, rfl, ht, k⟩ := h
    refine ⟨_, pss_one (ps_ret (pe_and (pc_ G hr (pa_cons (pv 0) pa_nil)) (pe_one (pe_chain op_le op_le (pv 1) (pv 0) (pv 2))))), ?_⟩
    refine ⟨_, rfl, v, t, rfl, ht, _, rfl, ?_⟩
    cases v <;> cases ht
    · exact iteF k
    · exact iteF k
    · rename_i i
      refine iteT ⟨_, rfl, _, rfl, _, _, rfl, rfl, _, rfl, ?_⟩
      have e : inW lo hi (.int i) = (decide (lo ≤ i) && decide (i ≤ hi)) := rfl
      rw [e] at k
      cases h1 : decide (lo ≤ i) with
      | true =>
        rw [h1] at k
        exact iteT ⟨_, rfl, _, _, rfl, rfl, by simpa using k⟩
      | false =>
        rw [h1] at k
        exact iteF (by simpa using k)
    · exact iteF k
theorem scEpoch : FnScope ["self"] ["self"] (defScope sEpoch) := ⟨rfl, rfl, rfl, by decide +kernel, rfl, by decide +kernel, by decide +kernel⟩
theorem mo_epoch (F : MT K C "epoch" "Layout.epoch" sEpoch ["self"]) : MO P w K mg base CX0 C 1 "epoch" ["self"] (spL0 C fun _ _ _ => .int 0) := by
  obtain ⟨f, fd, F, hm, hb⟩ := F
  refine ⟨f, fd, ?_, hm, hb⟩
  refine F.ok scEpoch (fun vs H Q E h => ?_) (fun cdv A outer s H vs Q E hr h => ?_)
  · obtain ⟨a, t, w, r, rfl, _⟩ := h
    rfl
  · obtain ⟨a, t, w, r, rfl, _, k⟩ := h
    exact ⟨_, pss_one (ps_ret pe_int), k⟩
theorem scESlot : FnScope ["self", "thread"] ["self", "thread"] (defScope sESlot) := ⟨rfl, rfl, rfl, by decide +kernel, rfl, by decide +kernel, by decide +kernel⟩
theorem mo_eslot (F : MT K C "epoch_slot" "Layout.epoch_slot" sESlot ["self", "thread"]) : MO P w K mg base CX0 C 1 "epoch_slot" ["self", "thread"] (spL1 C fun _ _ _ i => .int (1 + i)) := by
  obtain ⟨f, fd, F, hm, hb⟩ := F
  refine ⟨f, fd, ?_, hm, hb⟩
  refine F.ok scESlot (fun vs H Q E h => ?_) (fun cdv A outer s H vs Q E hr h => ?_)
  · obtain ⟨a, t, w, r, i, rfl, _⟩ := h
    rfl
  · obtain ⟨a, t, w, r, i, rfl, _, k⟩ := h
    exact ⟨_, pss_one (ps_ret (pe_op op_add pe_int (pv 1))), _, rfl, _, _, rfl, rfl, k⟩
theorem scCSlot : FnScope ["self", "thread"] ["self", "thread"] (defScope sCSlot) := ⟨rfl, rfl, rfl, by decide +kernel, rfl, by decide +kernel, by decide +kernel⟩
theorem mo_cslot (F : MT K C "call_slot" "Layout.call_slot" sCSlot ["self", "thread"]) (T : LTxt K mg C) (G : MO P w K mg base CX0 C 1 "epoch_slot" ["self", "thread"] (spL1 C fun _ _ _ i => .int (1 + i))) :
    MO P w K mg base CX0 C 2 "call_slot" ["self", "thread"] (spL1 C fun t _ _ i => .int (first t + i)) := by
  obtain ⟨f, fd, F, hm, hb⟩ := F
  refine ⟨f, fd, ?_, hm, hb⟩
  refine F.ok scCSlot (fun vs H Q E h => ?_) (fun cdv A outer s H vs Q E hr h => ?_)
  · obtain ⟨a, t, w, r, i, rfl, _⟩ := h
    rfl
  · obtain ⟨a, t, w, r, i, rfl, L, k⟩ := h
    obtain ⟨dx, h1⟩ := id L
    refine ⟨_, pss_one (ps_ret (pe_op op_add (pm_ G T.cl hr (pv 0) (pa_cons (pe_fld (pv 0) rfl) pa_nil)) (pv 1))), ?_⟩
    exact ⟨_, rfl, a, dx, _, rfl, h1, rfl, _, rfl, a, C, dx, _, _, rfl, h1, T.cl, T.nT, rfl, a, t, w, r, t, rfl, L, _, rfl, _, _, rfl, rfl, k⟩
theorem scWord : FnScope ["self", "index"] ["self", "index"] (defScope sWord) := ⟨rfl, rfl, rfl, by decide +kernel, rfl, by decide +kernel, by decide +kernel⟩
theorem mo_word (F : MT K C "word" "Layout.word" sWord ["self", "index"]) (T : LTxt K mg C) (G : MO P w K mg base CX0 C 2 "call_slot" ["self", "thread"] (spL1 C fun t _ _ i => .int (first t + i))) :
    MO P w K mg base CX0 C 3 "word" ["self", "index"] (spL1 C fun t _ _ i => .int (first t + t + i)) := by
  obtain ⟨f, fd, F, hm, hb⟩ := F
  refine ⟨f, fd, ?_, hm, hb⟩
  refine F.ok scWord (fun vs H Q E h => ?_) (fun cdv A outer s H vs Q E hr h => ?_)
  · obtain ⟨a, t, w, r, i, rfl, _⟩ := h
    rfl
  · obtain ⟨a, t, w, r, i, rfl, L, k⟩ := h
    obtain ⟨dx, h1⟩ := id L
    refine ⟨_, pss_one (ps_ret (pe_op op_add (pm_ G T.cl hr (pv 0) (pa_cons (pe_fld (pv 0) rfl) pa_nil)) (pv 1))), ?_⟩
    exact ⟨_, rfl, a, dx, _, rfl, h1, rfl, _, rfl, a, C, dx, _, _, rfl, h1, T.cl, T.nT, rfl, a, t, w, r, t, rfl, L, _, rfl, _, _, rfl, rfl, k⟩
theorem scRecord : FnScope ["self", "index"] ["self", "index"] (defScope sRecord) := ⟨rfl, rfl, rfl, by decide +kernel, rfl, by decide +kernel, by decide +kernel⟩
theorem mo_record (F : MT K C "record" "Layout.record" sRecord ["self", "index"]) (T : LTxt K mg C) (G : MO P w K mg base CX0 C 3 "word" ["self", "index"] (spL1 C fun t _ _ i => .int (first t + t + i))) :
    MO P w K mg base CX0 C 4 "record" ["self", "index"] (spL1 C fun t w _ i => .int (rec0 t w + i)) := by
  obtain ⟨f, fd, F, hm, hb⟩ := F
  refine ⟨f, fd, ?_, hm, hb⟩
  refine F.ok scRecord (fun vs H Q E h => ?_) (fun cdv A outer s H vs Q E hr h => ?_)
  · obtain ⟨a, t, w, r, i, rfl, _⟩ := h
    rfl
  · obtain ⟨a, t, w, r, i, rfl, L, k⟩ := h
    obtain ⟨dx, h1⟩ := id L
    refine ⟨_, pss_one (ps_ret (pe_op op_add (pm_ G T.cl hr (pv 0) (pa_cons (pe_fld (pv 0) rfl) pa_nil)) (pv 1))), ?_⟩
    exact ⟨_, rfl, a, dx, _, rfl, h1, rfl, _, rfl, a, C, dx, _, _, rfl, h1, T.cl, T.nW, rfl, a, t, w, r, w, rfl, L, _, rfl, _, _, rfl, rfl, k⟩
theorem scCells : FnScope ["self"] ["self"] (defScope sCells) := ⟨rfl, rfl, rfl, by decide +kernel, rfl, by decide +kernel, by decide +kernel⟩
theorem mo_cells (F : MT K C "cells" "Layout.cells" sCells ["self"]) (T : LTxt K mg C) (G : MO P w K mg base CX0 C 4 "record" ["self", "index"] (spL1 C fun t w _ i => .int (rec0 t w + i))) :
    MO P w K mg base CX0 C 5 "cells" ["self"] (spL0 C fun t w r => .int (cells t w r)) := by
  obtain ⟨f, fd, F, hm, hb⟩ := F
  refine ⟨f, fd, ?_, hm, hb⟩
  refine F.ok scCells (fun vs H Q E h => ?_) (fun cdv A outer s H vs Q E hr h => ?_)
  · obtain ⟨a, t, w, r, rfl, _⟩ := h
    rfl
  · obtain ⟨a, t, w, r, rfl, L, k⟩ := h
    obtain ⟨dx, h1⟩ := id L
    refine ⟨_, pss_one (ps_ret (pm_ G T.cl hr (pv 0) (pa_cons (pe_fld (pv 0) rfl) pa_nil))), ?_⟩
    exact ⟨_, rfl, a, dx, _, rfl, h1, rfl, _, rfl, a, C, dx, _, _, rfl, h1, T.cl, T.nR, rfl, a, t, w, r, r, rfl, L, k⟩
theorem scIsCell : FnScope ["self", "cell"] ["self", "cell"] (defScope sIsCell) := ⟨rfl, rfl, rfl, by decide +kernel, rfl, by decide +kernel, by decide +kernel⟩
theorem mo_iscell (F : MT K C "is_cell" "Layout.is_cell" sIsCell ["self", "cell"]) (T : LTxt K mg C) (G : MO P w K mg base CX0 C 5 "cells" ["self"] (spL0 C fun t w r => .int (cells t w r)))
    (GW : GO P w K mg base CX0 2 "is_within" ["value", "low", "high"] spWithin) : MO P w K mg base CX0 C 6 "is_cell" ["self", "cell"] (spLV C fun t w r v => .bl (inW 0 (cells t w r - 1) v)) := by
  obtain ⟨f, fd, F, hm, hb⟩ := F
  refine ⟨f, fd, ?_, hm, hb⟩
  refine F.ok scIsCell (fun vs H Q E h => ?_) (fun cdv A outer s H vs Q E hr h => ?_)
  · obtain ⟨a, t, w, r, v, ty, rfl, _⟩ := h
    rfl
  · obtain ⟨a, t, w, r, v, ty, rfl, hv, L, k⟩ := h
    obtain ⟨dx, h1⟩ := id L
    refine ⟨_, pss_one (ps_ret (pc_ GW (hr.mono (by decide)) (pa_cons (pv 1) (pa_cons pe_int (pa_cons (pe_op op_sub (pm0_ G T.cl hr (pv 0)) pe_int) pa_nil))))), ?_⟩
    exact ⟨_, rfl, _, rfl, a, dx, _, rfl, h1, rfl, a, t, w, r, rfl, L, _, _, rfl, rfl, v, ty, _, _, rfl, hv, k⟩
theorem scIsLast : FnScope ["self", "cell"] ["self", "cell"] (defScope sIsLast) := ⟨rfl, rfl, rfl, by decide +kernel, rfl, by decide +kernel, by decide +kernel⟩
theorem mo_islast (F : MT K C "is_lasting" "Layout.is_lasting" sIsLast ["self", "cell"]) (T : LTxt K mg C) (G : MO P w K mg base CX0 C 6 "is_cell" ["self", "cell"] (spLV C fun t w r v => .bl (inW 0 (cells t w r - 1) v)))
    (GC : MO P w K mg base CX0 C 2 "call_slot" ["self", "thread"] (spL1 C fun t _ _ i => .int (first t + i))) : MO P w K mg base CX0 C 7 "is_lasting" ["self", "cell"] (spLV C fun t w r v => .bl (lastB t w r v)) := by
  obtain ⟨f, fd, F, hm, hb⟩ := F
  refine ⟨f, fd, ?_, hm, hb⟩
  refine F.ok scIsLast (fun vs H Q E h => ?_) (fun cdv A outer s H vs Q E hr h => ?_)
  · obtain ⟨a, t, w, r, v, ty, rfl, _⟩ := h
    rfl
  · obtain ⟨a, t, w, r, v, ty, rfl, hv, L, k⟩ := h
    obtain ⟨dx, h1⟩ := id L
    refine ⟨_, pss_one (ps_ret (pe_and (pm_ G T.cl hr (pv 0) (pa_cons (pv 1) pa_nil)) (pe_one (pe_cmpR op_ge (pv 1) (pm_ GC T.cl (hr.mono (by decide)) (pv 0) (pa_cons pe_int pa_nil)) (nomark _))))), ?_⟩
    refine ⟨_, rfl, a, dx, _, rfl, h1, rfl, _, rfl, a, t, w, r, v, ty, rfl, hv, L, _, rfl, ?_⟩
    simp only [lastB] at k
    cases v <;> cases hv
    · exact iteF k
    · exact iteF k
    · rename_i i
      cases h2 : inW 0 (cells t w r - 1) (.int i) with
      | true =>
        rw [h2] at k
        exact iteT ⟨_, rfl, _, rfl, a, dx, _, rfl, h1, rfl, a, t, w, r, _, rfl, L, _, _, rfl, rfl, (by rw [Bool.true_and] at k; exact k)⟩
      | false =>
        rw [h2] at k
        exact iteF (by rw [Bool.false_and] at k; exact k)
    · exact iteF k
end
end Dk

set_option maxHeartbeats 4000000
/-! the refusals; a layout is made -/
namespace Dk
open PySem PySem.Spec PyProof.Rows L2
abbrev sPass : Stmt := top 22
abbrev bmVE : List Value := [.type "ValueError", .type "Exception", .type "BaseException", .type "object"]
/-- what the top has written of the refusals: NotValid at NV, LineError at LE -/
structure XTxt (K : PySem.W.Frag) (mg : Str → Option Value) (NV LE : Addr) : Prop where
  gN : mg "NotValid" = some (.ref NV)
  gL : mg "LineError" = some (.ref LE)
  xN : PySem.W.excIn K NV bmVE "ValueError.__new__" = true
  kN : PySem.W.keepIn K (.ref NV) = true
  sN : PySem.W.subIn K (.ref NV) (.type "BaseException") = some true
  tN : PySem.W.typeIn K (.ref NV) = some (.type "type")
  eN : PySem.W.exmOne K (.ref NV) (.ref LE) = some true
  eC : ExcC K NV
  kit : PySem.W.kitOne K (.ref NV) (.ref NV) = some true
def lok (t w r : Int) : Bool := inW 1 3 (.int t) && (inW 1 4 (.int w) && inW 4 200 (.int r))
structure LOk (t w r : Int) : Prop where
  t1 : 1 ≤ t
  t3 : t ≤ 3
  w1 : 1 ≤ w
  w4 : w ≤ 4
  r4 : 4 ≤ r
  r200 : r ≤ 200
theorem lok_iff {t w r : Int} : lok t w r = true ↔ LOk t w r := by
  unfold lok
  rw [Bool.and_eq_true, Bool.and_eq_true, inW_int, inW_int, inW_int]
  exact ⟨fun ⟨⟨a, b⟩, ⟨c, d⟩, e, f⟩ => ⟨a, b, c, d, e, f⟩, fun ⟨a, b, c, d, e, f⟩ => ⟨⟨a, b⟩, ⟨c, d⟩, e, f⟩⟩
def spLInit (C NV : Addr) : Sp := fun vs H Q E => ∃ p dx t w r, vs = [.ref p, .int t, .int w, .int r] ∧ H p = some (.ins C dx []) ∧
  (lok t w r = true → ∀ H', LayAt C H' p t w r → (∀ b o, H b = some o → b ≠ p → H' b = some o) → Q .non H') ∧ (lok t w r = false → E (.ref NV) none H)
def spTold (C : Addr) : Sp := fun vs H Q _ => ∃ t w r, vs = [.int t, .int w, .int r] ∧
  (lok t w r = true → ∀ p H', H p = none → LayAt C H' p t w r → Same H H' → Q (.ref p) H') ∧ (lok t w r = false → ∀ p H', H' p = some (.lst [.bl true]) → Same H H' → Q (.ref p) H')
def rIsE' (K : PySem.W.Frag) (D a : Addr) (cls : Value) (d : Option Addr) : List V → Hp → VK → Prop := fun xs H Q => cls = .ref D ∧ d = none ∧ rIsE K D a xs H Q
theorem call_isE' {X : Cx} {a D : Addr} {oe : Obj} {cls : Value} {d : Option Addr} {pn : List (Addr × Obj)} (C : ExcC X.K D) (hz : Zc cls d oe) (hf : ∃ vs, oe.data = .fields vs) :
    CallR (X.suite a ((a, oe) :: pn)) (.builtin "isinstance") (rIsE' X.K D a cls d) := by
  intro pins s σ H xs us Q I r h
  obtain ⟨rfl, rfl, h⟩ := h
  exact call_isE C hz hf pins s σ H xs us Q I r h
section
variable {P : Program} {w : World} {K : PySem.W.Frag} {mg : Str → Option Value} {base : Heap} {C NV LE : Addr}
theorem scLInit : FnScope ["self", "threads", "words", "records"] ["self", "threads", "words", "records"] (defScope sLInit) := ⟨rfl, rfl, rfl, by decide +kernel, rfl, by decide +kernel, by decide +kernel⟩
theorem ok_linit {f : Addr} {fd : FuncData} (F : Fun K "__init__" "Layout.__init__" sLInit f fd) (T : LTxt K mg C) (X0 : XTxt K mg NV LE) (G : GO P w K mg base CX0 2 "is_within" ["value", "low", "high"] spWithin) :
    FnOk P w K mg base (L2.CX P w) 3 f fd ["self", "threads", "words", "records"] (spLInit C NV) := by
  refine F.okX scLInit (fun vs H Q E h => ?_) (fun cdv A outer s H vs Q E hr h => ?_)
  · obtain ⟨p, dx, t, w, r, rfl, _⟩ := h
    rfl
  · obtain ⟨p, dx, t, w, r, rfl, hp, k1, k2⟩ := h
    refine ⟨_, pss_cons (ps_if (pt_not (PW.pt (pw_and (pt_val (pc_ G hr (pa_cons (pv 1) (pa_cons pe_int (pa_cons pe_int pa_nil))))) (pw_and (pt_val (pc_ G hr (pa_cons (pv 2) (pa_cons pe_int (pa_cons pe_int pa_nil)))))
        (pw_and1 (pt_val (pc_ G hr (pa_cons (pv 3) (pa_cons pe_int (pa_cons pe_int pa_nil))))))))))
        (pss_one (ps_raise rfl (takes_of rfl rfl rfl rfl) (pmk_own0 PySem.F.excBase_ValueError X0.xN X0.gN X0.kN (raises_own X0.sN X0.tN) rfl))) pss_nil)
      (pss_cons (ps_fld (pv 0) (pv 1) rfl) (pss_cons (ps_fld (pv 0) (pv 2) rfl) (pss_one (ps_fld (pv 0) (pv 3) rfl)))), ?_⟩
    have fin : lok t w r = true → tSeq (sFld K (tVar 0) (tVar 1) "threads") (tSeq (sFld K (tVar 0) (tVar 2) "words") (sFld K (tVar 0) (tVar 3) "records")) { nx := fun _ H' => Q .non H', rt := Q } (L2.start ["self", "threads", "words", "records"] [.ref p, .int t, .int w, .int r]) H := fun q => by
      refine ⟨_, rfl, _, rfl, p, C, dx, [], rfl, hp, T.cl, T.nT, (by show 0 < 1000; decide), _, rfl, _, rfl, p, C, dx, _, rfl, upd_same, T.cl, T.nW, (by show 1 < 1000; decide), _, rfl, _, rfl, p, C, dx, _, rfl, upd_same, T.cl, T.nR, (by show 2 < 1000; decide), ?_⟩
      exact k1 q _ ⟨dx, upd_same⟩ fun b o e hb => by rw [upd_ne hb, upd_ne hb, upd_ne hb]; exact e
    refine ⟨_, rfl, _, _, _, _, rfl, rfl, _, rfl, ?_⟩
    cases h1 : inW 1 3 (V.int t) with
    | false => exact iteF (iteT (k2 (by unfold lok; rw [h1]; rfl)))
    | true =>
      refine iteT ⟨_, rfl, _, _, _, _, rfl, rfl, _, rfl, ?_⟩
      cases h2 : inW 1 4 (V.int w) with
      | false => exact iteF (iteT (k2 (by unfold lok; rw [h1, h2]; rfl)))
      | true =>
        refine iteT ⟨_, rfl, _, _, _, _, rfl, rfl, _, rfl, ?_⟩
        cases h3 : inW 4 200 (V.int r) with
        | false => exact (iteT (k2 (by unfold lok; rw [h1, h2, h3]; rfl)))
        | true => exact (iteF (fin (by unfold lok; rw [h1, h2, h3]; rfl)))
/-- passing_values -/
def spPass (C : Addr) : Sp := fun vs H Q _ => ∃ a t w r, vs = [.ref a] ∧ LayAt C H a t w r ∧ LOk t w r ∧ ∀ p H', H p = none → H' p = some (.lst (.int 0 :: List.replicate t.toNat .non)) → Same H H' → Q (.ref p) H'
theorem flat1 : ∀ n : Nat, (List.replicate n [V.non]).flatten = List.replicate n V.non
  | 0 => rfl
  | n + 1 => by
    rw [List.replicate_succ, List.flatten_cons, flat1 n]
    rfl
theorem scPass : FnScope ["layout"] ["layout"] (defScope sPass) := ⟨rfl, rfl, rfl, by decide +kernel, rfl, by decide +kernel, by decide +kernel⟩
theorem go_pass (F : GT K mg "passing_values" sPass ["layout"]) (T : LTxt K mg C) : GO P w K mg base CX0 1 "passing_values" ["layout"] (spPass C) := by
  obtain ⟨f, fd, F, hm, hb⟩ := F
  refine ⟨f, fd, ?_, hm, F.kp, hb⟩
  refine F.ok scPass (fun vs H Q E h => ?_) (fun cdv A outer s H vs Q E hr h => ?_)
  · obtain ⟨a, t, w, r, rfl, _⟩ := h
    rfl
  · obtain ⟨a, t, w, r, rfl, ⟨dx, h1⟩, ok, k⟩ := h
    have q1 := ok.t1
    have q3 := ok.t3
    refine ⟨_, pss_one (ps_ret (pe_op op_cat (pe_lst (pa_cons pe_int pa_nil)) (pe_op op_rep (pe_lst (pa_cons pe_non pa_nil)) (pe_fld (pv 0) rfl)))), ?_⟩
    refine ⟨(by show 1 ≤ sizeLine; decide), fun p1 n1 => ⟨(by show 1 ≤ sizeLine; decide), fun p2 n2 => ?_⟩⟩
    have a1 : a ≠ p1 := ne_of_none h1 n1
    have e1 : upd H p1 (HO.lst [V.int 0]) a = some (.ins C dx (lf t w r)) := by rw [upd_ne a1]; exact h1
    have a2 : a ≠ p2 := ne_of_none e1 n2
    have p12 : p1 ≠ p2 := ne_of_none (upd_same (H := H) (a := p1) (o := HO.lst [V.int 0])) n2
    have hs : [V.non].length * t.toNat ≤ sizeLine := by
      have : sizeLine = 16777216 := sizeLine_eq
      simp only [List.length_singleton]
      omega
    refine ⟨_, rfl, a, C, dx, _, _, rfl, (by rw [upd_ne a2]; exact e1), T.cl, T.nT, rfl, _, _, _, rfl, rfl, upd_same, (by omega), (by omega), hs, fun p3 n3 => ?_⟩
    have p13 : p1 ≠ p3 := ne_of_none (by rw [upd_ne p12]; exact upd_same) n3
    refine ⟨p1, p3, _, _, rfl, rfl, (by rw [upd_ne p13, upd_ne p12]; exact upd_same), upd_same, ?_, fun p4 n4 => ?_⟩
    · rw [flat1, List.length_replicate]
      have : sizeLine = 16777216 := sizeLine_eq
      simp only [List.length_singleton]
      omega
    · have sm : Same H (upd (upd (upd H p1 (HO.lst [V.int 0])) p2 (HO.lst [V.non])) p3 (HO.lst (List.replicate t.toNat [V.non]).flatten)) := fun b o e => by
        have b1 := ne_of_none e n1
        have e' : upd H p1 (HO.lst [V.int 0]) b = some o := by rw [upd_ne b1]; exact e
        have b2 := ne_of_none e' n2
        have e'' : upd (upd H p1 (HO.lst [V.int 0])) p2 (HO.lst [V.non]) b = some o := by rw [upd_ne b2]; exact e'
        rw [upd_ne (ne_of_none e'' n3)]
        exact e''
      refine k p4 _ (sm.free n4) (by rw [upd_same, flat1]; rfl) fun b o e => ?_
      rw [upd_ne (ne_of_none (sm b o e) n4)]
      exact sm b o e
end
end Dk

set_option maxHeartbeats 4000000
/-! dicts over cells; the rule of a name = {k: v for ..} -/
namespace Dk
open PySem PySem.Spec PyProof.Rows L2
section
variable {X : Cx}
theorem ps_setDc {i : Nat} {y : Str} {py : Pos} {kx vx tg iter : Expr} {ifs : List Expr} {scope : Scope} {own : List (Str × Nat)} {pos spos : Pos} {wi : TI} {g : TG} {tt : TT} {tk tv : TE} (hc : X.calm = true) (hN : X.N.Nodup) (hy : X.N[i]? = some y) (hyl : X.env.scope.names.lookup y = some .local)
    (hsw : swapsWith (.DictComp kx vx [⟨tg, iter, ifs, 0⟩] scope pos) (some (.Name y py)) spos.line X.env = pure true) (hi : PI X tg iter wi) (ok : BlkOk X.N X.env.scope scope own)
    (hg : ∀ (s : Shared) (H : Hp) (C : Addr) (cl : List (Str × Addr)) (fp : List Addr), PG (X.blk s H scope (compEnvC scope cl C X.env) fp) tg g) (ht : ∀ (s : Shared) (H : Hp) (C : Addr) (cl : List (Str × Addr)) (fp : List Addr), PTs (X.blk s H scope (compEnvC scope cl C X.env) fp) ifs tt)
    (hk : ∀ (s : Shared) (H : Hp) (C : Addr) (cl : List (Str × Addr)) (fp : List Addr), PE (X.blk s H scope (compEnvC scope cl C X.env) fp) kx tk)
    (he : ∀ (s : Shared) (H : Hp) (C : Addr) (cl : List (Str × Addr)) (fp : List Addr), PE (X.blk s H scope (compEnvC scope cl C X.env) fp) vx tv) (hs : ∀ x, foldedSetIterable iter X.env x = pure x := by intro _; rfl) :
    PS X (.Assign [.Name y py] (.DictComp kx vx [⟨tg, iter, ifs, 0⟩] scope pos) spos) (tAsg (tDc wi g tt tk tv (own.map (·.2))) (gName i)) := by
  refine ⟨fun pins s σ H D I h => ?_⟩
  rw [exec_Assign_Name_used _ _ _ _ hsw]
  refine wpAny_bind (wpAny_standAt (wpAny_bind ?_))
  show wpAny _ X.A (do let _ ← comprehension (.DictComp kx vx [⟨tg, iter, ifs, 0⟩] scope pos) scope X.env (firstIterPos [⟨tg, iter, ifs, 0⟩] pos) newDict false (eval iter X.env) (some (assign (.Name y py) X.env))) _ _ s
  have h : tDc wi g tt tk tv (own.map (·.2)) σ H (fun x H1 => gName i x σ H1 D.nx) := h
  refine wpAny_bind (thn (dc_core (Qf := fun _ s' => SP X pins D .next s') hc hN I hi ok hg ht hk he hs h fun L C s' m H' I' q hn f => ?_) fun _ s' hq => wpAny_pure (wpAny_pure hq))
  show wpAny _ _ (assign (.Name y py) X.env (.ref L)) _ _ _
  refine wpAny_assign_Name (store_ok2 (v := V.ref L) I' hN hy (.inl hyl) rfl (fun s2 I2 ⟨a, sb, ha⟩ => ?_) (.inr hyl))
  obtain ⟨f0, f1, f2, f3, f4, f5⟩ := f
  have haC : C ≠ a := by
    rcases ha with z | z
    · rw [z]; exact f1
    · exact fun e => f4 y a z e.symm
  refine ⟨m, hn.sameBut sb haC, fun h3 sb3 => ?_⟩
  exact ⟨_, H', I2.turned (t' := s2.toks) (fun b o hb e => (sb3.2 b hb).trans e) f0 f1 f3 f4 f5, q⟩
theorem sw_trueD {kx vx : Expr} {gs : List Comprehension} {scope : Scope} {pos py : Pos} {y : Str} {l : Nat} {env : Env} (hk : env.scope.kind = .function) (hy : env.scope.names.lookup y = some .local) (hl : (py.line == pos.line) = true)
    (ha : (scope.names.any fun (n, k) => n == y && (k == .local || k == .cell)) = false) : swapsWith (.DictComp kx vx gs scope pos) (some (.Name y py)) l env = pure true := by
  have ky : env.kindOf y = some .local := hy
  have hb : env.blockKind = .function := by unfold Env.blockKind; rw [hk]; rfl
  unfold swapsWith
  simp only [hb, ky, ha, Expr.pos, hl]
  rfl
end
/-! ### a dict whose keys are f, f + 1, .. -/
def kv (f : Int) (n : Nat) (g : Nat → V) : List (Key × V) := (List.range n).map fun (j : Nat) => ((Sum.inl (f + (j : Int)) : Key), g j)
def setf (g : Nat → V) (j : Nat) (v : V) : Nat → V := fun i => if i = j then v else g i
theorem kv_len (f : Int) (n : Nat) (g : Nat → V) : (kv f n g).length = n := by unfold kv; rw [List.length_map, List.length_range]
theorem kv_congr {f : Int} {n : Nat} {g h : Nat → V} (e : ∀ j, j < n → g j = h j) : kv f n g = kv f n h := by
  unfold kv
  exact List.map_congr_left fun (j : Nat) hj => by rw [e j (List.mem_range.mp hj)]
theorem kv_succ (f : Int) (n : Nat) (g : Nat → V) : kv f (n + 1) g = kv f n g ++ [((Sum.inl (f + (n : Int)) : Key), g n)] := by
  unfold kv
  rw [List.range_succ, List.map_append]
  rfl
theorem kv_no (f : Int) (g : Nat → V) (i : Int) : ∀ n : Nat, (∀ j : Nat, j < n → f + (j : Int) ≠ i) → valV (kv f n g) (Sum.inl i : Key) = none
  | 0, _ => rfl
  | n + 1, h => by
    have ih := kv_no f g i n fun j hj => h j (by omega)
    rw [kv_succ, valV_snoc _ _ _ _ (kv_no f g (f + (n : Int)) n fun j hj e => by omega), if_neg (fun e => h n (by omega) (Sum.inl.inj e).symm)]
    exact ih
theorem kv_val (f : Int) (g : Nat → V) (j : Nat) : ∀ n : Nat, j < n → valV (kv f n g) (Sum.inl (f + (j : Int)) : Key) = some (g j)
  | 0, h => by omega
  | n + 1, h => by
    rw [kv_succ, valV_snoc _ _ _ _ (kv_no f g (f + (n : Int)) n fun j hj e => by omega)]
    by_cases e : j = n
    · subst e
      rw [if_pos rfl]
    · rw [if_neg (fun q => e (by have := Sum.inl.inj q; omega))]
      exact kv_val f g j n (by omega)
theorem kv_new (f : Int) (n : Nat) (g : Nat → V) (v : V) : putK (kv f n g) (Sum.inl (f + (n : Int)) : Key) v = kv f (n + 1) (setf g n v) := by
  rw [putK_new v (kv_no f g (f + (n : Int)) n fun j hj e => by omega), kv_succ]
  rw [kv_congr (h := setf g n v) (n := n) (fun j hj => by unfold setf; rw [if_neg (by omega)])]
  unfold setf
  rw [if_pos rfl]
theorem kv_put (f : Int) (n : Nat) (g : Nat → V) (j : Nat) (v : V) (hj : j < n) : putK (kv f n g) (Sum.inl (f + (j : Int)) : Key) v = kv f n (setf g j v) := by
  unfold putK
  rw [valV_any, kv_val f g j n hj, if_pos (by rfl)]
  unfold kv
  rw [List.map_map]
  refine List.map_congr_left fun i hi => ?_
  show (if (Sum.inl (f + (i : Int)) : Key) = Sum.inl (f + (j : Int)) then _ else _) = _
  by_cases e : i = j
  · subst e
    rw [if_pos rfl]
    unfold setf
    rw [if_pos rfl]
  · rw [if_neg (fun q => e (by have := Sum.inl.inj q; omega))]
    unfold setf
    rw [if_neg e]
theorem kv_at {f : Int} {n : Nat} {g : Nat → V} {i : Nat} {k : Key} {v : V} (h : (kv f n g)[i]? = some (k, v)) : i < n ∧ k = Sum.inl (f + (i : Int)) ∧ v = g i := by
  unfold kv at h
  rw [List.getElem?_map] at h
  cases e : (List.range n)[i]? with
  | none => rw [e] at h; cases h
  | some j =>
    rw [e] at h
    have hi : i < n := by
      have := (List.getElem?_eq_some_iff.mp e).1
      rwa [List.length_range] at this
    rw [List.getElem?_range hi] at e
    have ej : i = j := Option.some.inj e
    subst ej
    have := Option.some.inj h
    exact ⟨hi, (congrArg Prod.fst this).symm, (congrArg Prod.snd this).symm⟩
end Dk

set_option maxHeartbeats 4000000
/-! the trails and the notes of a new memory -/
namespace Dk
open PySem PySem.Spec PyProof.Rows L2
abbrev sTrails : Stmt := top 23
abbrev sNotes : Stmt := top 24
/-- the value of the j-th lasting cell, behind k words; the empty record is at E0 -/
def Init (E0 : Addr) (t w r : Nat) (k j : Nat) (v : V) : Prop :=
  if t ≤ j ∧ j < t + k then v = .int ((1 + t + j + w : Nat) : Int)
  else if t + w ≤ j ∧ j < t + w + k then v = .ref E0
  else v = .non
def seta (tl : Nat → Addr) (i : Nat) (p : Addr) : Nat → Addr := fun j => if j = i then p else tl j
theorem seta_same {tl : Nat → Addr} {i : Nat} {p : Addr} : seta tl i p i = p := if_pos rfl
theorem seta_ne {tl : Nat → Addr} {i j : Nat} {p : Addr} (h : j ≠ i) : seta tl i p j = tl j := if_neg h
theorem setf_same {g : Nat → V} {i : Nat} {v : V} : setf g i v i = v := if_pos rfl
theorem setf_ne {g : Nat → V} {i j : Nat} {v : V} (h : j ≠ i) : setf g i v j = g j := if_neg h
def sett (tr : Nat → List V) (i : Nat) (l : List V) : Nat → List V := fun j => if j = i then l else tr j
theorem sett_same {tr : Nat → List V} {i : Nat} {l : List V} : sett tr i l i = l := if_pos rfl
theorem sett_ne {tr : Nat → List V} {i j : Nat} {l : List V} (h : j ≠ i) : sett tr i l j = tr j := if_neg h
theorem setf_ref (tl : Nat → Addr) (i : Nat) (p : Addr) : setf (fun j => .ref (tl j)) i (.ref p) = fun j => .ref (seta tl i p j) := by
  funext j
  unfold setf seta
  by_cases c : j = i
  · rw [if_pos c, if_pos c]
  · rw [if_neg c, if_neg c]
/-- the dict of the trails at D: the key f + j has the list at tl j, which holds tr j -/
structure TrG (H : Hp) (D : Addr) (f : Int) (n : Nat) (tl : Nat → Addr) (tr : Nat → List V) : Prop where
  d : H D = some (.dK (kv f n fun j => .ref (tl j)))
  l : ∀ j, j < n → H (tl j) = some (.lst (tr j))
  inj : ∀ i j, i < n → j < n → tl i = tl j → i = j
theorem TrG.same {H H' : Hp} {D : Addr} {f : Int} {n : Nat} {tl : Nat → Addr} {tr : Nat → List V} (R : TrG H D f n tl tr) (s : Same H H') : TrG H' D f n tl tr := ⟨s _ _ R.d, fun j hj => s _ _ (R.l j hj), R.inj⟩
/-- a new list p is put in the place of the i-th -/
theorem TrG.put {H H1 : Hp} {D p : Addr} {f : Int} {n i : Nat} {tl : Nat → Addr} {tr : Nat → List V} {l : List V} (R : TrG H D f n tl tr) (s : Same H H1) (hp : H p = none) (h1 : H1 p = some (.lst l)) (hi : i < n) :
    TrG (upd H1 D (.dK (putK (kv f n fun j => .ref (tl j)) (Sum.inl (f + (i : Int)) : Key) (.ref p)))) D f n (seta tl i p) (sett tr i l) := by
  have nD : p ≠ D := (ne_of_none R.d hp).symm
  refine ⟨?_, fun j hj => ?_, fun j l hj hl e => ?_⟩
  · rw [upd_same, kv_put _ _ _ _ _ hi, setf_ref]
  · by_cases c : j = i
    · rw [c, seta_same, sett_same, upd_ne nD]
      exact h1
    · rw [seta_ne c, sett_ne c]
      have e1 := s _ _ (R.l j hj)
      rw [upd_ne (ne_of (s _ _ (R.l j hj)) (s _ _ R.d) (by intro z; cases z))]
      exact e1
  · have np : ∀ j, j < n → tl j ≠ p := fun j hj => ne_of_none (R.l j hj) hp
    by_cases c : j = i
    · by_cases c2 : l = i
      · omega
      · rw [c, seta_same, seta_ne c2] at e
        exact absurd e.symm (np l hl)
    · by_cases c2 : l = i
      · rw [seta_ne c, c2, seta_same] at e
        exact absurd e (np j hj)
      · rw [seta_ne c, seta_ne c2] at e
        exact R.inj j l hj hl e
/-- a new list p comes for the key behind the last -/
theorem TrG.snoc {H H1 : Hp} {D p : Addr} {f : Int} {n : Nat} {tl : Nat → Addr} {tr : Nat → List V} {l : List V} (R : TrG H D f n tl tr) (s : Same H H1) (hp : H p = none) (h1 : H1 p = some (.lst l)) :
    TrG (upd H1 D (.dK (putK (kv f n fun j => .ref (tl j)) (Sum.inl (f + (n : Int)) : Key) (.ref p)))) D f (n + 1) (seta tl n p) (sett tr n l) := by
  have nD : p ≠ D := (ne_of_none R.d hp).symm
  refine ⟨?_, fun j hj => ?_, fun j l hj hl e => ?_⟩
  · rw [upd_same, kv_new, setf_ref]
  · by_cases c : j = n
    · rw [c, seta_same, sett_same, upd_ne nD]
      exact h1
    · rw [seta_ne c, sett_ne c]
      have e1 := s _ _ (R.l j (by omega))
      rw [upd_ne (ne_of e1 (s _ _ R.d) (by intro z; cases z))]
      exact e1
  · have np : ∀ j, j < n → tl j ≠ p := fun j hj => ne_of_none (R.l j hj) hp
    by_cases c : j = n
    · by_cases c2 : l = n
      · omega
      · rw [c, seta_same, seta_ne c2] at e
        exact absurd e.symm (np l (by omega))
    · by_cases c2 : l = n
      · rw [seta_ne c, c2, seta_same] at e
        exact absurd e (np j (by omega))
      · rw [seta_ne c, seta_ne c2] at e
        exact R.inj j l (by omega) (by omega) e
/-- the trails of a new memory behind k words -/
structure TrAt (E0 : Addr) (H : Hp) (D : Addr) (t w r : Nat) (tl : Nat → Addr) (tr : Nat → List V) (k : Nat) (H0 : Hp) : Prop where
  g : TrG H D ((1 + t : Nat) : Int) (t + w + r) tl tr
  ini : ∀ j, j < t + w + r → ∃ v, tr j = [v] ∧ Init E0 t w r k j v
  new : ∀ j, j < t + w + r → H0 (tl j) = none
  nD : H0 D = none
structure NOk (t w r : Nat) : Prop where
  t1 : 1 ≤ t
  t3 : t ≤ 3
  w1 : 1 ≤ w
  w4 : w ≤ 4
  r4 : 4 ≤ r
  r200 : r ≤ 200
theorem NOk.lok {t w r : Nat} (h : NOk t w r) : LOk (t : Int) w r := ⟨by have := h.t1; omega, by have := h.t3; omega, by have := h.w1; omega, by have := h.w4; omega, by have := h.r4; omega, by have := h.r200; omega⟩
theorem first_n (t : Nat) : first (t : Int) + 0 = ((1 + t : Nat) : Int) := by unfold first; omega
theorem cells_n (t w r : Nat) : cells (t : Int) w r = ((1 + t + (t + w + r) : Nat) : Int) := by unfold cells; omega
def spTrails (C E0 : Addr) : Sp := fun vs H Q _ => ∃ (a : Addr) (t w r : Nat), vs = [.ref a] ∧ LayAt C H a t w r ∧ NOk t w r ∧
  ∀ (D : Addr) (tl : Nat → Addr) (tr : Nat → List V) (H' : Hp), TrAt E0 H' D t w r tl tr w H → Same H H' → Q (.ref D) H'
def spNotes (C : Addr) : Sp := fun vs H Q _ => ∃ (a : Addr) (t w r : Nat), vs = [.ref a] ∧ LayAt C H a t w r ∧ NOk t w r ∧
  ∀ (D : Addr) (na : List Addr) (H' : Hp), H' D = some (.lst (na.map V.ref)) → na.length = t → na.Nodup → (∀ a, a ∈ na → H' a = some (.dK []) ∧ H a = none) → H D = none → Same H H' → Q (.ref D) H'
section
variable {P : Program} {w : World} {K : PySem.W.Frag} {mg : Str → Option Value} {base : Heap} {C E0 : Addr}
theorem scTrails : FnScope ["layout", "trails", "index", "cell"] ["layout"] (defScope sTrails) := ⟨rfl, rfl, rfl, by decide +kernel, rfl, by decide +kernel, by decide +kernel⟩
theorem go_trails (F : GT K mg "first_trails" sTrails ["layout"]) (T : LTxt K mg C) (gEm : mg "EMPTY" = some (.ref E0)) (GS : MO P w K mg base CX0 C 2 "call_slot" ["self", "thread"] (spL1 C fun t _ _ i => .int (first t + i)))
    (GW : MO P w K mg base CX0 C 3 "word" ["self", "index"] (spL1 C fun t _ _ i => .int (first t + t + i))) (GR : MO P w K mg base CX0 C 4 "record" ["self", "index"] (spL1 C fun t w _ i => .int (rec0 t w + i)))
    (GC : MO P w K mg base CX0 C 5 "cells" ["self"] (spL0 C fun t w r => .int (cells t w r))) : GO P w K mg base CX0 6 "first_trails" ["layout"] (spTrails C E0) := by
  obtain ⟨f, fd, F, hm, hb⟩ := F
  refine ⟨f, fd, ?_, hm, F.kp, hb⟩
  refine F.ok scTrails (fun vs H Q E h => ?_) (fun cdv A outer s H vs Q E hr h => ?_)
  · obtain ⟨a, t, w, r, rfl, _⟩ := h
    rfl
  · obtain ⟨a, t, w, r, rfl, L, ok, k⟩ := h
    obtain ⟨dx, h1⟩ := id L
    have hu := hu_of hr
    have hr2 : Room 2 _ := hr.mono (by decide)
    have hr3 : Room 3 _ := hr.mono (by decide)
    have hr4 : Room 4 _ := hr.mono (by decide)
    refine ⟨_, pss_cons (ps_setDc (i := 1) (own := [("cell", 3)]) (g := gName 3) (tt := tYes) rfl scTrails.nd rfl rfl (sw_trueD rfl rfl rfl (by decide +kernel))
        (pi_range2 rfl T.bn.range (pa_cons (pm_ GS T.cl hr2 (pv 0) (pa_cons pe_int pa_nil)) (pa_cons (pm0_ GC T.cl hr (pv 0)) pa_nil)))
        (blkOk_by (N := ["layout", "trails", "index", "cell"]) (sc := defScope sTrails) (by decide +kernel)) (fun _ _ _ _ _ => pg_name (i := 3) scTrails.nd rfl (Or.inl rfl)) (fun _ _ _ _ _ => pts_nil) (fun _ _ _ _ _ => pv 3) (fun _ _ _ _ _ => pe_lst (pa_cons pe_non pa_nil)))
      (pss_cons (ps_for PassesOwn.never rfl (pi_range1 rfl T.bn.range (pa_cons (pe_fld (pv 0) rfl) pa_nil)) (pg_name (i := 2) scTrails.nd rfl (Or.inl rfl))
        (pss_cons (ps_dput hu (pv 1) (pm_ GW T.cl hr3 (pv 0) (pa_cons (pv 2) pa_nil)) (pe_lst (pa_cons (pm_ GR T.cl hr4 (pv 0) (pa_cons (pv 2) pa_nil)) pa_nil)) rfl)
        (pss_one (ps_dput hu (pv 1) (pm_ GR T.cl hr4 (pv 0) (pa_cons (pv 2) pa_nil)) (pe_lst (pa_cons (pe_glob (v := .ref E0) rfl gEm rfl) pa_nil)) rfl))))
      (pss_one (ps_ret (pv 1)))), ?_⟩
    have hsl : sizeLine = 16777216 := sizeLine_eq
    have q1 := ok.t1
    have q2 := ok.t3
    have q3 := ok.w1
    have q4 := ok.w4
    have q5 := ok.r4
    have q6 := ok.r200
    have hf := first_n t
    have hc := cells_n t w r
    refine ⟨_, rfl, a, dx, _, rfl, h1, rfl, a, t, w, r, 0, rfl, L, _, rfl, a, dx, _, rfl, h1, rfl, a, t, w, r, rfl, L, _, _, rfl, ⟨by omega, by omega, by omega, by omega⟩, fun D hD => ?_⟩
    rw [hf, hc]
    have en : (((1 + t + (t + w + r) : Nat) : Int) - ((1 + t : Nat) : Int)).toNat = t + w + r := by omega
    rw [en]
    refine dc_it walk_range (fun i H' => ∃ (tl : Nat → Addr) (tr : Nat → List V), TrG H' D ((1 + t : Nat) : Int) i tl tr ∧ (∀ j, j < i → tr j = [.non] ∧ H (tl j) = none) ∧ Same H H')
      ⟨fun _ => 0, fun _ => [], ⟨upd_same, fun j h => by omega, fun j l h => by omega⟩, fun j h => by omega, fun b o e => by rw [upd_ne (ne_of_none e hD)]; exact e⟩ (fun _ _ _ _ => trivial) ?_ ?_
    · rintro i x H9 H1 hi ⟨tl, tr, R, hl, sm⟩ ⟨rfl, rfl⟩
      refine ⟨rfl, _, rfl, (by show 1 ≤ sizeLine; decide), fun p hp => ?_⟩
      have pD : D ≠ p := ne_of_none R.d hp
      have s1 : Same H1 (upd H1 p (.lst [.non])) := fun b o e => by rw [upd_ne (ne_of_none e hp)]; exact e
      refine ⟨_, Sum.inl _, rfl, (by rw [upd_ne pD]; exact R.d), (by rw [kv_len]; omega), _, _, R.snoc s1 hp upd_same, fun j hj => ?_, fun b o e => ?_⟩
      · by_cases c : j = i
        · rw [c, seta_same, sett_same]
          exact ⟨rfl, sm.free hp⟩
        · rw [seta_ne c, sett_ne c]
          exact hl j (by omega)
      · rw [upd_ne (ne_of_none e hD)]
        exact s1 _ _ (sm b o e)
    · rintro H1 ⟨tl, tr, R, hl, sm⟩
      have R0 : TrAt E0 H1 D t w r tl tr 0 H := by
        refine ⟨R, fun j hj => ⟨.non, (hl j hj).1, ?_⟩, fun j hj => (hl j hj).2, hD⟩
        unfold Init
        rw [if_neg (by omega), if_neg (by omega)]
      have h1' := sm _ _ h1
      refine ⟨_, rfl, a, C, dx, _, _, rfl, h1', T.cl, T.nW, rfl, _, rfl, by omega, by omega, for_range (lo := 0) (n := (w : Int).toNat)
        (fun i σ H2 => ∃ (v c : Option V) (tl : Nat → Addr) (tr : Nat → List V), σ = [some (.ref a), some (.ref D), v, c] ∧ TrAt E0 H2 D t w r tl tr i H ∧ Same H H2) ⟨_, _, tl, tr, rfl, R0, sm⟩ ?_ ?_⟩
      · rintro i σ H2 hi ⟨v, c, tl2, tr2, rfl, R, sm2⟩
        have g1 := sm2 _ _ h1
        have L2 : LayAt C H2 a t w r := ⟨dx, g1⟩
        have hw : i < w := by omega
        -- trails[layout.word(index)] = [layout.record(index)]
        refine ⟨_, rfl, a, dx, _, rfl, g1, rfl, _, rfl, a, t, w, r, _, rfl, L2, (by show 1 ≤ sizeLine; decide), fun p hp => ?_⟩
        have sp1 : Same H2 (upd H2 p (HO.lst [V.int (rec0 (t : Int) w + (0 + (i : Int)))])) := fun b o e => by rw [upd_ne (ne_of_none e hp)]; exact e
        have k1 : (first (t : Int) + t + (0 + (i : Int))) = ((1 + t : Nat) : Int) + ((t + i : Nat) : Int) := by unfold first; omega
        refine ⟨_, rfl, _, rfl, a, dx, _, rfl, sp1 _ _ g1, rfl, _, rfl, a, t, w, r, _, rfl, ⟨dx, sp1 _ _ g1⟩, D, _, rfl, DPut.k (k := Sum.inl _) (sp1 _ _ R.g.d) (by rw [kv_len]; omega), ?_⟩
        rw [k1]
        have R1 := R.g.put sp1 hp upd_same (i := t + i) (by omega)
        have s3 : Same H _ := fun b o e => (show upd (upd H2 p (HO.lst [V.int (rec0 (t : Int) w + (0 + (i : Int)))])) D (.dK (putK (kv ((1 + t : Nat) : Int) (t + w + r) fun j => .ref (tl2 j)) (Sum.inl (((1 + t : Nat) : Int) + ((t + i : Nat) : Int)) : Key) (.ref p))) b = some o from by
          rw [upd_ne (ne_of_none e hD)]
          exact sp1 _ _ (sm2 b o e))
        have it3 : ∀ j, j < t + w + r → ∃ v, sett tr2 (t + i) [V.int (rec0 (t : Int) w + (0 + (i : Int)))] j = [v] ∧ (j = t + i → v = .int (rec0 (t : Int) w + (0 + (i : Int)))) ∧ (j ≠ t + i → Init E0 t w r i j v) := fun j hj => by
          by_cases c : j = t + i
          · exact ⟨_, (by rw [c, sett_same]), fun _ => rfl, fun h => absurd c h⟩
          · obtain ⟨v, e1, e2⟩ := R.ini j hj
            exact ⟨v, (by rw [sett_ne c]; exact e1), fun h => absurd h c, fun _ => e2⟩
        generalize hH3 : upd (upd H2 p (HO.lst [V.int (rec0 (t : Int) w + (0 + (i : Int)))])) D (.dK (putK (kv ((1 + t : Nat) : Int) (t + w + r) fun j => .ref (tl2 j)) (Sum.inl (((1 + t : Nat) : Int) + ((t + i : Nat) : Int)) : Key) (.ref p))) = H3 at R1 s3 ⊢
        have n3 : ∀ j, j < t + w + r → H (seta tl2 (t + i) p j) = none := fun j hj => by
          by_cases c : j = t + i
          · rw [c, seta_same]
            exact sm2.free hp
          · rw [seta_ne c]
            exact R.new j hj
        generalize htr3 : sett tr2 (t + i) [V.int (rec0 (t : Int) w + (0 + (i : Int)))] = tr3 at R1 it3
        generalize htl3 : seta tl2 (t + i) p = tl3 at R1 n3
        -- trails[layout.record(index)] = [("items", ())]
        refine ⟨(by show 1 ≤ sizeLine; decide), fun p2 hp2 => ?_⟩
        have s36 : Same H3 (upd H3 p2 (.lst [.ref E0])) := fun b o e => by rw [upd_ne (ne_of_none e hp2)]; exact e
        have g3 := s36 _ _ (s3 _ _ h1)
        have hp23 : H3 p2 = none := hp2
        have k2 : (rec0 (t : Int) w + (0 + (i : Int))) = ((1 + t : Nat) : Int) + ((t + w + i : Nat) : Int) := by unfold rec0; omega
        refine ⟨_, rfl, _, rfl, a, dx, _, rfl, g3, rfl, _, rfl, a, t, w, r, _, rfl, ⟨dx, g3⟩, D, _, rfl, DPut.k (k := Sum.inl _) (s36 _ _ R1.d) (by rw [kv_len]; omega), ?_⟩
        rw [k2]
        have R2 := R1.put s36 hp23 upd_same (i := t + w + i) (by omega)
        refine ⟨_, _, _, _, rfl, ⟨R2, fun j hj => ?_, fun j hj => ?_, hD⟩, fun b o e => ?_⟩
        · by_cases c : j = t + w + i
          · refine ⟨.ref E0, (by rw [c, sett_same]), ?_⟩
            unfold Init
            rw [if_neg (by omega), if_pos (by omega)]
          · obtain ⟨v, e1, e2, e3⟩ := it3 j hj
            refine ⟨v, (by rw [sett_ne c]; exact e1), ?_⟩
            unfold Init
            by_cases c1 : j = t + i
            · rw [if_pos (by omega), e2 c1]
              exact congrArg V.int (by rw [c1]; unfold rec0; omega)
            · have e3 := e3 c1
              unfold Init at e3
              by_cases c2 : t ≤ j ∧ j < t + i
              · rw [if_pos c2] at e3
                rw [if_pos (by omega)]
                exact e3
              · rw [if_neg c2] at e3
                rw [if_neg (by omega)]
                by_cases c3 : t + w ≤ j ∧ j < t + w + i
                · rw [if_pos c3] at e3
                  rw [if_pos (by omega)]
                  exact e3
                · rw [if_neg c3] at e3
                  rw [if_neg (by omega)]
                  exact e3
        · by_cases c : j = t + w + i
          · rw [c, seta_same]
            exact s3.free hp23
          · rw [seta_ne c]
            exact n3 j hj
        · rw [upd_ne (ne_of_none e hD)]
          exact s36 _ _ (s3 b o e)
      · rintro σ H2 ⟨v, c, tl2, tr2, rfl, R, sm2⟩
        have ew : (w : Int).toNat = w := by omega
        rw [ew] at R
        exact ⟨_, rfl, k D tl2 tr2 H2 R sm2⟩
theorem scNotes : FnScope ["layout", "thread"] ["layout"] (defScope sNotes) := ⟨rfl, rfl, rfl, by decide +kernel, rfl, by decide +kernel, by decide +kernel⟩
theorem go_notes (F : GT K mg "no_notes" sNotes ["layout"]) (T : LTxt K mg C) : GO P w K mg base CX0 1 "no_notes" ["layout"] (spNotes C) := by
  obtain ⟨f, fd, F, hm, hb⟩ := F
  refine ⟨f, fd, ?_, hm, F.kp, hb⟩
  refine F.ok scNotes (fun vs H Q E h => ?_) (fun cdv A outer s H vs Q E hr h => ?_)
  · obtain ⟨a, t, w, r, rfl, _⟩ := h
    rfl
  · obtain ⟨a, t, w, r, rfl, L, ok, k⟩ := h
    obtain ⟨dx, h1⟩ := id L
    refine ⟨_, pss_one (ps_ret (pe_lc (own := [("thread", 1)]) (g := gName 1) (tt := tYes) rfl scNotes.nd (pi_range1 rfl T.bn.range (pa_cons (pe_fld (pv 0) rfl) pa_nil))
      (blkOk_by (N := ["layout", "thread"]) (sc := defScope sNotes) (by decide +kernel)) (fun _ _ _ _ _ => pg_name (i := 1) scNotes.nd rfl (Or.inl rfl)) (fun _ _ _ _ _ => pts_nil) (fun _ _ _ _ _ => pe_dnewK))), ?_⟩
    have q1 := ok.t1
    have q3 := ok.t3
    refine ⟨_, rfl, a, C, dx, _, _, rfl, h1, T.cl, T.nT, rfl, _, rfl, by omega, by omega, fun D hD => lc_range (lo := 0) (n := (t : Int).toNat)
      (fun i H' => ∃ na : List Addr, H' D = some (.lst (na.map V.ref)) ∧ na.length = i ∧ na.Nodup ∧ (∀ a, a ∈ na → H' a = some (.dK []) ∧ H a = none) ∧ Same H H') ⟨[], upd_same, rfl, List.nodup_nil, fun a h => by simp at h, fun b o e => by rw [upd_ne (ne_of_none e hD)]; exact e⟩ ?_ ?_⟩
    · rintro i H' hi ⟨na, hl, len, nd, all, sm⟩
      refine ⟨rfl, fun p hp => ?_⟩
      have pD : D ≠ p := ne_of_none hl hp
      have hsz : na.length < sizeLine := by
        have : sizeLine = 16777216 := sizeLine_eq
        omega
      refine ⟨na.map V.ref, (by rw [upd_ne pD]; exact hl), (by rw [List.length_map]; exact hsz), na ++ [p], ?_, by simp [len], ?_, ?_, ?_⟩
      · rw [upd_same, List.map_append]
        rfl
      · refine nd_snoc nd fun m => ?_
        have := (all p m).1
        rw [hp] at this
        cases this
      · intro b hb
        rcases List.mem_append.mp hb with m | m
        · obtain ⟨e1, e2⟩ := all b m
          have bD : b ≠ D := ne_of e1 hl (by intro z; cases z)
          rw [upd_ne bD, upd_ne (ne_of_none e1 hp)]
          exact ⟨e1, e2⟩
        · have e := List.mem_singleton.mp m
          subst e
          rw [upd_ne pD.symm, upd_same]
          exact ⟨rfl, sm.free hp⟩
      · intro b o e
        have e1 := sm b o e
        rw [upd_ne (ne_of_none e hD), upd_ne (ne_of_none e1 hp)]
        exact e1
    · rintro H' ⟨na, hl, len, nd, all, sm⟩
      exact k D na H' hl (by omega) nd all hD sm
end
end Dk

set_option maxHeartbeats 4000000
/-! a memory is made -/
namespace Dk
open PySem PySem.Spec PyProof.Rows L2
abbrev sMInit : Stmt := inClass (top 25) 0
/-- what a memory holds -/
structure MS where
  count : Int
  ps : List V
  tr : Nat → List V
  lost : Nat → Int
  notes : List (List (Key × V))
  log : List V
/-- where its parts stand -/
structure Adr where
  a : Addr
  pl : Addr
  td : Addr
  ld : Addr
  nl : Addr
  gl : Addr
  tl : Nat → Addr
  na : List Addr
def mf (A : Adr) (c : Int) : List (Str × V) := [("layout", .ref A.a), ("count", .int c), ("_passing", .ref A.pl), ("_trails", .ref A.td), ("_lost", .ref A.ld), ("_notes", .ref A.nl), ("_log", .ref A.gl)]
structure MemAt (C M : Addr) (H : Hp) (m : Addr) (t w r : Nat) (A : Adr) (S : MS) : Prop where
  ob : ∃ dx, H m = some (.ins M dx (mf A S.count))
  lay : LayAt C H A.a t w r
  ps : H A.pl = some (.lst S.ps)
  tr : TrG H A.td ((1 + t : Nat) : Int) (t + w + r) A.tl S.tr
  ld : H A.ld = some (.dK (kv ((1 + t : Nat) : Int) (t + w + r) fun j => .int (S.lost j)))
  nl : H A.nl = some (.lst (A.na.map V.ref))
  nn : A.na.length = t
  nd : A.na.Nodup
  no : ∀ (i : Nat) (b : Addr), A.na[i]? = some b → ∃ ns, S.notes[i]? = some ns ∧ H b = some (.dK ns)
  gl : H A.gl = some (.lst S.log)
  d1 : ∀ j, j < t + w + r → A.tl j ≠ A.pl ∧ A.tl j ≠ A.gl ∧ A.tl j ≠ A.nl
  d2 : A.pl ≠ A.gl ∧ A.pl ≠ A.nl ∧ A.gl ≠ A.nl
  d3 : A.td ≠ A.ld
  d4 : ∀ b, b ∈ A.na → b ≠ A.td ∧ b ≠ A.ld
  d5 : m ≠ A.a
/-- the addresses that are the memory's own -/
def Foot (m : Addr) (A : Adr) (n : Nat) (b : Addr) : Prop := b = m ∨ b = A.pl ∨ b = A.td ∨ b = A.ld ∨ b = A.nl ∨ b = A.gl ∨ (∃ j, j < n ∧ b = A.tl j) ∨ b ∈ A.na
def S0 (t : Nat) (tr : Nat → List V) : MS := ⟨0, .int 0 :: List.replicate t .non, tr, fun _ => 0, List.replicate t [], []⟩
structure MTxt (K : PySem.W.Frag) (M : Addr) : Prop where
  cl : Cls K M
  nL : NoAttr K M "layout"
  nC : NoAttr K M "count"
  nP : NoAttr K M "_passing"
  nT : NoAttr K M "_trails"
  nO : NoAttr K M "_lost"
  nN : NoAttr K M "_notes"
  nG : NoAttr K M "_log"
/-- all but what stands at p is as it was -/
def Keep (p : Addr) (H H' : Hp) : Prop := ∀ b o, H b = some o → b ≠ p → H' b = some o
theorem Keep.of {p : Addr} {H H' : Hp} (s : Same H H') : Keep p H H' := fun b o e _ => s b o e
theorem Keep.trans {p : Addr} {H H1 H2 : Hp} (a : Keep p H H1) (b : Keep p H1 H2) : Keep p H H2 := fun c o e h => b c o (a c o e h) h
theorem Keep.up {p : Addr} {H : Hp} {o : HO} : Keep p H (upd H p o) := fun b u e h => by rw [upd_ne h]; exact e
def spMInit (C M E0 : Addr) : Sp := fun vs H Q _ => ∃ (p dx a : Addr) (t w r : Nat), vs = [.ref p, .ref a] ∧ H p = some (.ins M dx []) ∧ LayAt C H a t w r ∧ NOk t w r ∧
  ∀ (A : Adr) (tr : Nat → List V) (H' : Hp), A.a = a → MemAt C M H' p t w r A (S0 t tr) → (∀ j, j < t + w + r → ∃ v, tr j = [v] ∧ Init E0 t w r w j v) → Keep p H H' → (∀ b, Foot p A (t + w + r) b → b = p ∨ H b = none) → Q .non H'
section
variable {P : Program} {w : World} {K : PySem.W.Frag} {mg : Str → Option Value} {base : Heap} {C M E0 : Addr}
theorem scMInit : FnScope ["self", "layout", "cell"] ["self", "layout"] (defScope sMInit) := ⟨rfl, rfl, rfl, by decide +kernel, rfl, by decide +kernel, by decide +kernel⟩
theorem ok_minit {f : Addr} {fd : FuncData} (F : Fun K "__init__" "Memory.__init__" sMInit f fd) (T : LTxt K mg C) (TM : MTxt K M) (GP : GO P w K mg base CX0 1 "passing_values" ["layout"] (spPass C))
    (GT : GO P w K mg base CX0 6 "first_trails" ["layout"] (spTrails C E0)) (GN : GO P w K mg base CX0 1 "no_notes" ["layout"] (spNotes C)) : FnOk P w K mg base CX0 7 f fd ["self", "layout"] (spMInit C M E0) := by
  refine F.ok scMInit (fun vs H Q E h => ?_) (fun cdv A outer s H vs Q E hr h => ?_)
  · obtain ⟨p, dx, a, t, w, r, rfl, _⟩ := h
    rfl
  · obtain ⟨p, dx, a, t, w, r, rfl, hp, L, ok, k⟩ := h
    obtain ⟨da, ha⟩ := id L
    have hr1 : Room 1 _ := hr.mono (by decide)
    have pa : p ≠ a := ne_of hp ha (by intro z; cases z)
    refine ⟨_, pss_cons (ps_fld (pv 0) (pv 1) rfl) (pss_cons (ps_fld (pv 0) pe_int rfl) (pss_cons (ps_fld (pv 0) (pc_ GP hr1 (pa_cons (pv 1) pa_nil)) rfl)
      (pss_cons (ps_fld (pv 0) (pc_ GT hr (pa_cons (pv 1) pa_nil)) rfl)
      (pss_cons (ps_fld (pv 0) (pe_lock (pe_dc (own := [("cell", 2)]) (g := gName 2) (tt := tYes) rfl scMInit.nd (pi_keys (pe_fld (pv 0) rfl)) (blkOk_by (N := ["self", "layout", "cell"]) (sc := defScope sMInit) (by decide +kernel))
        (fun _ _ _ _ _ => pg_name (i := 2) scMInit.nd rfl (Or.inl rfl)) (fun _ _ _ _ _ => pts_nil) (fun _ _ _ _ _ => pv 2) (fun _ _ _ _ _ => pe_int))) rfl)
      (pss_cons (ps_fld (pv 0) (pc_ GN hr1 (pa_cons (pv 1) pa_nil)) rfl) (pss_one (ps_fld (pv 0) (pe_lst pa_nil) rfl))))))), ?_⟩
    -- self.layout = layout; self.count = 0
    refine ⟨_, rfl, _, rfl, p, M, dx, [], rfl, hp, TM.cl, TM.nL, (by show 0 < 1000; decide), ?_⟩
    refine ⟨_, rfl, p, M, dx, _, rfl, upd_same, TM.cl, TM.nC, (by show 1 < 1000; decide), ?_⟩
    generalize hH2 : upd (upd H p _) p _ = H2
    have k2 : Keep p H H2 := by rw [← hH2]; exact Keep.up.trans Keep.up
    have p2 : H2 p = some (.ins M dx [("layout", .ref a), ("count", .int 0)]) := by rw [← hH2]; exact upd_same
    -- self._passing = passing_values(layout)
    refine ⟨_, rfl, a, t, w, r, rfl, ⟨da, k2 _ _ ha pa.symm⟩, ok.lok, fun pl H3 npl hpl s3 => ?_⟩
    refine ⟨_, rfl, p, M, dx, _, rfl, s3 _ _ p2, TM.cl, TM.nP, (by show 2 < 1000; decide), ?_⟩
    generalize hH4 : upd H3 p _ = H4
    have k4 : Keep p H2 H4 := by rw [← hH4]; exact (Keep.of s3).trans Keep.up
    have p4 : H4 p = some (.ins M dx [("layout", .ref a), ("count", .int 0), ("_passing", .ref pl)]) := by rw [← hH4]; exact upd_same
    have plp : pl ≠ p := (ne_of_none p2 npl).symm
    have e4 : H4 pl = some (.lst (.int 0 :: List.replicate (t : Int).toNat .non)) := by rw [← hH4, upd_ne plp]; exact hpl
    -- self._trails = first_trails(layout)
    refine ⟨_, rfl, a, t, w, r, rfl, ⟨da, k4 _ _ (k2 _ _ ha pa.symm) pa.symm⟩, ok, fun td tl tr H5 R s5 => ?_⟩
    refine ⟨_, rfl, p, M, dx, _, rfl, s5 _ _ p4, TM.cl, TM.nT, (by show 3 < 1000; decide), ?_⟩
    generalize hH6 : upd H5 p _ = H6
    have k56 : Keep p H5 H6 := by rw [← hH6]; exact Keep.up
    have k6 : Keep p H4 H6 := (Keep.of s5).trans k56
    have p6 : H6 p = some (.ins M dx [("layout", .ref a), ("count", .int 0), ("_passing", .ref pl), ("_trails", .ref td)]) := by rw [← hH6]; exact upd_same
    have tdp : td ≠ p := (ne_of_none p4 R.nD).symm
    have tlp : ∀ j, j < t + w + r → tl j ≠ p := fun j hj => (ne_of_none p4 (R.new j hj)).symm
    have G6 : TrG H6 td ((1 + t : Nat) : Int) (t + w + r) tl tr := ⟨k56 _ _ R.g.d tdp, fun j hj => k56 _ _ (R.g.l j hj) (tlp j hj), R.g.inj⟩
    -- self._lost = {cell: 0 for cell in self._trails}
    refine ⟨td, _, G6.d, trivial, fun od => ?_⟩
    have tdp' : p ≠ td := tdp.symm
    have f6 : upd H6 td (.frz od (.dK (kv ((1 + t : Nat) : Int) (t + w + r) fun j => .ref (tl j)))) p = some (.ins M dx [("layout", .ref a), ("count", .int 0), ("_passing", .ref pl), ("_trails", .ref td)]) := by rw [upd_ne tdp']; exact p6
    refine ⟨_, rfl, p, M, dx, _, _, rfl, f6, TM.cl, TM.nT, rfl, td, od, rfl, .inl ⟨_, upd_same, fun D hD => ?_⟩⟩
    have tdD : td ≠ D := ne_of_none upd_same hD
    refine dc_it walk_keys (fun i H' => H' D = some (.dK (kv ((1 + t : Nat) : Int) i fun _ => .int 0)) ∧ Same (upd H6 td (.frz od (.dK (kv ((1 + t : Nat) : Int) (t + w + r) fun j => .ref (tl j))))) H')
      ⟨upd_same, fun b o e => by rw [upd_ne (ne_of_none e hD)]; exact e⟩ (fun i H' _ q => q.2 _ _ upd_same) ?_ ?_
    · rintro i x H9 H1 hi ⟨hd, sm⟩ ⟨rfl, kk, v, e, rfl⟩
      obtain ⟨hi', rfl, rfl⟩ := kv_at e
      refine ⟨rfl, _, rfl, _, Sum.inl _, rfl, hd, (by rw [kv_len]; have : sizeLine = 16777216 := sizeLine_eq; have := ok.t3; have := ok.w4; have := ok.r200; omega), ?_, fun b o e => ?_⟩
      · rw [upd_same, kv_new]
        refine congrArg (fun q => some (HO.dK q)) (kv_congr fun j hj => ?_)
        unfold setf
        split <;> rfl
      · rw [upd_ne (ne_of_none e hD)]
        exact sm b o e
    · rintro H7 ⟨hd, sm⟩
      rw [kv_len] at hd
      refine ⟨sm _ _ upd_same, ?_⟩
      have e8 : Same H6 (upd H7 td (.dK (kv ((1 + t : Nat) : Int) (t + w + r) fun j => .ref (tl j)))) := fun b o e => by
        by_cases c : b = td
        · subst c
          rw [upd_same]
          exact G6.d.symm.trans e
        · rw [upd_ne c]
          refine sm b o ?_
          rw [upd_ne c]
          exact e
      have hd8 : upd H7 td (.dK (kv ((1 + t : Nat) : Int) (t + w + r) fun j => .ref (tl j))) D = some (.dK (kv ((1 + t : Nat) : Int) (t + w + r) fun _ => .int 0)) := by rw [upd_ne tdD.symm]; exact hd
      have nD6 : H6 D = none := by
        rw [upd_ne tdD.symm] at hD
        exact hD
      generalize hH8 : upd H7 td _ = H8 at e8 hd8 ⊢
      have pD : D ≠ p := (ne_of_none p6 nD6).symm
      refine ⟨_, rfl, p, M, dx, _, rfl, e8 _ _ p6, TM.cl, TM.nO, (by show 4 < 1000; decide), ?_⟩
      generalize hH9 : upd H8 p _ = H9
      have k9 : Keep p H6 H9 := by rw [← hH9]; exact (Keep.of e8).trans Keep.up
      have p9 : H9 p = some (.ins M dx [("layout", .ref a), ("count", .int 0), ("_passing", .ref pl), ("_trails", .ref td), ("_lost", .ref D)]) := by rw [← hH9]; exact upd_same
      have d9 : H9 D = some (.dK (kv ((1 + t : Nat) : Int) (t + w + r) fun _ => .int 0)) := by rw [← hH9, upd_ne pD]; exact hd8
      -- self._notes = no_notes(layout)
      have a9 := k9 _ _ (k6 _ _ (k4 _ _ (k2 _ _ ha pa.symm) pa.symm) pa.symm) pa.symm
      refine ⟨_, rfl, a, t, w, r, rfl, ⟨da, a9⟩, ok, fun nl na H10 hnl hlen hnd hall nnl s10 => ?_⟩
      refine ⟨_, rfl, p, M, dx, _, rfl, s10 _ _ p9, TM.cl, TM.nN, (by show 5 < 1000; decide), ?_⟩
      generalize hH11 : upd H10 p _ = H11
      have k10 : Keep p H10 H11 := by rw [← hH11]; exact Keep.up
      have k11 : Keep p H9 H11 := (Keep.of s10).trans k10
      have p11 : H11 p = some (.ins M dx [("layout", .ref a), ("count", .int 0), ("_passing", .ref pl), ("_trails", .ref td), ("_lost", .ref D), ("_notes", .ref nl)]) := by rw [← hH11]; exact upd_same
      have nlp : nl ≠ p := (ne_of_none p9 nnl).symm
      have nap : ∀ b, b ∈ na → b ≠ p := fun b hb => (ne_of_none p9 (hall b hb).2).symm
      -- self._log = []
      refine ⟨(by show 0 ≤ sizeLine; exact Nat.zero_le _), fun gl ngl => ?_⟩
      have glp : gl ≠ p := (ne_of_none p11 ngl).symm
      refine ⟨_, rfl, p, M, dx, _, rfl, (by rw [upd_ne glp.symm]; exact p11), TM.cl, TM.nG, (by show 6 < 1000; decide), ?_⟩
      generalize hH12 : upd (upd H11 gl _) p _ = H12
      have k12 : Keep p H11 H12 := by
        rw [← hH12]
        intro b o e h
        rw [upd_ne h, upd_ne (ne_of_none e ngl)]
        exact e
      have p12 : H12 p = some (.ins M dx [("layout", .ref a), ("count", .int 0), ("_passing", .ref pl), ("_trails", .ref td), ("_lost", .ref D), ("_notes", .ref nl), ("_log", .ref gl)]) := by rw [← hH12]; exact upd_same
      have g12 : H12 gl = some (.lst []) := by rw [← hH12, upd_ne glp, upd_same]
      have k6z : Keep p H6 H12 := (k9.trans k11).trans k12
      have k4z : Keep p H4 H12 := k6.trans k6z
      have pl12 := k4z _ _ e4 plp
      have et : (t : Int).toNat = t := by omega
      rw [et] at pl12
      have kz : Keep p H H12 := (k2.trans k4).trans k4z
      have nl11 : H11 nl = some (.lst (na.map V.ref)) := k10 _ _ hnl nlp
      have pl4 : H4 pl ≠ none := by rw [e4]; intro z; cases z
      have frN : ∀ {b : Addr}, b ≠ p → H4 b = none → H b = none := fun {b} hb e => by
        cases q : H b with
        | none => rfl
        | some o =>
          have := k4 _ _ (k2 _ _ q hb) hb
          rw [e] at this
          cases this
      have frN2 : ∀ {b : Addr}, b ≠ p → H6 b = none → H4 b = none := fun {b} hb e => by
        cases q : H4 b with
        | none => rfl
        | some o =>
          have := k6 _ _ q hb
          rw [e] at this
          cases this
      have frN3 : ∀ {b : Addr}, b ≠ p → H9 b = none → H6 b = none := fun {b} hb e => by
        cases q : H6 b with
        | none => rfl
        | some o =>
          have := k9 _ _ q hb
          rw [e] at this
          cases this
      have frN4 : ∀ {b : Addr}, b ≠ p → H11 b = none → H9 b = none := fun {b} hb e => by
        cases q : H9 b with
        | none => rfl
        | some o =>
          have := k11 _ _ q hb
          rw [e] at this
          cases this
      refine k ⟨a, pl, td, D, nl, gl, tl, na⟩ tr H12 rfl ⟨⟨dx, p12⟩, ⟨da, k12 _ _ (k11 _ _ a9 pa.symm) pa.symm⟩, pl12, ⟨k6z _ _ G6.d tdp, fun j hj => k6z _ _ (G6.l j hj) (tlp j hj), G6.inj⟩, k12 _ _ (k11 _ _ d9 pD) pD, k12 _ _ nl11 nlp, hlen, hnd, ?_, g12, ?_, ?_, ?_, ?_, pa⟩ ?_ kz ?_
      · intro i b hb
        have hm := List.mem_of_getElem? hb
        refine ⟨[], ?_, k12 _ _ (k10 _ _ (hall b hm).1 (nap b hm)) (nap b hm)⟩
        have hi : i < t := by
          have q : i < na.length := (List.getElem?_eq_some_iff.mp hb).1
          omega
        show (List.replicate t ([] : List (Key × V)))[i]? = some []
        rw [List.getElem?_replicate, if_pos hi]
      · intro j hj
        have e6 := k6z
        refine ⟨fun e => ?_, fun e => ?_, fun e => ?_⟩
        · have := R.new j hj
          have e : tl j = pl := e
          rw [e] at this
          exact pl4 this
        · have e : tl j = gl := e
          have := k11 _ _ (k9 _ _ (G6.l j hj) (tlp j hj)) (tlp j hj)
          rw [e, ngl] at this
          cases this
        · have e : tl j = nl := e
          have := k9 _ _ (G6.l j hj) (tlp j hj)
          rw [e, nnl] at this
          cases this
      · have q9 := k9 _ _ (k6 _ _ e4 plp) plp
        have q11 := k11 _ _ q9 plp
        refine ⟨fun e => ?_, fun e => ?_, fun e => ?_⟩
        · have e : pl = gl := e
          rw [e, ngl] at q11
          cases q11
        · have e : pl = nl := e
          rw [e, nnl] at q9
          cases q9
        · have e : gl = nl := e
          rw [← e, ngl] at nl11
          cases nl11
      · exact tdD
      · intro b hb
        have e9 := (hall b hb).2
        refine ⟨fun e => ?_, fun e => ?_⟩
        · have e : b = td := e
          have := k9 _ _ G6.d tdp
          rw [← e, e9] at this
          cases this
        · have e : b = D := e
          rw [← e, e9] at d9
          cases d9
      · intro j hj
        obtain ⟨v, e1, e2⟩ := R.ini j hj
        exact ⟨v, e1, e2⟩
      · intro b hb
        by_cases hbp : b = p
        · exact .inl hbp
        · refine .inr ?_
          rcases hb with e | e | e | e | e | e | ⟨j, hj, e⟩ | e
          · exact absurd e hbp
          · have e : b = pl := e
            rw [e]
            cases q : H pl with
            | none => rfl
            | some o =>
              have := k2 _ _ q plp
              rw [npl] at this
              cases this
          · have e : b = td := e
            rw [e]
            exact frN tdp R.nD
          · have e : b = D := e
            rw [e]
            exact frN pD (frN2 pD nD6)
          · have e : b = nl := e
            rw [e]
            exact frN nlp (frN2 nlp (frN3 nlp nnl))
          · have e : b = gl := e
            rw [e]
            exact frN glp (frN2 glp (frN3 glp (frN4 glp ngl)))
          · have e : b = tl j := e
            rw [e]
            exact frN (tlp j hj) (R.new j hj)
          · exact frN hbp (frN2 hbp (frN3 hbp (hall b e).2))
end
end Dk

set_option maxHeartbeats 4000000
/-! a memory is looked at -/
namespace Dk
open PySem PySem.Spec PyProof.Rows L2
abbrev sPeek : Stmt := inClass (top 25) 2
abbrev sLasting : Stmt := inClass (top 25) 3
abbrev sTrail : Stmt := inClass (top 25) 4
abbrev sAsk : Stmt := inClass (top 25) 8
/-- the present value of the cell i -/
def cellV (S : MS) (t i : Nat) : Option V := if i < 1 + t then S.ps[i]? else (S.tr (i - (1 + t))).getLast?
theorem inW_nat {n i : Nat} : inW 0 (((n : Nat) : Int) - 1) (.int (i : Int)) = decide (i < n) := by
  show (decide ((0 : Int) ≤ (i : Int)) && decide ((i : Int) ≤ (n : Int) - 1)) = _
  by_cases c : i < n
  · rw [decide_eq_true c, decide_eq_true (by omega), decide_eq_true (by omega)]
    rfl
  · rw [decide_eq_false c, decide_eq_false (p := (i : Int) ≤ (n : Int) - 1) (by omega)]
    exact Bool.and_false _
theorem lastB_nat {t w r i : Nat} : lastB (t : Int) w r (.int (i : Int)) = decide (1 + t ≤ i ∧ i < 1 + t + (t + w + r)) := by
  unfold lastB
  rw [cells_n, inW_nat, first_n]
  show (decide (i < 1 + t + (t + w + r)) && decide (((1 + t : Nat) : Int) ≤ (i : Int))) = _
  by_cases c : i < 1 + t + (t + w + r)
  · by_cases d : 1 + t ≤ i
    · rw [decide_eq_true c, decide_eq_true (by omega), decide_eq_true ⟨d, c⟩]
      rfl
    · rw [decide_eq_true c, decide_eq_false (p := ((1 + t : Nat) : Int) ≤ (i : Int)) (by omega), decide_eq_false (p := 1 + t ≤ i ∧ i < 1 + t + (t + w + r)) (fun z => d z.1)]
      rfl
  · rw [decide_eq_false c, decide_eq_false (p := 1 + t ≤ i ∧ i < 1 + t + (t + w + r)) (fun z => c z.2)]
    rfl
theorem recB_nat {t w r i : Nat} : recB (t : Int) w r (.int (i : Int)) = decide (1 + t + t + w ≤ i ∧ i < 1 + t + (t + w + r)) := by
  unfold recB
  rw [cells_n, inW_nat]
  show (decide (i < 1 + t + (t + w + r)) && decide (rec0 (t : Int) w + 0 ≤ (i : Int))) = _
  unfold rec0
  by_cases c : i < 1 + t + (t + w + r)
  · by_cases d : 1 + t + t + w ≤ i
    · rw [decide_eq_true c, decide_eq_true (by omega), decide_eq_true ⟨d, c⟩]
      rfl
    · rw [decide_eq_true c, decide_eq_false (p := (1 + (t : Int) + t + w + 0 ≤ (i : Int))) (by omega), decide_eq_false (p := 1 + t + t + w ≤ i ∧ i < 1 + t + (t + w + r)) (fun z => d z.1)]
      rfl
  · rw [decide_eq_false c, decide_eq_false (p := 1 + t + t + w ≤ i ∧ i < 1 + t + (t + w + r)) (fun z => c z.2)]
    rfl
theorem atI_getLast {xs : List V} {v : V} (h : xs.getLast? = some v) : atI xs (-1) = some v := by
  have : xs ≠ [] := by
    intro e
    rw [e] at h
    cases h
  have e := List.dropLast_concat_getLast this
  have h : xs.getLast this = v := by
    have e2 := List.getLast?_eq_some_getLast this
    rw [h] at e2
    exact (Option.some.inj e2).symm
  rw [h] at e
  rw [← e]
  exact atI_last _ _
def spPeek (C M : Addr) : Sp := fun vs H Q _ => ∃ (m : Addr) (t w r i : Nat) (A : Adr) (S : MS) (v : V), vs = [.ref m, .int (i : Int)] ∧ MemAt C M H m t w r A S ∧ i < 1 + t + (t + w + r) ∧ cellV S t i = some v ∧ Q v H
def spAsk (C M NV : Addr) : Sp := fun vs H Q E => ∃ (m : Addr) (t w r i : Nat) (A : Adr) (S : MS), vs = [.ref m, .int (i : Int)] ∧ MemAt C M H m t w r A S ∧
  ((1 + t ≤ i ∧ i < 1 + t + (t + w + r)) → Q .non H) ∧ (¬ (1 + t ≤ i ∧ i < 1 + t + (t + w + r)) → E (.ref NV) none H)
def spLasting (C M NV : Addr) : Sp := fun vs H Q E => ∃ (m : Addr) (t w r i : Nat) (A : Adr) (S : MS), vs = [.ref m, .int (i : Int)] ∧ MemAt C M H m t w r A S ∧
  ((1 + t ≤ i ∧ i < 1 + t + (t + w + r)) → ∃ v, (S.tr (i - (1 + t)))[0]? = some v ∧ Q v H) ∧ (¬ (1 + t ≤ i ∧ i < 1 + t + (t + w + r)) → E (.ref NV) none H)
def spTrail (C M NV : Addr) : Sp := fun vs H Q E => ∃ (m : Addr) (t w r i : Nat) (A : Adr) (S : MS), vs = [.ref m, .int (i : Int)] ∧ MemAt C M H m t w r A S ∧
  ((1 + t ≤ i ∧ i < 1 + t + (t + w + r)) → ∀ p, H p = none → Q (.ref p) (upd H p (.lst (S.tr (i - (1 + t)))))) ∧ (¬ (1 + t ≤ i ∧ i < 1 + t + (t + w + r)) → E (.ref NV) none H)
section
variable {P : Program} {w : World} {K : PySem.W.Frag} {mg : Str → Option Value} {base : Heap} {C M NV LE : Addr}
theorem scPeek : FnScope ["self", "cell"] ["self", "cell"] (defScope sPeek) := ⟨rfl, rfl, rfl, by decide +kernel, rfl, by decide +kernel, by decide +kernel⟩
theorem mo_peek (F : MT K M "peek" "Memory.peek" sPeek ["self", "cell"]) (T : LTxt K mg C) (TM : MTxt K M) (GI : MO P w K mg base CX0 C 6 "is_cell" ["self", "cell"] (spLV C fun t w r v => .bl (inW 0 (cells t w r - 1) v)))
    (GL : MO P w K mg base CX0 C 7 "is_lasting" ["self", "cell"] (spLV C fun t w r v => .bl (lastB t w r v))) : MO P w K mg base CX0 M 8 "peek" ["self", "cell"] (spPeek C M) := by
  obtain ⟨f, fd, F, hm, hb⟩ := F
  refine ⟨f, fd, ?_, hm, hb⟩
  refine F.ok scPeek (fun vs H Q E h => ?_) (fun cdv A outer s H vs Q E hr h => ?_)
  · obtain ⟨m, t, w, r, i, A, S, v, rfl, _⟩ := h
    rfl
  · obtain ⟨m, t, w, r, i, B, S, v, rfl, D, hi, hv, k⟩ := h
    obtain ⟨dx, h1⟩ := D.ob
    obtain ⟨da, ha⟩ := D.lay
    have hu := hu_of hr
    refine ⟨_, pss_cons (ps_if (pt_not (pt_val (pm_ GI T.cl (hr.mono (by decide)) (pe_fld (pv 0) rfl) (pa_cons (pv 1) pa_nil)))) (pss_one ps_never) pss_nil)
      (pss_cons (ps_if (pt_val (pm_ GL T.cl hr (pe_fld (pv 0) rfl) (pa_cons (pv 1) pa_nil))) (pss_one (ps_ret (pe_ix ix_list (pe_dget hu (pe_fld (pv 0) rfl) (pv 1) (fun _ _ => rfl)) (pe_un un_neg pe_int) (fun _ _ => rfl)))) pss_nil)
      (pss_one (ps_ret (pe_ix ix_list (pe_fld (pv 0) rfl) (pv 1) (fun _ _ => rfl))))), ?_⟩
    refine ⟨_, rfl, m, M, dx, _, _, rfl, h1, TM.cl, TM.nL, rfl, B.a, da, _, rfl, ha, rfl, _, rfl, B.a, t, w, r, _, "int", rfl, rfl, ⟨da, ha⟩, _, rfl, ?_⟩
    rw [cells_n, inW_nat, decide_eq_true hi]
    refine iteF ?_
    refine ⟨_, rfl, m, M, dx, _, _, rfl, h1, TM.cl, TM.nL, rfl, B.a, da, _, rfl, ha, rfl, _, rfl, B.a, t, w, r, _, "int", rfl, rfl, ⟨da, ha⟩, _, rfl, ?_⟩
    rw [lastB_nat]
    unfold cellV at hv
    by_cases c : i < 1 + t
    · rw [if_pos c] at hv
      rw [decide_eq_false (by omega)]
      refine iteF ?_
      exact ⟨_, rfl, m, M, dx, _, _, rfl, h1, TM.cl, TM.nP, rfl, _, rfl, B.pl, _, _, _, rfl, rfl, SqL.of D.ps, atI_nat hv, k⟩
    · rw [if_neg c] at hv
      rw [decide_eq_true (by omega)]
      refine iteT ?_
      have hj : i - (1 + t) < t + w + r := by omega
      have ei : ((1 + t : Nat) : Int) + ((i - (1 + t) : Nat) : Int) = (i : Int) := by omega
      have g : DGet H B.td (.int (i : Int)) (some (.ref (B.tl (i - (1 + t))))) := by
        have := DGet.k (k := (Sum.inl (i : Int) : Key)) D.tr.d
        rw [← ei, kv_val _ _ _ _ hj, ei] at this
        exact this
      exact ⟨_, rfl, m, M, dx, _, _, rfl, h1, TM.cl, TM.nT, rfl, _, rfl, B.td, _, rfl, g, 1, rfl, B.tl (i - (1 + t)), _, _, _, rfl, rfl, SqL.of (D.tr.l _ hj), atI_getLast hv, k⟩
theorem scAsk : FnScope ["self", "cell"] ["self", "cell"] (defScope sAsk) := ⟨rfl, rfl, rfl, by decide +kernel, rfl, by decide +kernel, by decide +kernel⟩
theorem mo_ask (F : MT K M "_ask_lasting" "Memory._ask_lasting" sAsk ["self", "cell"]) (T : LTxt K mg C) (TM : MTxt K M) (X0 : XTxt K mg NV LE)
    (GL : MO P w K mg base CX0 C 7 "is_lasting" ["self", "cell"] (spLV C fun t w r v => .bl (lastB t w r v))) : MO P w K mg base (L2.CX P w) M 8 "_ask_lasting" ["self", "cell"] (spAsk C M NV) := by
  obtain ⟨f, fd, F, hm, hb⟩ := F
  refine ⟨f, fd, ?_, hm, hb⟩
  refine F.okX scAsk (fun vs H Q E h => ?_) (fun cdv A outer s H vs Q E hr h => ?_)
  · obtain ⟨m, t, w, r, i, A, S, rfl, _⟩ := h
    rfl
  · obtain ⟨m, t, w, r, i, B, S, rfl, D, k1, k2⟩ := h
    obtain ⟨dx, h1⟩ := D.ob
    obtain ⟨da, ha⟩ := D.lay
    refine ⟨_, pss_one (ps_if (pt_not (pt_val (pm_ GL T.cl hr (pe_fld (pv 0) rfl) (pa_cons (pv 1) pa_nil))))
      (pss_one (ps_raise rfl (takes_of rfl rfl rfl rfl) (pmk_own0 PySem.F.excBase_ValueError X0.xN X0.gN X0.kN (raises_own X0.sN X0.tN) rfl))) pss_nil), ?_⟩
    refine ⟨_, rfl, m, M, dx, _, _, rfl, h1, TM.cl, TM.nL, rfl, B.a, da, _, rfl, ha, rfl, _, rfl, B.a, t, w, r, _, "int", rfl, rfl, ⟨da, ha⟩, _, rfl, ?_⟩
    rw [lastB_nat]
    by_cases c : 1 + t ≤ i ∧ i < 1 + t + (t + w + r)
    · rw [decide_eq_true c]
      exact iteF (k1 c)
    · rw [decide_eq_false c]
      exact iteT (k2 c)
theorem scLasting : FnScope ["self", "cell"] ["self", "cell"] (defScope sLasting) := ⟨rfl, rfl, rfl, by decide +kernel, rfl, by decide +kernel, by decide +kernel⟩
theorem mo_lasting (F : MT K M "lasting" "Memory.lasting" sLasting ["self", "cell"]) (TM : MTxt K M) (GA : MO P w K mg base (L2.CX P w) M 8 "_ask_lasting" ["self", "cell"] (spAsk C M NV)) :
    MO P w K mg base (L2.CX P w) M 9 "lasting" ["self", "cell"] (spLasting C M NV) := by
  obtain ⟨f, fd, F, hm, hb⟩ := F
  refine ⟨f, fd, ?_, hm, hb⟩
  refine F.okX scLasting (fun vs H Q E h => ?_) (fun cdv A outer s H vs Q E hr h => ?_)
  · obtain ⟨m, t, w, r, i, A, S, rfl, _⟩ := h
    rfl
  · obtain ⟨m, t, w, r, i, B, S, rfl, D, k1, k2⟩ := h
    obtain ⟨dx, h1⟩ := D.ob
    have hu := hu_of hr
    refine ⟨_, pss_cons (ps_expr (pmE_ (E := fun _ => E) GA TM.cl hr (fun σ => passAt (takes_of rfl rfl rfl rfl) σ) (pv 0) (pa_cons (pv 1) pa_nil)))
      (pss_one (ps_ret (pe_ix ix_list (pe_dget hu (pe_fld (pv 0) rfl) (pv 1) (fun _ _ => rfl)) pe_int (fun _ _ => rfl)))), ?_⟩
    refine ⟨_, rfl, m, dx, _, rfl, h1, rfl, _, rfl, m, t, w, r, i, B, S, rfl, D, fun c => ?_, k2⟩
    obtain ⟨v, hv, q⟩ := k1 c
    have hj : i - (1 + t) < t + w + r := by omega
    have ei : ((1 + t : Nat) : Int) + ((i - (1 + t) : Nat) : Int) = (i : Int) := by omega
    have g : DGet H B.td (.int (i : Int)) (some (.ref (B.tl (i - (1 + t))))) := by
      have := DGet.k (k := (Sum.inl (i : Int) : Key)) D.tr.d
      rw [← ei, kv_val _ _ _ _ hj, ei] at this
      exact this
    exact ⟨_, rfl, m, M, dx, _, _, rfl, h1, TM.cl, TM.nT, rfl, _, rfl, B.td, _, rfl, g, B.tl (i - (1 + t)), _, _, _, rfl, rfl, SqL.of (D.tr.l _ hj), atI_nat (j := 0) hv, q⟩
theorem scTrail : FnScope ["self", "cell"] ["self", "cell"] (defScope sTrail) := ⟨rfl, rfl, rfl, by decide +kernel, rfl, by decide +kernel, by decide +kernel⟩
theorem mo_trail (F : MT K M "trail" "Memory.trail" sTrail ["self", "cell"]) (T : LTxt K mg C) (TM : MTxt K M) (GA : MO P w K mg base (L2.CX P w) M 8 "_ask_lasting" ["self", "cell"] (spAsk C M NV)) :
    MO P w K mg base (L2.CX P w) M 9 "trail" ["self", "cell"] (spTrail C M NV) := by
  obtain ⟨f, fd, F, hm, hb⟩ := F
  refine ⟨f, fd, ?_, hm, hb⟩
  refine F.okX scTrail (fun vs H Q E h => ?_) (fun cdv A outer s H vs Q E hr h => ?_)
  · obtain ⟨m, t, w, r, i, A, S, rfl, _⟩ := h
    rfl
  · obtain ⟨m, t, w, r, i, B, S, rfl, D, k1, k2⟩ := h
    obtain ⟨dx, h1⟩ := D.ob
    have hu := hu_of hr
    refine ⟨_, pss_cons (ps_expr (pmE_ (E := fun _ => E) GA TM.cl hr (fun σ => passAt (takes_of rfl rfl rfl rfl) σ) (pv 0) (pa_cons (pv 1) pa_nil)))
      (pss_one (ps_ret (pe_callTy call_list_of (by rfl) T.bn.list (by decide +kernel) (pa_cons (pe_dget hu (pe_fld (pv 0) rfl) (pv 1) (fun _ _ => rfl)) pa_nil)))), ?_⟩
    refine ⟨_, rfl, m, dx, _, rfl, h1, rfl, _, rfl, m, t, w, r, i, B, S, rfl, D, fun c => ?_, k2⟩
    have q := k1 c
    have hj : i - (1 + t) < t + w + r := by omega
    have ei : ((1 + t : Nat) : Int) + ((i - (1 + t) : Nat) : Int) = (i : Int) := by omega
    have g : DGet H B.td (.int (i : Int)) (some (.ref (B.tl (i - (1 + t))))) := by
      have := DGet.k (k := (Sum.inl (i : Int) : Key)) D.tr.d
      rw [← ei, kv_val _ _ _ _ hj, ei] at this
      exact this
    exact ⟨_, rfl, m, M, dx, _, _, rfl, h1, TM.cl, TM.nT, rfl, _, rfl, B.td, _, rfl, g, B.tl (i - (1 + t)), _, rfl, .inl (SqL.of (D.tr.l _ hj)), q⟩
end
end Dk

set_option maxHeartbeats 4000000
/-! the tape of a law -/
namespace Dk
open PySem PySem.Spec PyProof.Rows L2
abbrev sTape : Stmt := top 27
abbrev sAt : Stmt := top 28
def Small (ms : List Int) : Prop := ∀ v, v ∈ ms → 0 ≤ v ∧ v < 1000
theorem Small.snoc {ms : List Int} {v : Int} (h : Small ms) (a : 0 ≤ v) (b : v < 1000) : Small (ms ++ [v]) := fun x hx => by
  rcases List.mem_append.mp hx with m | m
  · exact h x m
  · rw [List.mem_singleton.mp m]
    exact ⟨a, b⟩
def atD (ms : List Int) (k : Nat) : Int := (ms[k]?).getD 0
theorem atD_small {ms : List Int} {k : Nat} (h : Small ms) : 0 ≤ atD ms k ∧ atD ms k < 1000 := by
  unfold atD
  cases e : ms[k]? with
  | none => exact ⟨by decide, by decide⟩
  | some v => exact h v (List.mem_of_getElem? e)
def spTape (K : PySem.W.Frag) : Sp := fun vs H Q _ => ∃ (a : Addr) (ns : List Int), vs = [.ref a] ∧ SqL K H a (ns.map V.int) ∧ ns.length ≤ 63 ∧
  ∀ (p : Addr) (ms : List Int) (H' : Hp), H p = none → H' p = some (.lst (ms.map V.int)) → Small ms → ms.length ≤ 3780 → Same H H' → Q (.ref p) H'
def spAt (K : PySem.W.Frag) : Sp := fun vs H Q _ => ∃ (p : Addr) (ms : List Int) (k : Nat), vs = [.ref p, .int (k : Int)] ∧ SqL K H p (ms.map V.int) ∧ Q (.int (atD ms k)) H
section
variable {P : Program} {w : World} {K : PySem.W.Frag} {mg : Str → Option Value} {base : Heap}
theorem scTape : FnScope ["script", "tape", "k", "value", "step"] ["script"] (defScope sTape) := ⟨rfl, rfl, rfl, by decide +kernel, rfl, by decide +kernel, by decide +kernel⟩
theorem go_tape (F : GT K mg "_law_tape" sTape ["script"]) (T : Bn mg) : GO P w K mg base CX0 1 "_law_tape" ["script"] (spTape K) := by
  obtain ⟨f, fd, F, hm, hb⟩ := F
  refine ⟨f, fd, ?_, hm, F.kp, hb⟩
  refine F.ok scTape (fun vs H Q E h => ?_) (fun cdv A outer s H vs Q E hr h => ?_)
  · obtain ⟨a, ns, rfl, _⟩ := h
    rfl
  · obtain ⟨a, ns, rfl, hS, hlen, k⟩ := h
    have hsl : sizeLine = 16777216 := sizeLine_eq
    refine ⟨_, pss_cons (ps_set (i := 1) scTape.nd rfl (Or.inl rfl) (pe_lst pa_nil))
      (pss_cons (ps_for PassesOwn.never rfl (pi_range1 rfl T.range (pa_cons (pe_callB call_len_seq (by rfl) T.len PySem.boot_len (pa_cons (pv 0) pa_nil)) pa_nil)) (pg_name (i := 2) scTape.nd rfl (Or.inl rfl))
        (pss_cons (ps_set (i := 3) scTape.nd rfl (Or.inl rfl) (pe_callB call_abs (by rfl) T.abs (by decide +kernel) (pa_cons (pe_callTy call_int1 (by rfl) T.int (by decide +kernel) (pa_cons (pe_ix ix_list (pv 0) (pv 2) (fun _ _ => rfl)) pa_nil)) pa_nil)))
        (pss_one (ps_if (pt_cmpR op_ge (pv 3) (pe_op op_pow pe_int pe_int) (nomark _))
          (pss_one (ps_for PassesOwn.never rfl (pi_range1 rfl T.range (pa_cons pe_int pa_nil)) (pg_name (i := 4) scTape.nd rfl (Or.inl rfl))
            (pss_one (ps_if (pt_cmpR op_gt (pv 3) pe_int (nomark _))
              (pss_cons (ps_expr (pe_bm PySem.F.plainAttrs_list PySem.F.slot_list_append PySem.F.type_list_append mt_append (pv 1) (pa_cons (pe_op op_mod (pv 3) pe_int) pa_nil)))
              (pss_one (ps_set (i := 3) scTape.nd rfl (Or.inl rfl) (pe_op op_fdiv (pv 3) pe_int)))) pss_nil))))
          (pss_one (ps_for PassesOwn.never rfl (pi_range1 rfl T.range (pa_cons pe_int pa_nil)) (pg_name (i := 4) scTape.nd rfl (Or.inl rfl))
            (pss_cons (ps_set (i := 3) scTape.nd rfl (Or.inl rfl) (pe_op op_mod (pe_op op_add (pe_op op_add (pe_op op_mul (pv 3) pe_int) (pe_op op_mul pe_int (pe_op op_add (pv 2) pe_int))) (pe_op op_mul pe_int (pv 4))) pe_int))
            (pss_cons (ps_set (i := 3) scTape.nd rfl (Or.inl rfl) (pe_op op_mod (pe_op op_mul (pv 3) pe_int) pe_int))
            (pss_one (ps_expr (pe_bm PySem.F.plainAttrs_list PySem.F.slot_list_append PySem.F.type_list_append mt_append (pv 1) (pa_cons (pe_op op_mod (pe_op op_fdiv (pv 3) pe_int) pe_int) pa_nil))))))))))))
      (pss_one (ps_ret (pv 1)))), ?_⟩
    -- tape = []
    refine ⟨(by show 0 ≤ sizeLine; exact Nat.zero_le _), fun D hD => ?_⟩
    have s0 : Same H (upd H D (.lst [])) := fun b o e => by rw [upd_ne (ne_of_none e hD)]; exact e
    refine ⟨_, rfl, a, _, rfl, .inl (s0.seq hS), _, rfl, (by rw [List.length_map]; omega), (by rw [List.length_map]; omega), for_range (lo := 0) (n := ((ns.map V.int).length : Int).toNat)
      (fun i σ H2 => ∃ (x y z : Option V) (ms : List Int), σ = [some (.ref a), some (.ref D), x, y, z] ∧ H2 D = some (.lst (ms.map V.int)) ∧ Small ms ∧ ms.length ≤ 60 * i ∧ Same H H2) ⟨_, _, _, [], rfl, upd_same, fun v h => by simp at h, by simp, s0⟩ ?_ ?_⟩
    · rintro i σ H2 hi ⟨x, y, z, ms, rfl, hl, sm, len, s2⟩
      have hi' : i < ns.length := by
        rw [List.length_map] at hi
        omega
      have hv : (ns.map V.int)[i]? = some (V.int ns[i]) := by rw [List.getElem?_map, List.getElem?_eq_getElem hi']; rfl
      refine ⟨_, rfl, _, rfl, a, _, _, _, rfl, rfl, s2.seq hS, at_of (j := i) (by omega) hv, .inl ⟨_, rfl, _, rfl, ?_⟩⟩
      generalize hval : (if ns[i] < 0 then -ns[i] else ns[i]) = val
      refine ⟨_, rfl, _, _, rfl, rfl, ⟨by decide, by decide, by decide⟩, _, _, rfl, rfl, _, rfl, ite2 (fun _ => ?_) (fun _ => ?_)⟩
      · refine ⟨60, rfl, by decide, by decide, for_range (lo := 0) (n := (60 : Int).toNat)
          (fun l σ H2 => ∃ (val : Int) (z : Option V) (ms' : List Int), σ = [some (.ref a), some (.ref D), some (.int (0 + (i : Int))), some (.int val), z] ∧ H2 D = some (.lst (ms'.map V.int)) ∧ Small ms' ∧ ms'.length ≤ ms.length + l ∧ Same H H2) ⟨_, _, ms, rfl, hl, sm, by omega, s2⟩ ?_ ?_⟩
        · rintro l σ H3 hl3 ⟨val3, z3, ms3, rfl, hl3', sm3, len3, s3⟩
          refine ⟨_, rfl, _, _, rfl, rfl, _, rfl, ite2 (fun _ => ?_) (fun _ => ?_)⟩
          · refine ⟨_, rfl, .inl ⟨rfl, _, SqL.of hl3'⟩, _, rfl, _, _, rfl, rfl, (by show (0 : Int) < 1000; decide), D, _, _, rfl, rfl, hl3', ?_, ?_⟩
            · rw [List.length_map]
              have : (60 : Int).toNat = 60 := rfl
              omega
            · refine ⟨_, rfl, _, _, rfl, rfl, ⟨by decide, by decide⟩, ?_⟩
              refine ⟨_, _, ms3 ++ [val3 % 1000], rfl, ?_, sm3.snoc (Int.emod_nonneg _ (by decide)) (Int.emod_lt_of_pos _ (by decide)), ?_, fun b o e => ?_⟩
              · rw [upd_same, List.map_append]
                rfl
              · rw [List.length_append, List.length_singleton]
                omega
              · rw [upd_ne (ne_of_none e hD)]
                exact s3 b o e
          · exact ⟨_, _, ms3, rfl, hl3', sm3, by omega, s3⟩
        · rintro σ H3 ⟨val3, z3, ms3, rfl, hl3', sm3, len3, s3⟩
          exact ⟨_, _, _, ms3, rfl, hl3', sm3, (by have : (60 : Int).toNat = 60 := rfl; omega), s3⟩
      · refine ⟨4, rfl, by decide, by decide, for_range (lo := 0) (n := (4 : Int).toNat)
          (fun l σ H2 => ∃ (val : Int) (z : Option V) (ms' : List Int), σ = [some (.ref a), some (.ref D), some (.int (0 + (i : Int))), some (.int val), z] ∧ H2 D = some (.lst (ms'.map V.int)) ∧ Small ms' ∧ ms'.length ≤ ms.length + l ∧ Same H H2) ⟨_, _, ms, rfl, hl, sm, by omega, s2⟩ ?_ ?_⟩
        · rintro l σ H3 hl3 ⟨val3, z3, ms3, rfl, hl3', sm3, len3, s3⟩
          refine ⟨_, rfl, _, _, rfl, rfl, .inr ⟨by decide, by decide⟩, _, rfl, _, _, rfl, rfl, _, _, rfl, rfl, .inl ⟨by decide, by decide⟩, _, _, rfl, rfl, _, rfl, _, _, rfl, rfl, .inl ⟨by decide, by decide⟩, _, _, rfl, rfl, _, _, rfl, rfl, (by show (0 : Int) < 2147483647; decide), ?_⟩
          refine ⟨_, rfl, _, _, rfl, rfl, .inr ⟨by decide, by decide⟩, _, _, rfl, rfl, (by show (0 : Int) < 2147483647; decide), ?_⟩
          refine ⟨_, rfl, .inl ⟨rfl, _, SqL.of hl3'⟩, _, rfl, _, _, rfl, rfl, ⟨by decide, by decide⟩, _, _, rfl, rfl, (by show (0 : Int) < 1000; decide), D, _, _, rfl, rfl, hl3', ?_, ?_⟩
          · rw [List.length_map]
            have : (4 : Int).toNat = 4 := rfl
            omega
          · refine ⟨_, _, ms3 ++ [((val3 * 48271 + 69621 * (0 + (i : Int) + 1) + 7 * (0 + (l : Int))) % 2147483647 * 16807 % 2147483647 / 1000) % 1000], rfl, ?_, sm3.snoc (Int.emod_nonneg _ (by decide)) (Int.emod_lt_of_pos _ (by decide)), ?_, fun b o e => ?_⟩
            · rw [upd_same, List.map_append]
              rfl
            · rw [List.length_append, List.length_singleton]
              omega
            · rw [upd_ne (ne_of_none e hD)]
              exact s3 b o e
        · rintro σ H3 ⟨val3, z3, ms3, rfl, hl3', sm3, len3, s3⟩
          exact ⟨_, _, _, ms3, rfl, hl3', sm3, (by have : (4 : Int).toNat = 4 := rfl; omega), s3⟩
    · rintro σ H2 ⟨x, y, z, ms, rfl, hl, sm, len, s2⟩
      exact ⟨_, rfl, k D ms H2 hD hl sm (by rw [List.length_map] at len; omega) s2⟩
theorem scAt : FnScope ["tape", "k"] ["tape", "k"] (defScope sAt) := ⟨rfl, rfl, rfl, by decide +kernel, rfl, by decide +kernel, by decide +kernel⟩
theorem go_at (F : GT K mg "_law_at" sAt ["tape", "k"]) (T : Bn mg) : GO P w K mg base CX0 1 "_law_at" ["tape", "k"] (spAt K) := by
  obtain ⟨f, fd, F, hm, hb⟩ := F
  refine ⟨f, fd, ?_, hm, F.kp, hb⟩
  refine F.ok scAt (fun vs H Q E h => ?_) (fun cdv A outer s H vs Q E hr h => ?_)
  · obtain ⟨p, ms, k, rfl, _⟩ := h
    rfl
  · obtain ⟨p, ms, i, rfl, hS, k⟩ := h
    refine ⟨_, pss_cons (ps_if (pt_cmpR op_lt (pv 1) (pe_callB call_len_seq (by rfl) T.len PySem.boot_len (pa_cons (pv 0) pa_nil)) (nomark _)) (pss_one (ps_ret (pe_ix ix_list (pv 0) (pv 1) (fun _ _ => rfl)))) pss_nil)
      (pss_one (ps_ret pe_int)), ?_⟩
    refine ⟨_, rfl, _, rfl, p, _, rfl, .inl hS, _, _, rfl, rfl, _, rfl, ite2 (fun c => ?_) (fun c => ?_)⟩
    · have hi : i < ms.length := by
        have c := of_decide_eq_true c
        rw [List.length_map] at c
        omega
      have hv : (ms.map V.int)[i]? = some (V.int ms[i]) := by rw [List.getElem?_map, List.getElem?_eq_getElem hi]; rfl
      have ea : atD ms i = ms[i] := by unfold atD; rw [List.getElem?_eq_getElem hi]; rfl
      rw [ea] at k
      exact ⟨_, rfl, _, rfl, p, _, _, _, rfl, rfl, hS, atI_nat hv, k⟩
    · have hi : ¬ i < ms.length := fun h => c (decide_eq_true (by rw [List.length_map]; omega))
      have ea : atD ms i = 0 := by unfold atD; rw [List.getElem?_eq_none (by omega)]; rfl
      rw [ea] at k
      exact k
end
end Dk

set_option maxHeartbeats 4000000
/-! match over a tuple whose first item is a text -/
namespace Dk
open PySem PySem.Spec PyProof.Rows L2
/-- the captures of a pattern: names, each in its slot -/
inductive Caps (X : Cx) : List Pattern → List Str → List Nat → Prop where
  | nil : Caps X [] [] []
  | cons {n : Str} {i : Nat} {pos : Pos} {ps : List Pattern} {ns : List Str} {is : List Nat} (hi : X.N[i]? = some n) (hl : X.env.scope.names.lookup n = some .local) (h : Caps X ps ns is) : Caps X (.MatchAs none (some n) pos :: ps) (n :: ns) (i :: is)
theorem Caps.len {X : Cx} {ps : List Pattern} {ns : List Str} {is : List Nat} (h : Caps X ps ns is) : ns.length = ps.length ∧ is.length = ps.length := by
  induction h with
  | nil => exact ⟨rfl, rfl⟩
  | cons _ _ _ ih => exact ⟨by simp [ih.1], by simp [ih.2]⟩
theorem Caps.noStar {X : Cx} {ps : List Pattern} {ns : List Str} {is : List Nat} (h : Caps X ps ns is) : ∀ p, p ∈ ps → p.isStar = false := by
  induction h with
  | nil => intro p hp; cases hp
  | cons _ _ _ ih =>
    intro p hp
    rcases List.mem_cons.mp hp with e | m
    · subst e
      rfl
    · exact ih p m
/-- the slots stored one after the other -/
def setAll : L2.St → List Nat → List V → L2.St
  | σ, i :: is, v :: vs => setAll (σ.set i (some v)) is vs
  | σ, _, _ => σ
section
variable {X : Cx}
theorem caps_match {A : Around} {E : Value → Shared → Prop} {s : Shared} {Q : Option (List (Str × Value)) → Shared → Prop} {ps : List Pattern} {ns : List Str} {is : List Nat} (h : Caps X ps ns is) :
    ∀ {us : List Value}, us.length = ps.length → Q (some (ns.zip us)) s → wpAny (model X.prog X.w) A (matchEach ps X.env us) Q E s := by
  induction h generalizing Q with
  | nil =>
    intro us hl q
    cases us with
    | nil => exact wpAny_matchEach_nil q
    | cons _ _ => cases hl
  | @cons n i pos ps ns is hi hl h ih =>
    intro us hlen q
    cases us with
    | nil => cases hlen
    | cons u us =>
      refine wpAny_matchEach_cons (wpAny_matchPattern_Capture ?_)
      exact ih (by simpa using hlen) q
theorem caps_assign {ps : List Pattern} {ns : List Str} {is : List Nat} (h : Caps X ps ns is) (hN : X.N.Nodup) : ∀ {pins : List (Addr × Obj)} {s : Shared} {σ : L2.St} {H : Hp} {E : Value → Shared → Prop} {Q : Unit → Shared → Prop} {vs : List V} {us : List Value}, Inv X pins σ H s → Vals vs us → us.length = ns.length →
    (∀ s', Inv X pins (setAll σ is vs) H s' → Q () s') → wpAny (model X.prog X.w) X.A (assignInOrder ((ns.zip us).map fun (n, _) => bindName X.env n) ((ns.zip us).map (·.2))) Q E s := by
  induction h with
  | nil =>
    intro pins s σ H E Q vs us I r hl q
    refine wpAny_assignInOrder_none (q s ?_)
    cases vs <;> exact I
  | @cons n i pos ps ns is hi hl h ih =>
    intro pins s σ H E Q vs us I r hlen q
    cases r with
    | nil => cases hlen
    | @cons v u vs us rv rs =>
      show wpAny _ _ (assignInOrder ((fun (n, _) => bindName X.env n) (n, u) :: (ns.zip us).map fun (n, _) => bindName X.env n) (u :: (ns.zip us).map (·.2))) _ _ _
      refine wpAny_assignInOrder_more ?_
      show wpAny _ _ (bindName X.env n u) _ _ _
      refine wpAny_bindName (store_ok I hN hi (.inl hl) rv (fun s1 I1 => ?_) (.inr hl))
      exact ih I1 rs (by simpa using hlen) q
/-- the cases of a match whose subject is a tuple -/
structure PMs (X : Cx) (cs : List MatchCase) (t : Addr → List V → TS) : Prop where
  run : ∀ (fst : Bool) (pins : List (Addr × Obj)) (s : Shared) (σ : L2.St) (H : Hp) (D : Ends) (a : Addr) (xs : List V), Inv X pins σ H s → SqT X.K H a xs → t a xs D σ H → wpAny (model X.prog X.w) X.A (matchCases cs X.env (.ref a) fst) (SP X pins D) X.xe s
def mNil : Addr → List V → TS := fun _ _ D σ H => D.nx σ H
theorem pms_nil : PMs X [] mNil := ⟨fun fst pins s σ H D a xs I q h => wpAny_matchCases_nil ⟨σ, H, I, h⟩⟩
/-- case ("kind", a, b, ..) -/
def mCase (kind : Str) (is : List Nat) (tb : TS) (tr : Addr → List V → TS) : Addr → List V → TS := fun a xs D σ H =>
  if xs.length = is.length + 1 then ∃ z ys, xs = .str z :: ys ∧ (if z = kind then tb D (setAll σ is ys) H else tr a xs D σ H) else tr a xs D σ H
theorem pms_case {kind : Str} {j : Nat} {p1 p2 pos : Pos} {ps : List Pattern} {ns : List Str} {is : List Nat} {body : List Stmt} {rest : List MatchCase} {tb : TS} {tr : Addr → List V → TS} (hc : X.calm = true) (hN : X.N.Nodup) (h : Caps X ps ns is) (hb : PSs X body tb) (hr : PMs X rest tr) :
    PMs X (⟨.MatchSequence (.MatchValue (.Constant (.str kind) j p1) p2 :: ps) pos, none, body⟩ :: rest) (mCase kind is tb tr) := by
  refine ⟨fun fst pins s σ H D a xs I q hw => ?_⟩
  obtain ⟨its, rv, ht, hz⟩ := I.tuple q
  have hsl : sizeLine = 16777216 := sizeLine_eq
  have hfit : ((its.toArray.size : Nat) : Int) < 2 ^ 63 := by
    rw [List.size_toArray, ← rv.length]
    omega
  have hstar : (Pattern.MatchValue (.Constant (.str kind) j p1) p2 :: ps).findIdx? (·.isStar) = none := by
    refine List.findIdx?_eq_none_iff.mpr fun p hp => ?_
    rcases List.mem_cons.mp hp with e | m
    · subst e
      rfl
    · exact h.noStar p m
  have hwild : ((Pattern.MatchValue (.Constant (.str kind) j p1) p2 :: ps).all fun p => p.isWildcard || (p.isStar && p.names.isEmpty)) = false := by
    rw [List.all_cons]
    rfl
  unfold mCase at hw
  refine wpAny_matchCases_cons ?_
  by_cases hlen : xs.length = is.length + 1
  · rw [if_pos hlen] at hw
    obtain ⟨z, ys, rfl, hw⟩ := hw
    have hsz : its.toArray.size = (Pattern.MatchValue (.Constant (.str kind) j p1) p2 :: ps).length := by
      rw [List.size_toArray, ← rv.length, hlen, h.len.2]
      rfl
    refine matchSeq_tuple_hit ht hfit hsz ?_ hstar hwild
    have ht' : IsTup (({ s with toks := s.toks + 1 + 1 } : Shared)).heap a its.toArray := ht
    rw [← hsz]
    refine unpackItems_tuple (I.ok.hd hc) ht' fun h' hx => ?_
    have I1 : Inv X pins σ H { s with heap := h', toks := s.toks + 1 + 1 } := I.kept (t' := s.toks + 1 + 1) fun b o e => hx b o (Nat.ne_of_lt (Heap.lt_size e)) e
    show wpAny _ _ (matchEach _ _ its.toArray.toList) _ _ _
    rw [List.toList_toArray]
    cases rv with
    | @cons _ u _ us ru rs =>
      refine wpAny_matchEach_cons ?_
      refine wpAny_matchPattern_Value ?_
      refine thn ((pe_str (X := X) (x := kind) (j := j) (pos := p1)).run pins _ σ H (fun y H1 => y = .str kind ∧ H1 = H) I1 ⟨rfl, rfl⟩) fun ku s2 ⟨y, H2, I2, r2, ey, eH⟩ => ?_
      subst ey
      subst eH
      refine thn (op_eq pins s2 σ H2 (.str z) (.str kind) u ku (fun c H3 => c = .bl (decide (V.str z = V.str kind)) ∧ H3 = H2) I2 ru r2 ⟨rfl, rfl, rfl⟩) fun cv s3 ⟨c, H3, I3, r3, ec, eH⟩ => ?_
      subst ec
      subst eH
      cases r3
      refine wpAny_truthy_bool ?_
      have hus : us.length = ps.length := by
        have := rs.length
        have := h.len.2
        simp only [List.length_cons] at hlen
        omega
      by_cases hk : z = kind
      · rw [if_pos hk] at hw
        subst hk
        have et : decide (V.str z = V.str z) = true := decide_eq_true rfl
        rw [if_pos et]
        refine caps_match h hus ?_
        show wpAny _ _ (assignInOrder (((ns.zip us)).map fun (n, _) => bindName X.env n) ((ns.zip us).map (·.2))) _ _ _
        refine caps_assign h hN I3 rs (by rw [hus, h.len.1]) fun s4 I4 => ?_
        exact hb.run pins s4 _ _ D I4 hw
      · rw [if_neg hk] at hw
        have et : decide (V.str z = V.str kind) = false := decide_eq_false fun e => hk (V.str.inj e)
        rw [if_neg (by rw [et]; exact Bool.false_ne_true)]
        exact hr.run false pins s3 σ _ D a _ I3 q hw
  · rw [if_neg hlen] at hw
    have hsz : its.toArray.size ≠ (Pattern.MatchValue (.Constant (.str kind) j p1) p2 :: ps).length := by
      rw [List.size_toArray, ← rv.length]
      have := h.len.2
      simp only [List.length_cons]
      omega
    exact matchSeq_tuple_miss ht hfit hsz (hr.run false pins _ σ H D a xs (I.tok _) q hw) hstar hwild
/-- match e: .. -/
def tMatch (K : PySem.W.Frag) (te : TE) (tm : Addr → List V → TS) : TS := fun D σ H => te σ H fun x H1 => ∃ a xs, x = .ref a ∧ SqT K H1 a xs ∧ tm a xs D σ H1
theorem ps_match {e : Expr} {te : TE} {cs : List MatchCase} {tm : Addr → List V → TS} {pos : Pos} (he : PE X e te) (hm : PMs X cs tm) : PS X (.Match e cs pos) (tMatch X.K te tm) := by
  refine ⟨fun pins s σ H D I h => ?_⟩
  refine wpAny_Match (thn (he.run pins s σ H _ I h) fun u s1 ⟨x, H1, I1, r1, a, xs, ex, q, hw⟩ => ?_)
  subst ex
  cases r1
  exact hm.run true pins s1 σ H1 D a xs I1 q hw
end
end Dk

set_option maxHeartbeats 4000000
/-! del xs[a:c] -/
namespace Dk
open PySem PySem.Spec PyProof.Rows L2
def mySel (start stop step : Int) (i : Nat) : Bool :=
  if step > 0 then decide (start ≤ i) && decide ((i : Int) < stop) && ((i : Int) - start) % step == 0
  else decide (stop < i) && decide ((i : Int) ≤ start) && (start - (i : Int)) % (-step) == 0
theorem mySel_one {a c k : Nat} : mySel (a : Int) (c : Int) 1 k = (decide (a ≤ k) && decide (k < c)) := by
  unfold mySel
  rw [if_pos (by decide), Int.emod_one]
  have e1 : decide ((a : Int) ≤ (k : Int)) = decide (a ≤ k) := decide_eq_decide.mpr (by omega)
  have e2 : decide ((k : Int) < (c : Int)) = decide (k < c) := decide_eq_decide.mpr (by omega)
  rw [e1, e2]
  simp
def keepF (a c : Nat) : Value × Nat → Option Value := fun p => if mySel (a : Int) (c : Int) 1 p.2 = true then none else some p.1
theorem kept_eq {a c : Nat} (hac : a ≤ c) : ∀ (l : List Value) (m : Nat), (l.zipIdx m).filterMap (keepF a c) = l.take (a - m) ++ l.drop (c - m)
  | [], m => by simp
  | x :: l, m => by
    have ih := kept_eq hac l (m + 1)
    rw [List.zipIdx_cons, List.filterMap_cons]
    by_cases h1 : m < a
    · have e : keepF a c (x, m) = some x := by
        unfold keepF
        rw [mySel_one, decide_eq_false (by omega)]
        rfl
      rw [e, show a - m = (a - (m + 1)) + 1 by omega, show c - m = (c - (m + 1)) + 1 by omega]
      show x :: (l.zipIdx (m + 1)).filterMap (keepF a c) = _
      rw [ih]
      rfl
    · by_cases h2 : m < c
      · have e : keepF a c (x, m) = none := by
          unfold keepF
          rw [mySel_one, decide_eq_true (by omega), decide_eq_true h2]
          rfl
        rw [e, show a - m = 0 by omega, show c - m = (c - (m + 1)) + 1 by omega]
        show (l.zipIdx (m + 1)).filterMap (keepF a c) = _
        rw [ih, show a - (m + 1) = 0 by omega]
        rfl
      · have e : keepF a c (x, m) = some x := by
          unfold keepF
          rw [mySel_one, decide_eq_false (p := m < c) h2, Bool.and_false]
          rfl
        rw [e, show a - m = 0 by omega, show c - m = 0 by omega]
        show x :: (l.zipIdx (m + 1)).filterMap (keepF a c) = _
        rw [ih, show a - (m + 1) = 0 by omega, show c - (m + 1) = 0 by omega]
        rfl
section
variable {prog : Program} {w : World} {A : Around} {E : Value → Shared → Prop} {s : Shared}
theorem delItem_slice {l sl : Addr} {items : Array Value} {n : Nat} {vl vu : Value} {lo hi : Option Int} {a c : Nat} {Q : Unit → Shared → Prop}
    (e : s.heap.get? l = some { cls := .type "list", data := .seq items n }) (hs : s.heap.IsSliceOf sl vl vu .none) (pl : IsPart vl lo) (pu : IsPart vu hi) (hb : sliceBounds lo hi none items.size = ((a : Int), (c : Int), 1)) (hac : a ≤ c)
    (hsz : items.size ≤ sizeLine) (h : ∀ f : Array Value → Array Value, f items = (items.toList.take a ++ items.toList.drop c).toArray → Q () { s with heap := s.heap.update l (Obj.mapSeq f) }) :
    wpAny (model prog w) A (delItem (.ref l) (.ref sl)) Q E s := by
  have hl : s.heap.IsList l items := PySem.IsL.isList e
  obtain ⟨os, hos, hcs, hds⟩ := id hs
  have hTs : s.TypeIs (.ref sl) "slice" := ⟨os, hos, hcs⟩
  have hstep : ¬ ((rawPart none == rawInt 0) = true) := Bool.false_ne_true
  refine PySem.wpAny_delItem_slot hl.typeIs (by decide) PySem.F.slot_list_delitem ?_
  refine wpAny_call_entry PySem.F.slot_list_delitem hl.typeIs PySem.F.entry_list_delitem ?_ (PySem.F.args_list_delitem_2 _ _)
  show wpAny _ _ (Builtin.List.listSubscript? (.ref sl) >>= _) _ _ s
  refine wpAny_bind ?_
  unfold Builtin.List.listSubscript?
  refine wpAny_bind (wpAny_specialOf hTs slice_no_index ?_)
  simp only [Option.isNone_none, if_true]
  refine wpAny_pure ?_
  show wpAny _ _ (typeOf (.ref sl) >>= _) _ _ s
  refine wpAny_bind (wpAny_typeOf hTs ?_)
  first
    | rw [if_neg (by decide)]
    | refine PySem.W.KFB.if_not (by decide) ?_
  rw [listSliceParts_eq]
  refine wpAny_bind (wpAny_bind (wpAny_field hos hds (x := .none) rfl (wpAny_bind (wpAny_listPart .none ?_))))
  rw [if_neg hstep]
  refine wpAny_bind (wpAny_field hos hds (x := vl) rfl (wpAny_bind (wpAny_listPart pl ?_)))
  refine wpAny_bind (wpAny_field hos hds (x := vu) rfl (wpAny_bind (wpAny_listPart pu (wpAny_pure ?_))))
  refine wpAny_bind (m := Builtin.List.listItems (.ref l)) ?_
  unfold Builtin.List.listItems
  refine wpAny_bind (wpAny_seqItems e rfl (wpAny_pure ?_))
  refine wpAny_bind (wpAny_of_eq ((sliceIndices_raw lo hi none items.size (by simp)).trans (congrArg (pure : Int × Int × Int → Sem (Int × Int × Int)) hb)) ?_)
  refine wpAny_bind (wpAny_rule ?_)
  have hf : (fun xs : Array Value => (xs.toList.zipIdx.filterMap (keepF a c)).toArray) items = (items.toList.take a ++ items.toList.drop c).toArray := by
    show (items.toList.zipIdx.filterMap (keepF a c)).toArray = _
    rw [kept_eq hac]
    rfl
  have hz' : ((fun xs : Array Value => (xs.toList.zipIdx.filterMap (keepF a c)).toArray) items).size ≤ sizeLine + 1 := by
    rw [hf, List.size_toArray, List.length_append, List.length_take, List.length_drop, Array.length_toList]
    omega
  show wpAny _ _ (updateSeq l (fun xs => (xs.toList.zipIdx.filterMap (keepF a c)).toArray) >>= _) _ _ s
  refine wpAny_bind (wpAny_updateSeq (hz := hsz) (_hz' := hz') e rfl ?_)
  refine wpAny_bind (wpAny_letGo ?_)
  first
    | exact wpAny_pure ⟨_, rfl, h _ hf⟩
    | exact wpAny_pure ⟨.none, rfl, wpAny_pure (h _ hf)⟩
    | exact wpAny_bind (wpAny_pure (wpAny_pure ⟨.none, rfl, h _ hf⟩))
end
theorem bounds_head {c n : Nat} (hc : c ≤ n) : sliceBounds none (some (c : Int)) none n = (((0 : Nat) : Int), (c : Int), 1) := by
  simp only [sliceBounds, Option.getD_none]
  have h2 : ¬ ((c : Int) < 0) := by omega
  simp only [h2, if_false, show (1 : Int) > 0 by decide, if_true]
  congr 1
  congr 1; omega
theorem bounds_tail {a n : Nat} (ha : a ≤ n) : sliceBounds (some (a : Int)) none none n = ((a : Int), (n : Int), 1) := by
  simp only [sliceBounds, Option.getD_none]
  have h1 : ¬ ((a : Int) < 0) := by omega
  simp only [h1, if_false, show (1 : Int) > 0 by decide, if_true]
  congr 1
  omega
section
variable {X : Cx}
/-- del xs[lo:hi] -/
def tDelSl (to : TE) (tl th : TO) : TS := fun D σ H => to σ H fun x H1 => tl σ H1 fun lo H2 => th σ H2 fun hi H3 => ∃ (l : Addr) (xs : List V) (a c : Nat), x = .ref l ∧ H3 l = some (.lst xs) ∧ sliceBounds lo hi none xs.length = ((a : Int), (c : Int), 1) ∧ a ≤ c ∧
  D.nx σ (upd H3 l (.lst (xs.take a ++ xs.drop c)))
theorem ps_delSl {o : Expr} {lo hi : Option Expr} {to : TE} {tl th : TO} {p2 tpos pos : Pos} (ho : PE X o to) (hl : PO X lo tl) (hu : PO X hi th) : PS X (.Delete [.Subscript o (.Slice lo hi none p2) tpos] pos) (tDelSl to tl th) := by
  refine ⟨fun pins s σ H D I h => ?_⟩
  refine wpAny_Delete (wpAny_deleteEach_cons (wpAny_delete_Subscript (thn (ho.run pins s σ H _ I h) fun u s1 ⟨x, H1, I1, rx, q1⟩ => ?_)))
  refine wpAny_Slice (thn (hl.run pins s1 σ H1 _ I1 q1) fun vl s2 ⟨lo', H2, I2, pl, q2⟩ => thn (hu.run pins s2 σ H2 _ I2 q2) fun vu s3 ⟨hi', H3, I3, pu, q3⟩ => ?_)
  rw [evalPart_none]
  refine wpAny_pure ?_
  have I4 : Inv X pins σ H3 { s3 with heap := s3.heap.push { cls := .type "slice", data := .fields #[vl, vu, .none] } } := I3.kept (t' := s3.toks) fun b ob q => Heap.get?_push_of_some _ q
  obtain ⟨l, xs, a, c, rfl, hH, hb, hac, q⟩ := q3
  cases rx
  obtain ⟨z, its, n, r, hlen, e⟩ := I4.lstM hH
  show wpAny (model X.prog X.w) X.A (delItem (.ref l) (.ref s3.heap.objs.size)) _ _ _
  refine delItem_slice (a := a) (c := c) e (Heap.IsSliceOf.new ..) pl pu (by rw [List.size_toArray, ← hlen]; exact hb) hac (by rw [List.size_toArray]; omega) fun f hf => ?_
  refine wpAny_deleteEach_nil ⟨σ, _, I4.lset (its' := its.take a ++ its.drop c) (t' := s3.toks) hH e ?_ (Vals.append (r.take _) (r.drop _)) ?_, q⟩
  · exact hf
  · rw [List.length_append, List.length_take, List.length_drop]
    omega
end
end Dk

set_option maxHeartbeats 4000000
/-! values that are no tuples; what an access may be -/
namespace Dk
open PySem PySem.Spec PyProof.Rows L2
abbrev sIsValue : Stmt := top 10
abbrev sIsSame : Stmt := top 11
abbrev sIsAcc : Stmt := top 21
theorem iteD {c A B : Prop} [Decidable c] (hc : c) (h : A) : if decide c = true then A else B := by
  rw [decide_eq_true hc]
  exact iteT h
theorem iteND {c A B : Prop} [Decidable c] (hc : ¬ c) (h : B) : if decide c = true then A else B := by
  rw [decide_eq_false hc]
  exact iteF h
theorem iteNT {c A B : Prop} [Decidable c] (hc : ¬ c) (h : A) : if (!decide c) = true then A else B := by
  rw [decide_eq_false hc]
  exact iteT h
def manyB : V → Bool
  | .int i => decide (0 ≤ i)
  | _ => false
theorem notTup {x : V} {t : String} (h : vty x = some t) : kitB t "tuple" = some false := by
  cases x <;> cases h <;> decide +kernel
def isB : V → Bool
  | .bl _ => true
  | _ => false
theorem kit_bool {x : V} {t : String} (h : vty x = some t) : kitB t "bool" = some (isB x) := by
  cases x with
  | non => cases h; show kitB "NoneType" "bool" = some false; decide +kernel
  | bl b => cases h; show kitB "bool" "bool" = some true; decide +kernel
  | int i => cases h; show kitB "int" "bool" = some false; decide +kernel
  | str y => cases h; show kitB "str" "bool" = some false; decide +kernel
  | _ => cases h
theorem kit_ok {x : V} {t : String} (h : vty x = some t) (hx : x ≠ .non) (K : PySem.W.Frag) : PySem.W.kitAny K (.type t) [.type "bool", .type "int", .type "str"] = some true := by
  cases x with
  | non => exact absurd rfl hx
  | bl b =>
    cases h
    exact kitAny_cons (b := true) (kit_ty (by decide +kernel)) (fun z => nomatch z) fun _ => rfl
  | int i =>
    cases h
    exact kitAny_cons (b := false) (kit_ty (by decide +kernel)) (fun _ => kitAny_cons (b := true) (kit_ty (by decide +kernel)) (fun z => nomatch z) fun _ => rfl) fun z => nomatch z
  | str y =>
    cases h
    exact kitAny_cons (b := false) (kit_ty (by decide +kernel)) (fun _ => kitAny_cons (b := false) (kit_ty (by decide +kernel)) (fun _ => kitAny_cons (b := true) (kit_ty (by decide +kernel)) (fun z => nomatch z) fun _ => rfl) fun z => nomatch z) fun z => nomatch z
  | _ => cases h
section
variable {P : Program} {w : World} {K : PySem.W.Frag} {mg : Str → Option Value} {base : Heap} {C M NV LE : Addr}
theorem scIsValue : FnScope ["value", "waiting", "part"] ["value"] (defScope sIsValue) := ⟨rfl, rfl, rfl, by decide +kernel, rfl, by decide +kernel, by decide +kernel⟩
theorem scIsSame : FnScope ["one", "other", "waiting", "left", "right"] ["one", "other"] (defScope sIsSame) := ⟨rfl, rfl, rfl, by decide +kernel, rfl, by decide +kernel, by decide +kernel⟩
theorem scal_flat {x y : V} {t u : String} (hx : vty x = some t) (hy : vty y = some u) (hb : isB x = isB y) : scal x y = true := by
  cases x <;> cases hx <;> cases y <;> cases hy <;> first | rfl | cases hb
end
end Dk

set_option maxHeartbeats 4000000
/-! is_value of nested tuples -/
namespace Dk
open PySem PySem.Spec PyProof.Rows L2
/-- the shape of a value of a cell -/
inductive Tr where
  | sc (v : V)
  | tup (l : List Tr)
mutual
def Tr.sz : Tr → Nat
  | .sc _ => 1
  | .tup l => 1 + szs l
def szs : List Tr → Nat
  | [] => 0
  | t :: l => t.sz + szs l
end
theorem _root_.L2.SqT.same {K : PySem.W.Frag} {H H' : Hp} {a : Addr} {xs : List V} (h : SqT K H a xs) (s : Same H H') : SqT K H' a xs :=
  h.elim (fun h => .inl (h.elim (fun h => .inl (s _ _ h)) fun ⟨o, h⟩ => .inr ⟨o, s _ _ h⟩)) fun h => .inr h
theorem tyT {K : PySem.W.Frag} {H : Hp} {a : Addr} {xs : List V} (h : SqT K H a xs) : TyX K H (.ref a) (.type "tuple") := by
  rcases h with (h | ⟨o, h⟩) | ⟨o, its, n, h, c, _⟩
  · exact .base (.tup h)
  · exact .fTuple h
  · exact .kTuple h c
mutual
inductive DV (K : PySem.W.Frag) (H : Hp) : V → Tr → Prop
  | sc {v : V} {t : String} : vty v = some t → DV K H v (.sc v)
  | tup {a : Addr} {xs : List V} {l : List Tr} : SqT K H a xs → DVs K H xs l → DV K H (.ref a) (.tup l)
inductive DVs (K : PySem.W.Frag) (H : Hp) : List V → List Tr → Prop
  | nil : DVs K H [] []
  | cons {x : V} {xs : List V} {t : Tr} {l : List Tr} : DV K H x t → DVs K H xs l → DVs K H (x :: xs) (t :: l)
end
mutual
theorem DV.ext {K : PySem.W.Frag} {H H' : Hp} (s : Same H H') : ∀ (t : Tr) (v : V), DV K H v t → DV K H' v t
  | .sc _, _, h => by
    cases h with
    | sc e => exact .sc e
  | .tup l, _, h => by
    cases h with
    | tup e d => exact .tup (e.same s) (DVs.ext s l _ d)
theorem DVs.ext {K : PySem.W.Frag} {H H' : Hp} (s : Same H H') : ∀ (l : List Tr) (xs : List V), DVs K H xs l → DVs K H' xs l
  | [], _, h => by
    cases h
    exact .nil
  | t :: l, _, h => by
    cases h with
    | cons d e => exact .cons (DV.ext s t _ d) (DVs.ext s l _ e)
end
theorem sz_pos (t : Tr) : 0 < t.sz := by
  cases t with
  | sc v => show 0 < 1; decide
  | tup l => show 0 < 1 + szs l; omega
theorem DVs.len {K : PySem.W.Frag} {H : Hp} : ∀ {xs : List V} {l : List Tr}, DVs K H xs l → xs.length = l.length ∧ xs.length ≤ szs l
  | _, _, .nil => ⟨rfl, Nat.le_refl _⟩
  | _, _, .cons (t := t) (l := l) d e => by
    have h := DVs.len e
    have p := sz_pos t
    refine ⟨by rw [List.length_cons, List.length_cons, h.1], ?_⟩
    show _ + 1 ≤ t.sz + szs l
    omega
theorem szs_app : ∀ (a b : List Tr), szs (a ++ b) = szs a + szs b
  | [], b => by show szs b = 0 + szs b; omega
  | t :: a, b => by
    show t.sz + szs (a ++ b) = t.sz + szs a + szs b
    rw [szs_app a b]
    omega
theorem DVs.app {K : PySem.W.Frag} {H : Hp} : ∀ {xs ys : List V} {l m : List Tr}, DVs K H xs l → DVs K H ys m → DVs K H (xs ++ ys) (l ++ m)
  | _, _, _, _, .nil, e => e
  | _, _, _, _, .cons d f, e => .cons d (DVs.app f e)
theorem DVs.last {K : PySem.W.Frag} {H : Hp} : ∀ {xs : List V} {l : List Tr} {y : V}, DVs K H xs l → xs[xs.length - 1]? = some y → ∃ m t, DVs K H xs.dropLast m ∧ DV K H y t ∧ szs l = szs m + t.sz
  | _, _, _, .nil, h => by simp at h
  | _, _, y, .cons (x := x) (xs := []) (t := t) d .nil, h => by
    have h : some x = some y := h
    cases h
    exact ⟨[], t, .nil, d, by show t.sz + 0 = 0 + t.sz; omega⟩
  | _, _, y, .cons (x := x) (xs := x2 :: xs) (t := t) (l := l) d e, h => by
    have h' : (x2 :: xs)[(x2 :: xs).length - 1]? = some y := h
    obtain ⟨m, t2, q1, q2, q3⟩ := DVs.last e h'
    exact ⟨t :: m, t2, .cons d q1, q2, by show t.sz + szs l = t.sz + szs m + t2.sz; omega⟩
theorem while_rel {c : TT} {tb : TS} {D : Ends} {σ : L2.St} {H : Hp} (W : Nat → L2.St → Hp → Prop) (h0 : ∃ m, W m σ H)
    (hs : ∀ m σ H, W m σ H → c σ H fun b H1 => if b = true then tb { D with nx := fun σ' H' => ∃ m', m' < m ∧ W m' σ' H', ct := fun σ' H' => ∃ m', m' < m ∧ W m' σ' H', bk := D.nx } σ H1 else D.nx σ H1)
    (mono : ∀ σ H Q Q', (∀ b H1, Q b H1 → Q' b H1) → c σ H Q → c σ H Q') : tWhile c tb D σ H := by
  refine ⟨W, h0, fun m σ H w => mono σ H _ _ (fun b H1 q => ?_) (hs m σ H w)⟩
  cases b with
  | true => exact ⟨_, fun σ' H' h => h, q⟩
  | false => exact q
/-- any value of a cell -/
def spIsValueD (K : PySem.W.Frag) : Sp := fun vs H Q _ => ∃ v t, vs = [v] ∧ DV K H v t ∧ t.sz < sizeLine ∧ ∀ H', Same H H' → Q (.bl true) H'
section
variable {P : Program} {w : World} {K : PySem.W.Frag} {mg : Str → Option Value} {base : Heap} {C M NV LE : Addr}
theorem go_isvalueD (F : GT K mg "is_value" sIsValue ["value"]) (T : Bn mg) : GO P w K mg base CX0 1 "is_value" ["value"] (spIsValueD K) := by
  obtain ⟨f, fd, F, hm, hb⟩ := F
  refine ⟨f, fd, ?_, hm, F.kp, hb⟩
  refine F.ok scIsValue (fun vs H Q E h => ?_) (fun cdv A outer s H vs Q E hr h => ?_)
  · obtain ⟨v, t, rfl, _⟩ := h
    rfl
  · obtain ⟨v, t, rfl, hd, hz, k⟩ := h
    refine ⟨_, pss_cons (ps_set (i := 1) scIsValue.nd rfl (Or.inl rfl) (pe_lst (pa_cons (pv 0) pa_nil)))
      (pss_cons (ps_while PassesOwn.never (pt_truth (pv 1) (by intro _; rfl))
        (pss_cons (ps_set (i := 2) scIsValue.nd rfl (Or.inl rfl) (pe_bm0 PySem.F.plainAttrs_list PySem.F.slot_list_pop PySem.F.type_list_pop mt_pop (pv 1)))
        (pss_one (ps_if (pt_val (pe_callB call_isi (by rfl) T.isi (by decide +kernel) (pa_cons (pv 2) (pa_cons (pe_bltn (v := .ty "tuple") (by rfl) T.tuple (by decide +kernel) rfl) pa_nil))))
          (pss_one (ps_expr (pe_bm PySem.F.plainAttrs_list PySem.F.slot_list_extend PySem.F.type_list_extend mt_extend (pv 1) (pa_cons (pe_callTy call_list_of (by rfl) T.list (by decide +kernel) (pa_cons (pv 2) pa_nil)) pa_nil))))
          (pss_one (ps_if (PW.pt (pw_and (pt_cmpR op_notN (pv 2) pe_non (nomark _)) (pw_and1 (pt_not (pt_val (pe_callB call_isiT (by rfl) T.isi (by decide +kernel) (pa_cons (pv 2) (pa_cons (pe_tup (pa_cons (pe_bltn (v := .ty "bool") (by rfl) T.bool (by decide +kernel) rfl)
            (pa_cons (pe_bltn (v := .ty "int") (by rfl) T.int (by decide +kernel) rfl) (pa_cons (pe_bltn (v := .ty "str") (by rfl) T.str (by decide +kernel) rfl) pa_nil)))) pa_nil))))))))
            (pss_one (ps_ret pe_bl)) pss_nil))))))
      (pss_one (ps_ret pe_bl))), ?_⟩
    refine ⟨_, rfl, (by show 1 ≤ sizeLine; decide), fun D hD => ?_⟩
    have s0 : Same H (upd H D (.lst [v])) := fun b o e => by rw [upd_ne (ne_of_none e hD)]; exact e
    dsimp only [gName, tSeq]
    refine while_rel (fun m σ H2 => Same H H2 ∧ ∃ (p : Option V) (xs : List V) (ts : List Tr), σ = [some v, some (.ref D), p] ∧ H2 D = some (.lst xs) ∧ DVs K H xs ts ∧ m = szs ts ∧ szs ts ≤ t.sz)
      ⟨_, s0, _, [v], [t], rfl, upd_same, .cons hd .nil, rfl, by show t.sz + 0 ≤ t.sz; omega⟩ ?_ ?_
    · rintro m σ H2 ⟨sm, p, xs, ts, rfl, hx, dv, rfl, hle⟩
      cases xs with
      | nil => exact ⟨_, rfl, false, .inl ⟨_, SqL.of hx, rfl⟩, iteF (k _ sm)⟩
      | cons x0 xr =>
        obtain ⟨y, hy⟩ : ∃ y, (x0 :: xr)[(x0 :: xr).length - 1]? = some y := ⟨_, List.getElem?_eq_getElem (by simp)⟩
        obtain ⟨ms, ty, q1, q2, q3⟩ := dv.last hy
        refine ⟨_, rfl, true, .inl ⟨_, SqL.of hx, rfl⟩, iteT ?_⟩
        refine ⟨_, rfl, .inl ⟨rfl, _, SqL.of hx⟩, D, _, y, rfl, rfl, hx, hy, ?_⟩
        have sp : ∀ {H3 : Hp} (l : List V), Same H H3 → Same H (upd H3 D (.lst l)) := fun {H3} l sm b o e => by rw [upd_ne (ne_of_none e hD)]; exact sm b o e
        have sm3 := sp (x0 :: xr).dropLast sm
        have pz := sz_pos ty
        generalize hH3 : upd H2 D (.lst (x0 :: xr).dropLast) = H3 at sm3 ⊢
        have hx3 : H3 D = some (.lst (x0 :: xr).dropLast) := by rw [← hH3]; exact upd_same
        cases q2 with
        | sc ht =>
          refine ⟨_, rfl, _, _, _, _, false, rfl, .ty "tuple", ty_of ht, kit_ty (notTup ht), _, rfl, iteF ?_⟩
          by_cases hn : y = .non
          · refine ⟨_, rfl, rfl, _, rfl, iteNS hn ?_⟩
            exact iteF ⟨_, by omega, sm3, _, _, ms, rfl, hx3, q1, rfl, by omega⟩
          · refine ⟨_, rfl, rfl, _, rfl, ?_⟩
            rw [decide_eq_false hn]
            refine iteT ⟨_, rfl, (by show 3 ≤ sizeLine; decide), fun q hq => ?_⟩
            have qD : D ≠ q := ne_of_none hx3 hq
            refine ⟨_, q, _, _, [.type "bool", .type "int", .type "str"], true, rfl, upd_same, .cons (.ty _) (.cons (.ty _) (.cons (.ty _) .nil)), ty_of ht, kit_ok ht hn K, _, rfl, iteF ?_⟩
            exact ⟨_, by omega, fun b o e => by rw [upd_ne (ne_of_none (sm3 b o e) hq)]; exact sm3 b o e, _, _, ms, rfl, by rw [upd_ne qD]; exact hx3, q1, rfl, by omega⟩
        | tup hq dl =>
          rename_i a ys l
          have ell := dl.len
          have em := q1.len
          have e3 : (Tr.tup l).sz = 1 + szs l := rfl
          refine ⟨_, rfl, _, _, _, _, true, rfl, .ty "tuple", tyT (hq.same sm3), kit_ty (by decide +kernel), _, rfl, iteT ?_⟩
          refine ⟨_, rfl, .inl ⟨rfl, _, SqL.of hx3⟩, _, rfl, a, ys, rfl, .inr (hq.same sm3), fun b hb => ?_⟩
          have bD : D ≠ b := ne_of_none hx3 hb
          have sb : Same H (upd H3 b (.lst ys)) := fun c o e => by rw [upd_ne (ne_of_none (sm3 c o e) hb)]; exact sm3 c o e
          refine ⟨D, b, _, ys, rfl, rfl, by rw [upd_ne bD]; exact hx3, upd_same, by omega, ?_⟩
          exact ⟨szs (ms ++ l), by rw [szs_app]; omega, sp _ sb, _, _, ms ++ l, rfl, upd_same, q1.app dl, rfl, by rw [szs_app]; omega⟩
    · rintro σ H2 Q1 Q2 imp ⟨x, e, kk, t, q⟩
      exact ⟨x, e, kk, t, imp _ _ q⟩
end
end Dk

set_option maxHeartbeats 4000000
/-! list(zip(a, b)) of two tuples: every pair is kept, so the zip makes a new one each time -/
namespace Lz
open PySem PySem.Spec PyProof.Rows L2
/-- a zip that has handed out the pair at T, which is still held -/
abbrev ZH (h : Heap) (z TI TO T : Addr) (b : Bool) : Prop :=
  h.get? z = some { cls := .type "zip", dict := none, data := .fields #[rawInt T, .bool b, .bool false, .ref TI, .ref TO], slots := #[] }
section
variable {prog : Program} {w : World} {A : Around} {E : Value → Shared → Prop} {s : Shared}
theorem alive {M : Model} {a : Addr} {o : Obj} {Q : Option Obj → Shared → Prop} (ho : s.heap.get? a = some o) (h : Q (some o) s) : wpAny M A (loadIfAlive a) Q E s := fun Γ p _ => by
  unfold loadIfAlive
  rw [Sem.wp_loadIfAlive, ho]
  exact h
theorem held {z TI TO T : Addr} {b : Bool} {o : Obj} {Q : Bool → Shared → Prop} (hz : ZH s.heap z TI TO T b) (hT : s.heap.get? T = some o)
    (h : ∀ h', ZH h' z TI TO T true → Heap.SameBut z s.heap h' → Q false { s with heap := h' }) : wpAny (model prog w) A (Builtin.SmallTypes.ownedTupleIsFree (.ref z)) Q E s := by
  unfold Builtin.SmallTypes.ownedTupleIsFree
  refine wpAny_bind (wpAny_field hz rfl (x := rawInt T) rfl ?_)
  show wpAny _ _ (loadIfAlive ((T : Int).toNat) >>= _) _ _ _
  rw [Int.toNat_natCast]
  refine wpAny_bind (alive hT ?_)
  show wpAny _ _ (field (.ref z) 1 >>= _) _ _ _
  refine wpAny_bind (wpAny_field hz rfl (x := .bool b) rfl ?_)
  cases b with
  | true =>
    show wpAny _ _ (pure false) _ _ _
    exact wpAny_pure (h s.heap hz ⟨rfl, fun _ _ => rfl⟩)
  | false =>
    show wpAny _ _ (setField (.ref z) 1 (.bool true) >>= fun _ => pure false) _ _ _
    refine wpAny_bind (wpAny_setField_rec hz (by simp) fun h1 hz1 hs1 => wpAny_pure (h h1 hz1 hs1))
/-- the next pair, while an elder one is held -/
theorem next {z TI TO T i1 i2 l1 l2 : Addr} {k1 k2 : Nat} {xs ys : Array Value} {x y : Value} {b : Bool} {o : Obj} {Q : Value → Shared → Prop} (D : ZipApart z TI TO i1 i2 l1 l2)
    (hz : ZH s.heap z TI TO T b) (hT : s.heap.get? T = some o) (hTI : IsPair s.heap TI (.ref i1) (.ref i2))
    (h1 : s.heap.IsTupleIter i1 l1 k1) (h2 : s.heap.IsTupleIter i2 l2 k2) (hl1 : s.heap.IsTuple l1 xs) (hl2 : s.heap.IsTuple l2 ys) (hx : xs[k1]? = some x) (hy : ys[k2]? = some y)
    (hQ : ∀ h', ZH h' z TI TO T true → h'.IsTupleIter i1 l1 (k1 + 1) → h'.IsTupleIter i2 l2 (k2 + 1) → IsPair h' s.heap.objs.size x y → h'.objs.size = s.heap.objs.size + 1 →
      (∀ c u, c ≠ z → c ≠ i1 → c ≠ i2 → s.heap.get? c = some u → h'.get? c = some u) → Q (.ref s.heap.objs.size) { s with heap := h' }) :
    wpAny (model prog w) A (Builtin.«zip.__next__» ⟨[.ref z], []⟩) (fun fin s' => ∃ v, fin = .done (.ret v) ∧ Q v s') E s := by
  show wpAny _ _ (field (.ref z) 2 >>= _) _ _ _
  refine wpAny_bind (wpAny_field hz rfl (x := .bool false) rfl ?_)
  show wpAny _ _ (field (.ref z) 3 >>= _) _ _ _
  refine wpAny_bind (wpAny_field hz rfl (x := .ref TI) rfl ?_)
  refine wpAny_bind (wpAny_seqItems hTI rfl ?_)
  show wpAny _ _ (Builtin.SmallTypes.ownedTupleIsFree (.ref z) >>= _) _ _ _
  refine wpAny_bind (held hz hT fun ha hza hsa => ?_)
  simp only [Bool.false_eq_true, if_false]
  have a1 := h1.extBut hsa.extBut D.i1z
  have a2 := h2.extBut hsa.extBut D.i2z
  have b1 := hl1.extBut hsa.extBut D.l1z
  have b2 := hl2.extBut hsa.extBut D.l2z
  refine wpAny_bind ?_
  simp only [List.forIn_toArray, List.forIn_cons, List.forIn_nil]
  refine wpAny_bind (wpAny_bind (wpAny_holding ?_))
  show wpAny _ _ (Builtin.SmallTypes.nextOf (.ref i1) >>= fun v => pure (some v)) _ _ _
  refine wpAny_bind (RZ.nextOf_tuple_item a1 b1 hx fun hb c1 sb => wpAny_pure ?_)
  refine wpAny_pure ?_
  refine wpAny_bind (wpAny_bind (wpAny_holding ?_))
  show wpAny _ _ (Builtin.SmallTypes.nextOf (.ref i2) >>= fun v => pure (some v)) _ _ _
  refine wpAny_bind (RZ.nextOf_tuple_item (a2.extBut sb.extBut D.i12.symm) (b2.extBut sb.extBut D.l2i1) hy fun hc c2 sc => wpAny_pure ?_)
  refine wpAny_pure ?_
  refine wpAny_pure ?_
  refine wpAny_bind (wpAny_newTuple ?_ (by show 2 ≤ sizeLine; decide))
  have sz : hc.objs.size = s.heap.objs.size := (sc.1.trans sb.1).trans hsa.1
  have up : ∀ {c : Addr} {u : Obj}, hc.get? c = some u → (hc.push { cls := .type "tuple", data := .seq [x, y].toArray }).get? c = some u := fun e => Heap.get?_push_of_some _ e
  refine wpAny_pure ⟨_, rfl, ?_⟩
  show Q (.ref hc.objs.size) _
  rw [sz]
  refine hQ _ (up (sc.extBut _ _ D.i2z.symm (sb.extBut _ _ D.i1z.symm hza))) ((c1.extBut sc.extBut D.i12).at fun u e => up e) (c2.at fun u e => up e) ?_ ?_ fun c u h1 h2 h3 e => up (sc.extBut _ _ h3 (sb.extBut _ _ h2 (hsa.extBut _ _ h1 e)))
  · rw [← sz]
    exact Heap.get?_push_size _ rfl
  · show (hc.push _).objs.size = _
    rw [Heap.size_push, sz]
/-- no pair is left -/
theorem last {z TI TO T i1 i2 l1 l2 : Addr} {k1 : Nat} {xs : Array Value} {b : Bool} {o : Obj} {Q : Fin → Shared → Prop} (hh : A.handled = none) (D : ZipApart z TI TO i1 i2 l1 l2)
    (hz : ZH s.heap z TI TO T b) (hT : s.heap.get? T = some o) (hTI : IsPair s.heap TI (.ref i1) (.ref i2)) (h1 : s.heap.IsTupleIter i1 l1 k1) (hl1 : s.heap.IsTuple l1 xs) (hx : xs[k1]? = none)
    (hE : ∀ h' e, (∀ c u, c ≠ z → c ≠ i1 → s.heap.get? c = some u → h'.get? c = some u) → (∃ u, h'.get? e = some u ∧ u.cls = .type "StopIteration") → E (.ref e) { s with heap := h' }) :
    wpAny (model prog w) A (Builtin.«zip.__next__» ⟨[.ref z], []⟩) Q E s := by
  show wpAny _ _ (field (.ref z) 2 >>= _) _ _ _
  refine wpAny_bind (wpAny_field hz rfl (x := .bool false) rfl ?_)
  show wpAny _ _ (field (.ref z) 3 >>= _) _ _ _
  refine wpAny_bind (wpAny_field hz rfl (x := .ref TI) rfl ?_)
  refine wpAny_bind (wpAny_seqItems hTI rfl ?_)
  show wpAny _ _ (Builtin.SmallTypes.ownedTupleIsFree (.ref z) >>= _) _ _ _
  refine wpAny_bind (held hz hT fun ha hza hsa => ?_)
  simp only [Bool.false_eq_true, if_false]
  refine wpAny_bind ?_
  simp only [List.forIn_toArray, List.forIn_cons, List.forIn_nil]
  refine wpAny_bind (wpAny_bind (wpAny_holding ?_))
  show wpAny _ _ (Builtin.SmallTypes.nextOf (.ref i1) >>= fun v => pure (some v)) _ _ _
  exact wpAny_bind (RZ.nextOf_tuple_end hh (h1.extBut hsa.extBut D.i1z) (hl1.extBut hsa.extBut D.l1z) hx fun h' e hk he => hE h' e (fun c u q1 q2 q => hk _ _ q2 (hsa.extBut _ _ q1 q)) he)
theorem pyNext_held {z TI TO T i1 i2 l1 l2 : Addr} {k1 k2 : Nat} {xs ys : Array Value} {x y : Value} {b : Bool} {o : Obj} {Q : Option Value → Shared → Prop} (D : ZipApart z TI TO i1 i2 l1 l2)
    (hz : ZH s.heap z TI TO T b) (hT : s.heap.get? T = some o) (hTI : IsPair s.heap TI (.ref i1) (.ref i2))
    (h1 : s.heap.IsTupleIter i1 l1 k1) (h2 : s.heap.IsTupleIter i2 l2 k2) (hl1 : s.heap.IsTuple l1 xs) (hl2 : s.heap.IsTuple l2 ys) (hx : xs[k1]? = some x) (hy : ys[k2]? = some y)
    (hQ : ∀ h', ZH h' z TI TO T true → h'.IsTupleIter i1 l1 (k1 + 1) → h'.IsTupleIter i2 l2 (k2 + 1) → IsPair h' s.heap.objs.size x y → h'.objs.size = s.heap.objs.size + 1 →
      (∀ c u, c ≠ z → c ≠ i1 → c ≠ i2 → s.heap.get? c = some u → h'.get? c = some u) → Q (some (.ref s.heap.objs.size)) { s with heap := h' }) :
    wpAny (model prog w) A (pyNext (.ref z)) Q E s := by
  have ty : s.TypeIs (.ref z) "zip" := ⟨_, hz, rfl⟩
  unfold pyNext
  exact wpAny_bind (wpAny_attempt (wpAny_callSpecial?_slot (name := Str.ofString "__next__") ty PySem.F.slot_zip_next (wpAny_call_entry PySem.F.slot_zip_next ty PySem.F.entry_zip_next
    (next D hz hT hTI h1 h2 hl1 hl2 hx hy fun h' q1 q2 q3 q4 q5 q6 => wpAny_pure (hQ h' q1 q2 q3 q4 q5 q6)) (PySem.F.args_zip_next_1 _))))
theorem pyNext_last {z TI TO T i1 i2 l1 l2 : Addr} {k1 : Nat} {xs : Array Value} {b : Bool} {o : Obj} {Q : Option Value → Shared → Prop} (hh : A.handled = none) (D : ZipApart z TI TO i1 i2 l1 l2)
    (hz : ZH s.heap z TI TO T b) (hT : s.heap.get? T = some o) (hTI : IsPair s.heap TI (.ref i1) (.ref i2)) (h1 : s.heap.IsTupleIter i1 l1 k1) (hl1 : s.heap.IsTuple l1 xs) (hx : xs[k1]? = none)
    (hQ : ∀ h', (∀ c u, c ≠ z → c ≠ i1 → s.heap.get? c = some u → h'.get? c = some u) → Q none { s with heap := h' }) : wpAny (model prog w) A (pyNext (.ref z)) Q E s := by
  have ty : s.TypeIs (.ref z) "zip" := ⟨_, hz, rfl⟩
  unfold pyNext
  refine wpAny_bind (wpAny_attempt (wpAny_callSpecial?_slot (name := Str.ofString "__next__") ty PySem.F.slot_zip_next (wpAny_call_entry PySem.F.slot_zip_next ty PySem.F.entry_zip_next
    (last hh D hz hT hTI h1 hl1 hx fun h' e hk he => ?_) (PySem.F.args_zip_next_1 _))))
  obtain ⟨u, hu, hcu⟩ := he
  exact wpAny_bind (wpAny_isInstance (T := "StopIteration") (b := true) ⟨u, hu, hcu⟩ isSubtype_stop (wpAny_pure (hQ _ hk)))
end
end Lz

set_option maxHeartbeats 4000000
/-! list(zip(a, b)) of two tuples of one length -/
namespace Lz
open PySem PySem.Spec PyProof.Rows L2
theorem zip_no_len : typeLookup (.type "zip") "__len__" = pure none := by rw [typeLookup_type, builtinLookup_eq_fast]; kernel_rfl
theorem zip_no_hint : typeLookup (.type "zip") "__length_hint__" = pure none := by rw [typeLookup_type, builtinLookup_eq_fast]; kernel_rfl
/-- the zip z at its i-th turn; S is the list that grows -/
def ZS (h : Heap) (S z TI TO i1 i2 a b : Addr) (i : Nat) : Prop := TO < h.objs.size ∧ IsPair h TI (.ref i1) (.ref i2) ∧ h.IsTupleIter i1 a i ∧ h.IsTupleIter i2 b i ∧
  ((IsZip h z TI TO .none ∧ ∃ x y, IsPair h TO x y) ∨ ∃ T o k, ZH h z TI TO T k ∧ h.get? T = some o ∧ T ≠ S)
section
variable {X : Cx} {pins : List (Addr × Obj)} {σ : L2.St} {H : Hp} {s : Shared} {A : Around} {E : Value → Shared → Prop}
theorem turn {S z TI TO i1 i2 a b : Addr} {i : Nat} {xs ys : List V} {x y : V} {Q : Option Value → Shared → Prop} (D : ZipApart z TI TO i1 i2 a b) (I : Inv X pins σ H s) (hf : ∀ c ∈ [z, TI, TO, i1, i2], FpOk X pins H c) (st : ZS s.heap S z TI TO i1 i2 a b i)
    (hS : S < s.heap.objs.size) (qx : SqT X.K H a xs) (qy : SqT X.K H b ys) (hx : xs[i]? = some x) (hy : ys[i]? = some y)
    (hQ : ∀ (T : Addr) (s' : Shared), H T = none → Inv X pins σ (upd H T (.tup [x, y])) s' → (∀ c ∈ [z, TI, TO, i1, i2], FpOk X pins (upd H T (.tup [x, y])) c) → ZS s'.heap S z TI TO i1 i2 a b (i + 1) → S < s'.heap.objs.size → Q (some (.ref T)) s') :
    wpAny (model X.prog X.w) A (pyNext (.ref z)) Q E s := by
  obtain ⟨its, rv, p, _⟩ := I.tuple qx
  obtain ⟨its2, rv2, p2, _⟩ := I.tuple qy
  obtain ⟨u, hu, ru⟩ := rv.get hx
  obtain ⟨u2, hu2, ru2⟩ := rv2.get hy
  obtain ⟨hO, hTI, h1, h2, hz⟩ := st
  have new : ∀ (h' : Heap), h'.get? s.heap.objs.size = some { cls := .type "tuple", data := .seq #[u, u2] } → ObjOk X.prog X.w (upd H s.heap.objs.size (.tup [x, y])) h' s.heap.objs.size (.tup [x, y]) := fun h' e =>
    ⟨by show 2 ≤ sizeLine; decide, [u, u2], .cons ru (.cons ru2 .nil), ⟨_, e, rfl, _, rfl⟩⟩
  have lt : ∀ c ∈ [z, TI, TO, i1, i2], H c = none ∧ (c < s.heap.objs.size → FpOk X pins (upd H s.heap.objs.size (.tup [x, y])) c) := fun c hc => by
    obtain ⟨e1, e2⟩ := hf c hc
    refine ⟨e1, fun hl => ⟨?_, e2⟩⟩
    rw [upd_ne (Nat.ne_of_lt hl)]
    exact e1
  have hn : H s.heap.objs.size = none := I.hok.fresh (Nat.le_refl _)
  have l1 : i1 < s.heap.objs.size := by obtain ⟨_, e, _⟩ := h1; exact Heap.lt_size e
  have l2 : i2 < s.heap.objs.size := by obtain ⟨_, e, _⟩ := h2; exact Heap.lt_size e
  have hzl : z < s.heap.objs.size := by
    rcases hz with ⟨e, _⟩ | ⟨_, _, _, e, _⟩
    · exact Heap.lt_size e
    · exact Heap.lt_size e
  have fp : ∀ c ∈ [z, TI, TO, i1, i2], FpOk X pins (upd H s.heap.objs.size (.tup [x, y])) c := fun c hc => by
    refine (lt c hc).2 ?_
    have e' : c = z ∨ c = TI ∨ c = TO ∨ c = i1 ∨ c = i2 := by simpa using hc
    rcases e' with e | e | e | e | e <;> rw [e]
    · exact hzl
    · exact Heap.lt_size hTI
    · exact hO
    · exact l1
    · exact l2
  have gr : ∀ {h' : Heap} {c : Addr}, h'.objs.size = s.heap.objs.size + 1 → c < s.heap.objs.size → c < h'.objs.size := fun {h' c} e q => by
    rw [e]
    exact Nat.lt_succ_of_lt q
  rcases hz with ⟨hz, x0, y0, hTO⟩ | ⟨T, o, k, hz, hT, hTS⟩
  · refine RZ.pyNext_zipT_item D hz hTI hTO h1 h2 p p2 (x := u) (y := u2) (by simpa using hu) (by simpa using hu2) fun h' z' TO' h1' h2' hT' hsz hk => ?_
    exact hQ _ _ hn (I.turnedNew (t' := s.toks) (ch := [z, TI, TO, i1, i2]) (fun c o hb q => hk c o (fun q' => hb (by simp [q'])) (fun q' => hb (by simp [q'])) (fun q' => hb (by simp [q'])) (fun q' => hb (by simp [q'])) q) hf (Nat.le_refl _) (new h' hT')) fp
      ⟨gr hsz hO, hk _ _ D.TIz D.TITO D.TIi1 D.TIi2 hTI, h1', h2', .inr ⟨_, _, _, z', hT', (Nat.ne_of_lt hS).symm⟩⟩ (gr hsz hS)
  · have Tz : T ≠ z ∧ T ≠ i1 ∧ T ≠ i2 ∨ ∃ o', s.heap.get? T = some o' := .inr ⟨o, hT⟩
    refine pyNext_held D hz hT hTI h1 h2 p p2 (x := u) (y := u2) (by simpa using hu) (by simpa using hu2) fun h' z' h1' h2' hT' hsz hk => ?_
    obtain ⟨o', ho'⟩ : ∃ o', h'.get? T = some o' := by
      by_cases e1 : T = z
      · rw [e1]
        exact ⟨_, z'⟩
      · by_cases e2 : T = i1
        · obtain ⟨o1, e, _⟩ := h1'
          rw [e2]
          exact ⟨o1, e⟩
        · by_cases e3 : T = i2
          · obtain ⟨o1, e, _⟩ := h2'
            rw [e3]
            exact ⟨o1, e⟩
          · exact ⟨o, hk _ _ e1 e2 e3 hT⟩
    exact hQ _ _ hn (I.turnedNew (t' := s.toks) (ch := [z, TI, TO, i1, i2]) (fun c o hb q => hk c o (fun q' => hb (by simp [q'])) (fun q' => hb (by simp [q'])) (fun q' => hb (by simp [q'])) q) hf (Nat.le_refl _) (new h' hT')) fp
      ⟨gr hsz hO, hk _ _ D.TIz D.TIi1 D.TIi2 hTI, h1', h2', .inr ⟨T, o', _, z', ho', hTS⟩⟩ (gr hsz hS)
/-- the zip has ended -/
theorem stop {S z TI TO i1 i2 a b : Addr} {i : Nat} {xs ys : List V} {Q : Option Value → Shared → Prop} (hh : A.handled = none) (D : ZipApart z TI TO i1 i2 a b) (I : Inv X pins σ H s) (hf : ∀ c ∈ [z, TI, TO, i1, i2], FpOk X pins H c) (st : ZS s.heap S z TI TO i1 i2 a b i)
    (qx : SqT X.K H a xs) (qy : SqT X.K H b ys) (hx : xs.length ≤ i) (hQ : ∀ s', Inv X pins σ H s' → Q none s') : wpAny (model X.prog X.w) A (pyNext (.ref z)) Q E s := by
  obtain ⟨its, rv, p, _⟩ := I.tuple qx
  obtain ⟨its2, rv2, p2, _⟩ := I.tuple qy
  have hl := rv.length
  have hn : its.toArray[i]? = none := by simp; omega
  obtain ⟨hO, hTI, h1, h2, ⟨hz, x0, y0, hTO⟩ | ⟨T, o, k, hz, hT, hTS⟩⟩ := st
  · exact RZ.pyNext_zipT_end hh D hz hTI hTO h1 h2 p p2 (.inl hn) fun h' hk => hQ _ (I.turnedL (t' := s.toks) (ch := [z, TI, TO, i1, i2]) (fun c o hb q => hk c o (fun q' => hb (by simp [q'])) (fun q' => hb (by simp [q'])) (fun q' => hb (by simp [q'])) (fun q' => hb (by simp [q'])) q) hf)
  · exact pyNext_last hh D hz hT hTI h1 p hn fun h' hk => hQ _ (I.turnedL (t' := s.toks) (ch := [z, TI, TO, i1, i2]) (fun c o hb q => hk c o (fun q' => hb (by simp [q'])) (fun q' => hb (by simp [q'])) q) hf)
end
end Lz

set_option maxHeartbeats 4000000
/-! list(zip(a, b)): the loop, the call -/
namespace Lz
open PySem PySem.Spec PyProof.Rows L2
def Prs (H0 H : Hp) (S : Addr) (qs : List Addr) (xs ys : List V) : Prop := ∀ (j : Nat) (q : Addr), qs[j]? = some q → H0 q = none ∧ q ≠ S ∧ ∃ x y, xs[j]? = some x ∧ ys[j]? = some y ∧ H q = some (.tup [x, y])
theorem ZS.upd {h : Heap} {S z TI TO i1 i2 a b : Addr} {i : Nat} {f : Obj → Obj} (st : ZS h S z TI TO i1 i2 a b i) (hz : z ≠ S) (hTI : TI ≠ S) (h1 : i1 ≠ S) (h2 : i2 ≠ S) (hTO : TO ≠ S) : ZS (h.update S f) S z TI TO i1 i2 a b i := by
  have o : ∀ {c : Addr} {u : Obj}, c ≠ S → h.get? c = some u → (h.update S f).get? c = some u := fun {c u} n e => (Heap.get?_update_other h f (Ne.symm n)).trans e
  obtain ⟨q1, q2, q3, q4, q5⟩ := st
  refine ⟨?_, o hTI q2, q3.at fun u e => o h1 e, q4.at fun u e => o h2 e, ?_⟩
  · rw [Heap.size_after_update]
    exact q1
  · rcases q5 with ⟨e1, x, y, e2⟩ | ⟨T, u, k, e1, e2, e3⟩
    · exact .inl ⟨o hz e1, x, y, o hTO e2⟩
    · exact .inr ⟨T, u, k, o hz e1, o e3 e2, e3⟩
section
variable {X : Cx} {pins : List (Addr × Obj)} {σ : L2.St}
theorem grow {A1 : Around} {Rs : Result → Shared → Prop} {S z TI TO i1 i2 a b : Addr} {xs ys : List V} {H0 : Hp} (hh : A1.in1.handled = none) (D : ZipApart z TI TO i1 i2 a b) (hl : xs.length = ys.length) (hz : xs.length < sizeLine) (h0 : H0 S = none) (qx : SqT X.K H0 a xs) (qy : SqT X.K H0 b ys)
    (done : ∀ (qs : List Addr) (H : Hp) (s : Shared), Inv X pins σ H s → H S = some (.lst (qs.map V.ref)) → qs.length = xs.length → Prs H0 H S qs xs ys → (∀ c o, H0 c = some o → H c = some o) → Rs (.ok (.ret .none)) s) :
    ∀ (m i : Nat) (qs : List Addr) (H : Hp) (s : Shared), i + m = xs.length → qs.length = i → Inv X pins σ H s → H S = some (.lst (qs.map V.ref)) → S < s.heap.objs.size → (∀ c ∈ [z, TI, TO, i1, i2], FpOk X pins H c) → ZS s.heap S z TI TO i1 i2 a b i →
      Prs H0 H S qs xs ys → (∀ c o, H0 c = some o → H c = some o) → codeAny (model X.prog X.w) A1 (.builtin "list.extend.loop" ⟨[.ref S, .ref z, .none], []⟩) Rs s
  | 0, i, qs, H, s, hi, hq, I, hS, lt, fp, st, pr, ex => by
    refine codeAny_builtin PySem.F.entry_extend_loop ?_
    rw [Around.under_plainId PySem.F.plain_extend_loop _]
    show wpAny _ A1.in1 (pyNext (.ref z) >>= _) _ _ s
    exact wpAny_bind (stop hh D I fp st (qx.ext ex) (qy.ext ex) (by omega) fun s' I' => wpAny_pure (done qs H s' I' hS (by omega) pr ex))
  | m + 1, i, qs, H, s, hi, hq, I, hS, lt, fp, st, pr, ex => by
    refine codeAny_builtin PySem.F.entry_extend_loop ?_
    rw [Around.under_plainId PySem.F.plain_extend_loop _]
    show wpAny _ A1.in1 (pyNext (.ref z) >>= _) _ _ s
    have hx : xs[i]? = some xs[i] := List.getElem?_eq_getElem (by omega)
    have hy : ys[i]? = some ys[i] := List.getElem?_eq_getElem (by omega)
    refine wpAny_bind (turn D I fp st lt (qx.ext ex) (qy.ext ex) hx hy fun T s' hT I' fp' st' lt' => ?_)
    show wpAny _ A1.in1 (updateSeq S (·.push (.ref T)) >>= _) _ _ _
    have ST : S ≠ T := ne_of_none hS hT
    have hS' : upd H T (.tup [xs[i], ys[i]]) S = some (.lst (qs.map V.ref)) := by rw [upd_ne ST]; exact hS
    obtain ⟨_, its, k, r2, hl2, e⟩ := I'.lstM hS'
    rw [List.length_map] at hl2
    have nS : ∀ c ∈ [z, TI, TO, i1, i2], c ≠ S := fun c hc q => by
      have := (fp' c hc).1
      rw [q, hS'] at this
      cases this
    refine wpAny_bind (wpAny_updateSeq e rfl (wpAny_pure ⟨plainId_quiet PySem.F.plain_extend_loop _, ?_⟩) (by rw [List.size_toArray]; omega) (by show (its.toArray.push (Value.ref T)).size ≤ sizeLine + 1; rw [Array.size_push, List.size_toArray]; omega))
    refine grow hh D hl hz h0 qx qy done m (i + 1) (qs ++ [T]) _ _ (by omega) (by rw [List.length_append, hq]; rfl) (I'.lset (its' := its ++ [.ref T]) (ys := (qs ++ [T]).map V.ref) (t' := s'.toks) hS' e (by simp) (by rw [List.map_append]; exact r2.append (.cons rfl .nil)) (by rw [List.length_map, List.length_append, List.length_singleton]; omega))
      upd_same (by show S < (s'.heap.update S _).objs.size; rw [Heap.size_after_update]; exact lt') (fun c hc => ?_) (st'.upd (nS _ (by simp)) (nS _ (by simp)) (nS _ (by simp)) (nS _ (by simp)) (nS _ (by simp))) (fun j q hj => ?_) fun c o hc => ?_
    · obtain ⟨e1, e2⟩ := fp' c hc
      exact ⟨by rw [upd_ne (nS c hc)]; exact e1, e2⟩
    · by_cases c : j < qs.length
      · rw [List.getElem?_append_left c] at hj
        obtain ⟨p1, p2, x, y, p3, p4, p5⟩ := pr j q hj
        refine ⟨p1, p2, x, y, p3, p4, ?_⟩
        rw [upd_ne p2, upd_ne (ne_of_none p5 hT)]
        exact p5
      · rw [List.getElem?_append_right (by omega)] at hj
        have hj1 : j - qs.length = 0 := by
          have := (List.getElem?_eq_some_iff.mp hj).1
          simp at this
          omega
        rw [hj1] at hj
        have hj2 : T = q := Option.some.inj hj
        subst hj2
        have hji : j = i := by omega
        subst hji
        refine ⟨?_, ST.symm, _, _, hx, hy, by rw [upd_ne ST.symm, upd_same]⟩
        cases e0 : H0 T with
        | none => rfl
        | some o =>
          rw [ex _ _ e0] at hT
          cases hT
    · have cS : c ≠ S := ne_of_none hc h0
      rw [upd_ne cS, upd_ne (ne_of_none (ex _ _ hc) hT)]
      exact ex _ _ hc
end
end Lz

set_option maxHeartbeats 4000000
/-! list(zip(a, b)): the rule -/
namespace Lz
open PySem PySem.Spec PyProof.Rows L2
section
variable {X : Cx} {pins : List (Addr × Obj)} {σ : L2.St} {H : Hp} {s : Shared}
theorem fresh_list {z TI TO i1 i2 a b : Addr} {xs ys : List V} {Q : VK} (hc : X.calm = true) (D : ZipApart z TI TO i1 i2 a b) (I : Inv X pins σ H s) (fp : ∀ c ∈ [z, TI, TO, i1, i2], FpOk X pins H c)
    (hz : IsZip s.heap z TI TO .none) (hTI : IsPair s.heap TI (.ref i1) (.ref i2)) (hTO : IsPair s.heap TO .none .none) (h1 : s.heap.IsTupleIter i1 a 0) (h2 : s.heap.IsTupleIter i2 b 0)
    (qx : SqT X.K H a xs) (qy : SqT X.K H b ys) (hl : xs.length = ys.length) (hlt : xs.length < sizeLine)
    (k : ∀ (S : Addr) (qs : List Addr) (H2 : Hp), H S = none → H2 S = some (.lst (qs.map V.ref)) → qs.length = xs.length → Prs H H2 S qs xs ys → (∀ c o, H c = some o → H2 c = some o) → Q (.ref S) H2) :
    wpAny (model X.prog X.w) X.A (call (.type "list") [.ref z]) (EP X pins σ Q) X.xe s := by
  refine callType_codes (Q₁ := fun obj s₁ => obj = .ref s.heap.objs.size ∧ s₁ = { s with heap := s.heap.push { cls := .type "list", data := .seq #[] } }) PySem.F.called_list (PySem.F.typeCall_list_1 _) PySem.F.entry_list_init (code_list_new _ ⟨rfl, rfl⟩) fun obj s₁ hob => ?_
  obtain ⟨rfl, rfl⟩ := hob
  have fr : H s.heap.objs.size = none := I.hok.fresh (Nat.le_refl _)
  have lS : ({ s with heap := s.heap.push { cls := .type "list", data := .seq #[] } } : Shared).heap.get? s.heap.objs.size = some { cls := .type "list", data := .seq #[] } := Heap.get?_push_size _ rfl
  refine ⟨⟨_, lS, rfl⟩, PySem.F.args_list_init_2 _ _, ?_⟩
  have J : Inv X pins σ (upd H s.heap.objs.size (.lst [])) { s with heap := s.heap.push { cls := .type "list", data := .seq #[] } } := I.lnew (its := []) (t' := s.toks) .nil (Nat.zero_le _)
  have zl := Heap.lt_size hz
  have tl := Heap.lt_size hTI
  have ol := Heap.lt_size hTO
  have il : i1 < s.heap.objs.size := by obtain ⟨_, e, _⟩ := h1; exact Heap.lt_size e
  have jl : i2 < s.heap.objs.size := by obtain ⟨_, e, _⟩ := h2; exact Heap.lt_size e
  have nS : ∀ c ∈ [z, TI, TO, i1, i2], c ≠ s.heap.objs.size := fun c hc => by
    have e' : c = z ∨ c = TI ∨ c = TO ∨ c = i1 ∨ c = i2 := by simpa using hc
    rcases e' with e | e | e | e | e <;> rw [e]
    · exact Nat.ne_of_lt zl
    · exact Nat.ne_of_lt tl
    · exact Nat.ne_of_lt ol
    · exact Nat.ne_of_lt il
    · exact Nat.ne_of_lt jl
  have up : ∀ {c : Addr} {u : Obj}, s.heap.get? c = some u → (s.heap.push { cls := .type "list", data := .seq #[] }).get? c = some u := fun e => Heap.get?_push_of_some _ e
  have st0 : ZS (s.heap.push { cls := .type "list", data := .seq #[] }) s.heap.objs.size z TI TO i1 i2 a b 0 :=
    ⟨by rw [Heap.size_push]; exact Nat.lt_succ_of_lt ol, up hTI, h1.at fun o e => up e, h2.at fun o e => up e, .inl ⟨up hz, _, _, up hTO⟩⟩
  generalize hSz : s.heap.objs.size = S at *
  have hh : X.A.in1.in1.handled = none := I.ok.hd hc
  show wpAny _ X.A.in1.in1 (do let old ← Builtin.List.listItems (.ref S); Builtin.List.listUpdate (.ref S) (fun _ => #[]); letGo old.toList.reverse; Builtin.List.listExtendWith (.ref S) (.ref z) .none) _ _ _
  have sz1 : S < (s.heap.push { cls := .type "list", data := .seq #[] }).objs.size := by
    rw [Heap.size_push, hSz]
    exact Nat.lt_succ_self S
  have zh := up hz
  generalize s.heap.push { cls := .type "list", data := .seq #[] } = hp at *
  refine wpAny_bind ?_
  unfold Builtin.List.listItems
  refine wpAny_bind (wpAny_seqItems lS rfl (wpAny_pure ?_))
  show wpAny _ _ (updateSeq S (fun _ => #[]) >>= fun _ => letGo (#[] : Array Value).toList.reverse >>= fun _ => Builtin.List.listExtendWith (.ref S) (.ref z) .none) _ _ _
  refine wpAny_bind (wpAny_updateSeq lS rfl ?_)
  have J1 := J.lset (f := fun _ => #[]) (its := []) (its' := []) (ys := []) (t' := s.toks) upd_same lS rfl .nil (Nat.zero_le _)
  rw [upd_upd] at J1
  have nz := nS z (by simp)
  have u1 := st0.upd (f := Obj.mapSeq (fun _ => (#[] : Array Value))) nz (nS _ (by simp)) (nS _ (by simp)) (nS _ (by simp)) (nS _ (by simp))
  have z1 : S < (hp.update S (Obj.mapSeq (fun _ => (#[] : Array Value)))).objs.size := by rw [Heap.size_after_update]; exact sz1
  have zz : IsZip (hp.update S (Obj.mapSeq (fun _ => (#[] : Array Value)))) z TI TO .none := (Heap.get?_update_other _ _ (Ne.symm nz)).trans zh
  generalize hp.update S (Obj.mapSeq (fun _ => (#[] : Array Value))) = hq at *
  refine wpAny_bind (wpAny_letGo ?_)
  unfold Builtin.List.listExtendWith
  have ty : ({ s with heap := hq } : Shared).TypeIs (.ref z) "zip" := ⟨_, zz, rfl⟩
  refine wpAny_bind (wpAny_typeOf ty ?_)
  have c1 : Builtin.List.listSameRef (.ref S) (.ref z) = false := by simp [Builtin.List.listSameRef, nz.symm]
  have c2 : (Value.type "zip" == Value.type "list") = false := by decide
  have c3 : (Value.type "zip" == Value.type "tuple") = false := by decide
  simp only [c1, c2, c3, Bool.or_false, Bool.false_eq_true, if_false]
  refine wpAny_bind (wpAny_pyIter_zip (s := { s with heap := hq }) zz ?_)
  refine wpAny_bind (wpAny_holding ?_)
  unfold Builtin.List.listLengthHint
  refine wpAny_bind (wpAny_specialOf ty zip_no_len ?_)
  show wpAny _ _ (specialOf (Value.ref z) (Str.ofString "__length_hint__") >>= _) _ _ _
  refine wpAny_bind (wpAny_specialOf ty zip_no_hint (wpAny_pure ?_))
  show wpAny _ _ (rule "list.extend.makes-room" >>= fun _ => Builtin.List.listTouch (.ref S) >>= fun _ => again (.builtin "list.extend.loop" ⟨[.ref S, .ref z, .none], []⟩)) _ _ _
  refine wpAny_bind (wpAny_rule (wpAny_bind ?_))
  show wpAny _ _ (updateSeq S (·.push .none) >>= fun _ => updateSeq S (·.pop)) _ _ _
  obtain ⟨_, its3, k3, r3, _, e3⟩ := J1.lstM upd_same
  cases r3
  refine wpAny_bind (wpAny_updateSeq e3 rfl ?_ (by show 0 ≤ sizeLine; exact Nat.zero_le _) (by show 1 ≤ sizeLine + 1; omega))
  have J2 := J1.lset (f := (·.push Value.none)) (its' := [Value.none]) (ys := [.non]) (t' := s.toks) upd_same e3 rfl (.cons rfl .nil) (by rw [List.length_singleton, sizeLine_eq]; decide)
  rw [upd_upd] at J2
  have u2 := u1.upd (f := Obj.mapSeq (·.push Value.none)) nz (nS _ (by simp)) (nS _ (by simp)) (nS _ (by simp)) (nS _ (by simp))
  have z2 : S < (hq.update S (Obj.mapSeq (·.push Value.none))).objs.size := by rw [Heap.size_after_update]; exact z1
  obtain ⟨_, its4, k4, r4, _, e4⟩ := J2.lstM upd_same
  obtain ⟨w4, rfl, _⟩ := r4.one
  refine wpAny_updateSeq e4 rfl ?_ (by show 1 ≤ sizeLine; rw [sizeLine_eq]; decide) (by show 0 ≤ sizeLine + 1; exact Nat.zero_le _)
  have J3 := J2.lset (f := (·.pop)) (its := [w4]) (its' := []) (ys := []) (t' := s.toks) upd_same e4 (by rfl) .nil (Nat.zero_le _)
  rw [upd_upd] at J3
  have u3 := u2.upd (f := Obj.mapSeq (·.pop)) nz (nS _ (by simp)) (nS _ (by simp)) (nS _ (by simp)) (nS _ (by simp))
  have z3 : S < ((hq.update S (Obj.mapSeq (·.push Value.none))).update S (Obj.mapSeq (·.pop))).objs.size := by rw [Heap.size_after_update]; exact z2
  refine wpAny_pure ⟨plainId_quiet PySem.F.plain_extend_loop _, ?_⟩
  exact grow (A1 := X.A.in1) hh D hl hlt fr qx qy (fun qs H' s' I' e1 e2 e3 e4 => ⟨rfl, .ref S, H', I', rfl, k S qs H' fr e1 e2 e3 e4⟩) xs.length 0 [] _ _ (by omega) rfl J3 upd_same z3
    (fun c hc => ⟨by rw [upd_ne (nS c hc)]; exact (fp c hc).1, (fp c hc).2⟩) u3 (fun j q hj => by simp at hj) fun c o e => by rw [upd_ne (ne_of_none e fr)]; exact e
def tLZ (K : PySem.W.Frag) (ta : TA) : TE := fun σ H Q => ta σ H fun vs H1 => ∃ (a b : Addr) (xs ys : List V), vs = [.ref a, .ref b] ∧ SqT K H1 a xs ∧ SqT K H1 b ys ∧ xs.length = ys.length ∧ xs.length < sizeLine ∧
  ∀ (S : Addr) (qs : List Addr) (H2 : Hp), H1 S = none → H2 S = some (.lst (qs.map V.ref)) → qs.length = xs.length → Prs H1 H2 S qs xs ys → (∀ c o, H1 c = some o → H2 c = some o) → Q (.ref S) H2
/-- list(zip(e, e2)) of two tuples of one length -/
theorem pe_listZip {e e2 : Expr} {ta : TA} {p p2 pos pos2 : Pos} (hc : X.calm = true) (hgl : Gl X "list") (hml : X.mg "list" = none) (hgz : Gl X "zip") (hmz : X.mg "zip" = none) (ha : PA X [e, e2] ta)
    (hs : starEach [e, e2] X.env = (false, eval e X.env) :: starEach [e2] X.env := by rfl) (hpl : (backTo pos2 (starEach [e2] X.env)).any (·.1) = false := by rfl)
    (he : starEach [.Call (.Name "zip" p2) [e, e2] [] pos2] X.env = (false, eval (.Call (.Name "zip" p2) [e, e2] [] pos2) X.env) :: starEach [] X.env := by rfl) :
    PE X (.Call (.Name "list" p) [.Call (.Name "zip" p2) [e, e2] [] pos2] [] pos) (tLZ X.K ta) := by
  refine ⟨fun pins s σ H Q I h => ?_⟩
  refine wpAny_Call_Name_kw (ld_blt I hgl hml PyProof.Rows.boot_list ?_)
  refine PyProof.Rows.callWith_type1 ?_ he rfl
  rw [he]
  show wpAny _ _ (spliced ((false, eval (.Call (.Name "zip" p2) [e, e2] [] pos2) X.env) :: backTo pos (starEach [] X.env))) _ _ s
  refine Calls.spliced_cons ?_
  refine Call_ (ld_blt I hgz hmz PyProof.Rows.boot_zip (PyProof.Rows.callWith_type1 (thn (ha.run pos2 pins s σ H _ I h) fun us s1 ⟨vs, H1, I1, r1, q1⟩ => ?_) hs hpl))
  obtain ⟨a, b, xs, ys, rfl, qx, qy, hl, hlt, k⟩ := q1
  obtain ⟨v1, v2, rfl, rr1, rr2⟩ := vals2 r1
  cases rr1
  cases rr2
  obtain ⟨its, rv, p1, _⟩ := I1.tuple qx
  obtain ⟨its2, rv2, p2, _⟩ := I1.tuple qy
  obtain ⟨o1, ho1, _⟩ := id p1
  obtain ⟨o2, ho2, _⟩ := id p2
  have fresh5 : ∀ c, c ∈ [s1.heap.objs.size + 4, s1.heap.objs.size + 2, s1.heap.objs.size + 3, s1.heap.objs.size, s1.heap.objs.size + 1] → FpOk X pins H1 c := fun c hcm => by
    have e' : c = s1.heap.objs.size + 4 ∨ c = s1.heap.objs.size + 2 ∨ c = s1.heap.objs.size + 3 ∨ c = s1.heap.objs.size ∨ c = s1.heap.objs.size + 1 := by simpa using hcm
    have hle : s1.heap.objs.size ≤ c := by
      rcases e' with q | q | q | q | q <;> rw [q]
      · exact Nat.le_add_right _ _
      · exact Nat.le_add_right _ _
      · exact Nat.le_add_right _ _
      · exact Nat.le_refl _
      · exact Nat.le_add_right _ _
    exact I1.fpOk hle (I1.hok.fresh hle)
  refine RZ.call_zipT (show s1.heap.IsTuple a its.toArray from p1) (show s1.heap.IsTuple b its2.toArray from p2) fun h' hz hTI hTO h1 h2 hsz hk => ?_
  refine Calls.spliced_nil ?_
  have I2 : Inv X pins σ H1 { s1 with heap := h' } := I1.kept (t' := s1.toks) hk
  exact fresh_list hc (PySem.W.ktu_apart s1.heap.objs.size a b (Heap.lt_size ho1) (Heap.lt_size ho2)) I2 fresh5 hz hTI hTO h1 h2 qx qy hl hlt k
end
end Lz

set_option maxHeartbeats 8000000
/-! is_same of nested tuples -/
namespace Dk
open PySem PySem.Spec PyProof.Rows L2
mutual
def Tr.data : Tr → PyData
  | .sc .non => .none
  | .sc (.bl b) => .bool b
  | .sc (.int i) => .int i
  | .sc (.str s) => .str s
  | .sc _ => .none
  | .tup l => .tuple (datas l)
def datas : List Tr → List PyData
  | [] => []
  | t :: l => t.data :: datas l
end
mutual
theorem DV.dp {K : PySem.W.Frag} {H : Hp} : ∀ (t : Tr) (v : V), DV K H v t → Dp K H v t.data
  | .sc v, _, h => by
    cases h with
    | sc e => cases v <;> cases e <;> constructor
  | .tup l, _, h => by
    cases h with
    | tup e d => exact .tup e (DVs.dp l _ d)
theorem DVs.dp {K : PySem.W.Frag} {H : Hp} : ∀ (l : List Tr) (xs : List V), DVs K H xs l → DpAll K H xs (datas l)
  | [], _, h => by
    cases h
    exact .nil
  | t :: l, _, h => by
    cases h with
    | cons d e => exact .cons (DV.dp t _ d) (DVs.dp l _ e)
end
def Tr.ok (t : Tr) : Prop := SeqAt.shaped t.data = true
theorem shaped_iff {d : PyData} : SeqAt.shaped d = true ↔ d.canLay0 = true ∧ d.depth ≤ 64 := by
  show (d.canLay0 && decide (d.depth ≤ 64)) = true ↔ _
  rw [Bool.and_eq_true, decide_eq_true_iff]
theorem oks : ∀ {l : List Tr}, PyData.canLayAll0 (datas l) = true → PyData.depthAll (datas l) ≤ 64 → ∀ t, t ∈ l → t.ok
  | [], _, _, t, h => by cases h
  | u :: l, h1, h2, t, h => by
    simp only [datas, PyData.canLayAll0, Bool.and_eq_true] at h1
    simp only [datas, PyData.depthAll] at h2
    rcases List.mem_cons.mp h with e | e
    · rw [e]
      exact shaped_iff.mpr ⟨h1.1, by omega⟩
    · exact oks h1.2 (by omega) t e
theorem ok_tup {l : List Tr} (h : (Tr.tup l).ok) : ∀ t, t ∈ l → t.ok := by
  obtain ⟨h1, h2⟩ := shaped_iff.mp h
  simp only [Tr.data, PyData.canLay0] at h1
  simp only [Tr.data, PyData.depth] at h2
  exact oks h1 (by omega)
theorem zip_all {l m : List Tr} : l.length = m.length → ((∀ p, p ∈ l.zip m → p.1 = p.2) ↔ l = m) := by
  induction l generalizing m with
  | nil =>
    intro h
    cases m with
    | nil => simp
    | cons t m => cases h
  | cons t l ih =>
    intro h
    cases m with
    | nil => cases h
    | cons u m =>
      have ih := ih (m := m) (by simpa using h)
      rw [List.zip_cons_cons]
      constructor
      · intro q
        have h1 : t = u := q (t, u) List.mem_cons_self
        rw [h1, ih.mp fun p hp => q p (List.mem_cons_of_mem _ hp)]
      · intro e
        injection e with e1 e2
        intro p hp
        rcases List.mem_cons.mp hp with z | z
        · rw [z]; exact e1
        · exact ih.mpr e2 p z
/-- what waits -/
def wt : List (Tr × Tr) → Nat
  | [] => 0
  | p :: l => p.1.sz + wt l
theorem wt_app : ∀ (a b : List (Tr × Tr)), wt (a ++ b) = wt a + wt b
  | [], b => by show wt b = 0 + wt b; omega
  | p :: a, b => by
    show p.1.sz + wt (a ++ b) = p.1.sz + wt a + wt b
    rw [wt_app a b]
    omega
theorem wt_zip : ∀ {l m : List Tr}, l.length = m.length → wt (l.zip m) = szs l
  | [], _, _ => by simp [wt, szs]
  | t :: l, [], h => by cases h
  | t :: l, u :: m, h => by
    show t.sz + wt (l.zip m) = t.sz + szs l
    rw [wt_zip (by simpa using h)]
theorem wt_len : ∀ (l : List (Tr × Tr)), l.length ≤ wt l
  | [] => Nat.le_refl _
  | p :: l => by
    have := wt_len l
    have := sz_pos p.1
    show l.length + 1 ≤ p.1.sz + wt l
    omega
def Tr.isT : Tr → Bool
  | .sc _ => false
  | .tup _ => true
theorem eqv_ne {K : PySem.W.Frag} {H : Hp} {a b : V} {t u : Tr} (ha : DV K H a t) (hb : DV K H b u) (h : ¬ (t.isT = true ∧ u.isT = true)) (hB : isB a = isB b) (ne : t ≠ u) : PyData.eqv t.data u.data = false := by
  cases ha with
  | sc e1 =>
    cases hb with
    | sc e2 =>
      cases a <;> cases e1 <;> cases b <;> cases e2 <;> first
        | exact absurd rfl ne
        | rfl
        | (exfalso; revert hB; simp [isB]; done)
        | (simp only [Tr.data, PyData.eqv]; rename_i p q; exact beq_eq_false_iff_ne.mpr fun z => ne (by rw [z]))
        | simp [Tr.data, PyData.eqv]
    | tup e2 d2 => cases a <;> cases e1 <;> simp [Tr.data, PyData.eqv]
  | tup e1 d1 =>
    cases hb with
    | sc e2 => cases b <;> cases e2 <;> simp [Tr.data, PyData.eqv]
    | tup e2 d2 => exact absurd ⟨rfl, rfl⟩ h
theorem isB_eq {K : PySem.W.Frag} {H : Hp} {a b : V} {t u : Tr} (ha : DV K H a t) (hb : DV K H b u) (e : t = u) : isB a = isB b := by
  subst e
  cases ha with
  | sc e1 =>
    cases hb with
    | sc e2 => rfl
  | tup e1 d1 =>
    cases hb with
    | tup e2 d2 => rfl
theorem ty_dv {K : PySem.W.Frag} {H : Hp} {a : V} {t : Tr} (h : DV K H a t) : ∃ ty, TyX K H a (.type ty) ∧ kitB ty "bool" = some (isB a) := by
  cases h with
  | sc e => exact ⟨_, ty_of e, kit_bool e⟩
  | tup e d => exact ⟨"tuple", tyT e, by show kitB "tuple" "bool" = some false; decide +kernel⟩
def PVs (K : PySem.W.Frag) (H H2 : Hp) (qs : List Addr) (ps : List (Tr × Tr)) : Prop := qs.length = ps.length ∧ ∀ (i : Nat) (q : Addr) (p : Tr × Tr), qs[i]? = some q → ps[i]? = some p → ∃ a b, H2 q = some (.tup [a, b]) ∧ DV K H a p.1 ∧ DV K H b p.2 ∧ p.1.ok ∧ p.2.ok
theorem PVs.keep {K : PySem.W.Frag} {H H2 H3 : Hp} {qs : List Addr} {ps : List (Tr × Tr)} (h : PVs K H H2 qs ps) (k : ∀ (q : Addr) (a b : V), H2 q = some (.tup [a, b]) → H3 q = some (.tup [a, b])) : PVs K H H3 qs ps :=
  ⟨h.1, fun i q p h1 h2 => let ⟨a, b, e1, e2⟩ := h.2 i q p h1 h2; ⟨a, b, k q a b e1, e2⟩⟩
theorem PVs.init {K : PySem.W.Frag} {H H2 : Hp} {qs : List Addr} {q : Addr} {ps : List (Tr × Tr)} {p : Tr × Tr} (h : PVs K H H2 (qs ++ [q]) (ps ++ [p])) : PVs K H H2 qs ps ∧ ∃ a b, H2 q = some (.tup [a, b]) ∧ DV K H a p.1 ∧ DV K H b p.2 ∧ p.1.ok ∧ p.2.ok := by
  obtain ⟨h1, h2⟩ := h
  have hl : qs.length = ps.length := by simpa using h1
  refine ⟨⟨hl, fun i q' p' e1 e2 => h2 i q' p' ?_ ?_⟩, h2 qs.length q p ?_ ?_⟩
  · rw [List.getElem?_append_left (List.getElem?_eq_some_iff.mp e1).1]; exact e1
  · rw [List.getElem?_append_left (List.getElem?_eq_some_iff.mp e2).1]; exact e2
  · simp
  · rw [hl]; simp
theorem PVs.app {K : PySem.W.Frag} {H H2 : Hp} {qs qt : List Addr} {ps pt : List (Tr × Tr)} (h : PVs K H H2 qs ps) (g : PVs K H H2 qt pt) : PVs K H H2 (qs ++ qt) (ps ++ pt) := by
  refine ⟨by rw [List.length_append, List.length_append, h.1, g.1], fun i q p e1 e2 => ?_⟩
  by_cases c : i < qs.length
  · rw [List.getElem?_append_left c] at e1
    rw [List.getElem?_append_left (by rw [← h.1]; exact c)] at e2
    exact h.2 i q p e1 e2
  · rw [List.getElem?_append_right (by omega)] at e1
    rw [List.getElem?_append_right (by rw [← h.1]; omega), ← h.1] at e2
    exact g.2 _ q p e1 e2
theorem DVs.get {K : PySem.W.Frag} {H : Hp} : ∀ {xs : List V} {l : List Tr} {i : Nat} {x : V} {t : Tr}, DVs K H xs l → xs[i]? = some x → l[i]? = some t → DV K H x t
  | _, _, _, _, _, .nil, h, _ => by simp at h
  | _, _, 0, _, _, .cons d e, h, g => by
    cases h
    cases g
    exact d
  | _, _, i + 1, _, _, .cons d e, h, g => DVs.get (i := i) e (by simpa using h) (by simpa using g)
def spIsSameD (K : PySem.W.Frag) : Sp := fun vs H Q _ => ∃ x y t u, vs = [x, y] ∧ DV K H x t ∧ DV K H y u ∧ t.ok ∧ u.ok ∧ t.sz < sizeLine ∧ ∀ (b : Bool) H', Same H H' → (b = true ↔ t = u) → Q (.bl b) H'
section
variable {P : Program} {w : World} {K : PySem.W.Frag} {mg : Str → Option Value} {base : Heap} {C M NV LE : Addr}
theorem go_issameD (F : GT K mg "is_same" sIsSame ["one", "other"]) (T : Bn mg) (zz : mg "zip" = none) : GO P w K mg base CX0 1 "is_same" ["one", "other"] (spIsSameD K) := by
  obtain ⟨f, fd, F, hm, hb⟩ := F
  refine ⟨f, fd, ?_, hm, F.kp, hb⟩
  refine F.ok scIsSame (fun vs H Q E h => ?_) (fun cdv A outer s H vs Q E hr h => ?_)
  · obtain ⟨x, y, t, u, rfl, _⟩ := h
    rfl
  · obtain ⟨x, y, t, u, rfl, hx, hy, ox, oy, hz, k⟩ := h
    refine ⟨_, pss_cons (ps_set (i := 2) scIsSame.nd rfl (Or.inl rfl) (pe_lst (pa_cons (pe_tup (pa_cons (pv 0) (pa_cons (pv 1) pa_nil))) pa_nil)))
      (pss_cons (ps_while PassesOwn.never (pt_truth (pv 2) (by intro _; rfl))
        (pss_cons (ps_asg (pe_bm0 PySem.F.plainAttrs_list PySem.F.slot_list_pop PySem.F.type_list_pop mt_pop (pv 2)) (pg_tup (by rfl) (pgs_cons (pg_name (i := 3) scIsSame.nd rfl (Or.inl rfl)) (pgs_cons (pg_name (i := 4) scIsSame.nd rfl (Or.inl rfl)) pgs_nil))))
        (pss_one (ps_if (PW.pt (pw_and (pt_val (pe_callB call_isi (by rfl) T.isi (by decide +kernel) (pa_cons (pv 3) (pa_cons (pe_bltn (v := .ty "tuple") (by rfl) T.tuple (by decide +kernel) rfl) pa_nil)))) (pw_and1 (pt_val (pe_callB call_isi (by rfl) T.isi (by decide +kernel) (pa_cons (pv 4) (pa_cons (pe_bltn (v := .ty "tuple") (by rfl) T.tuple (by decide +kernel) rfl) pa_nil)))))))
          (pss_cons (ps_if (pt_cmpR op_ne (pe_callB call_len_seq (by rfl) T.len PySem.boot_len (pa_cons (pv 3) pa_nil)) (pe_callB call_len_seq (by rfl) T.len PySem.boot_len (pa_cons (pv 4) pa_nil)) (nomark _)) (pss_one (ps_ret pe_bl)) pss_nil)
          (pss_one (ps_expr (pe_bm PySem.F.plainAttrs_list PySem.F.slot_list_extend PySem.F.type_list_extend mt_extend (pv 2) (pa_cons (Lz.pe_listZip rfl (by rfl) T.list (by rfl) zz (pa_cons (pv 3) (pa_cons (pv 4) pa_nil))) pa_nil)))))
          (pss_one (ps_if (PW.pt (pw_or (pt_cmpR op_ne (pe_callB call_isi (by rfl) T.isi (by decide +kernel) (pa_cons (pv 3) (pa_cons (pe_bltn (v := .ty "bool") (by rfl) T.bool (by decide +kernel) rfl) pa_nil))) (pe_callB call_isi (by rfl) T.isi (by decide +kernel) (pa_cons (pv 4) (pa_cons (pe_bltn (v := .ty "bool") (by rfl) T.bool (by decide +kernel) rfl) pa_nil))) (nomark _))
              (pw_or1 (pt_cmpR (op_neD hr.units) (pv 3) (pv 4) (nomark _)))))
            (pss_one (ps_ret pe_bl)) pss_nil))))))
      (pss_one (ps_ret pe_bl))), ?_⟩
    refine ⟨_, rfl, _, rfl, (by show 2 ≤ sizeLine; decide), fun p0 hp0 => ⟨(by show 1 ≤ sizeLine; decide), fun D hD => ?_⟩⟩
    have s1 : Same H (upd H p0 (.tup [x, y])) := fun b o e => by rw [upd_ne (ne_of_none e hp0)]; exact e
    have pD : p0 ≠ D := ne_of_none upd_same hD
    have nHD : H D = none := s1.free hD
    have sp : ∀ {H3 : Hp} (l : List V), Same H H3 → Same H (upd H3 D (.lst l)) := fun {H3} l sm b o e => by rw [upd_ne (ne_of_none e nHD)]; exact sm b o e
    dsimp only [gName, tSeq]
    refine while_rel (fun m σ H2 => Same H H2 ∧ ∃ (l r : Option V) (qs : List Addr) (ps : List (Tr × Tr)), σ = [some x, some y, some (.ref D), l, r] ∧ H2 D = some (.lst (qs.map V.ref)) ∧ PVs K H H2 qs ps ∧ m = wt ps ∧ wt ps ≤ t.sz ∧ ((∀ p, p ∈ ps → p.1 = p.2) ↔ t = u))
      ⟨_, sp _ s1, _, _, [p0], [(t, u)], rfl, upd_same, ⟨rfl, fun i q p h1 h2 => ?_⟩, rfl, by show t.sz + 0 ≤ t.sz; omega, by simp⟩ ?_ ?_
    · cases i with
      | zero =>
        cases h1
        cases h2
        exact ⟨x, y, by rw [upd_ne pD]; exact upd_same, hx, hy, ox, oy⟩
      | succ n => simp at h1
    · rintro m σ H2 ⟨sm, l, r, qs, ps, rfl, hD2, pv', rfl, hle, hiff⟩
      rcases List.eq_nil_or_concat qs with rfl | ⟨qi, q, rfl⟩
      · have e : ps = [] := List.eq_nil_of_length_eq_zero (by rw [← pv'.1]; rfl)
        subst e
        exact ⟨_, rfl, false, .inl ⟨_, SqL.of hD2, rfl⟩, iteF (k true _ sm ⟨fun _ => hiff.mp fun p hp => (by cases hp), fun _ => rfl⟩)⟩
      · rcases List.eq_nil_or_concat ps with rfl | ⟨pi, p, rfl⟩
        · have := pv'.1
          simp at this
        · rw [List.concat_eq_append] at pv' hD2
          rw [List.concat_eq_append] at pv' hle hiff ⊢
          obtain ⟨pvi, a, b, hq, da, db, oa, ob⟩ := pv'.init
          rw [List.map_append] at hD2
          have hw : wt (pi ++ [p]) = wt pi + p.1.sz := by rw [wt_app]; rfl
          have hpz := sz_pos p.1
          have hall : (∀ z, z ∈ pi ++ [p] → z.1 = z.2) ↔ (∀ z, z ∈ pi → z.1 = z.2) ∧ p.1 = p.2 := by
            constructor
            · exact fun h => ⟨fun z hz => h z (List.mem_append_left _ hz), h p (by simp)⟩
            · rintro ⟨h1, h2⟩ z hz
              rcases List.mem_append.mp hz with q | q
              · exact h1 z q
              · rw [List.mem_singleton.mp q]
                exact h2
          have hno : p.1 ≠ p.2 → ∀ H', Same H H' → Q (.bl false) H' := fun h H' s' => k false H' s' ⟨fun e => (by cases e), fun e => absurd (hall.mp (hiff.mpr e)).2 h⟩
          refine ⟨_, rfl, true, .inl ⟨_, SqL.of hD2, by simp⟩, iteT ?_⟩
          refine ⟨_, rfl, .inl ⟨rfl, _, SqL.of hD2⟩, D, _, .ref q, rfl, rfl, hD2, by simp, ?_⟩
          rw [show (qi.map V.ref ++ [q].map V.ref).dropLast = qi.map V.ref by simp]
          have sm3 := sp (qi.map V.ref) sm
          have kp : ∀ (z : Addr) (c d : V), H2 z = some (.tup [c, d]) → upd H2 D (.lst (qi.map V.ref)) z = some (.tup [c, d]) := fun z c d e => by rw [upd_ne (ne_of e hD2 (by intro w; cases w))]; exact e
          have pv3 := pvi.keep kp
          have hq3 := kp q a b hq
          have hD3 : upd H2 D (.lst (qi.map V.ref)) D = some (.lst (qi.map V.ref)) := upd_same
          generalize upd H2 D (.lst (qi.map V.ref)) = H3 at sm3 pv3 hq3 hD3 ⊢
          refine ⟨q, [a, b], rfl, SqT.of hq3, rfl, _, _, rfl, _, _, rfl, rfl, ?_⟩
          have da3 := DV.ext sm3 _ _ da
          have db3 := DV.ext sm3 _ _ db
          obtain ⟨tya, qa, ka⟩ := ty_dv (K := K) da3
          obtain ⟨tyb, qb, kb⟩ := ty_dv (K := K) db3
          obtain ⟨t1, t2⟩ := p
          dsimp only at da db da3 db3 oa ob hw hpz hno hall ka kb
          cases t1 with
          | sc v1 =>
            obtain ⟨ty1, h1⟩ : ∃ ty, vty a = some ty := by
              cases da with
              | sc e => exact ⟨_, e⟩
            refine ⟨_, rfl, _, _, _, _, false, rfl, .ty "tuple", ty_of h1, kit_ty (notTup h1), _, rfl, iteF (iteF ?_)⟩
            have nb : ¬ (Tr.isT (Tr.sc v1) = true ∧ Tr.isT t2 = true) := fun h => Bool.noConfusion h.1
            refine ⟨_, rfl, _, _, _, _, _, rfl, .ty "bool", qa, kit_ty ka, _, rfl, _, _, _, _, _, rfl, .ty "bool", qb, kit_ty kb, rfl, _, rfl, ?_⟩
            by_cases hbb : isB a = isB b
            · refine iteNS (congrArg V.bl hbb) ?_
              refine ⟨_, rfl, _, rfl, Tr.data (Tr.sc v1), Tr.data t2, DV.dp _ _ da3, DV.dp _ _ db3, oa, ob, _, rfl, ?_⟩
              by_cases e : (Tr.sc v1) = t2
              · have hev : PyData.eqv (Tr.data (Tr.sc v1)) (Tr.data t2) = true := by rw [← e]; exact SeqAt.eqv_refl _ (SeqAt.canLay_of_shaped oa)
                rw [hev]
                exact iteF ⟨wt pi, by omega, sm3, _, _, qi, pi, rfl, hD3, pv3, rfl, by omega, ⟨fun h => hiff.mp (hall.mpr ⟨h, e⟩), fun h => (hall.mp (hiff.mpr h)).1⟩⟩
              · rw [eqv_ne da db nb hbb e]
                exact iteT (hno e _ sm3)
            · refine iteNT (fun e => hbb (V.bl.inj e)) (iteT ?_)
              exact hno (fun e => hbb (isB_eq da db e)) _ sm3
          | tup l1 =>
            obtain ⟨a1, xs1, rfl, ha1, dl1⟩ : ∃ a1 xs1, a = .ref a1 ∧ SqT K H a1 xs1 ∧ DVs K H xs1 l1 := by
              cases da with
              | tup e d => exact ⟨_, _, rfl, e, d⟩
            cases t2 with
            | sc v2 =>
              obtain ⟨ty2, h2⟩ : ∃ ty, vty b = some ty := by
                cases db with
                | sc e => exact ⟨_, e⟩
              refine ⟨_, rfl, _, _, _, _, true, rfl, .ty "tuple", tyT (ha1.same sm3), kit_ty (by decide +kernel), _, rfl, iteT ⟨_, rfl, _, _, _, _, false, rfl, .ty "tuple", ty_of h2, kit_ty (notTup h2), _, rfl, iteF ?_⟩⟩
              have nb : ¬ (Tr.isT (Tr.tup l1) = true ∧ Tr.isT (Tr.sc v2) = true) := fun h => Bool.noConfusion h.2
              refine ⟨_, rfl, _, _, _, _, _, rfl, .ty "bool", qa, kit_ty ka, _, rfl, _, _, _, _, _, rfl, .ty "bool", qb, kit_ty kb, rfl, _, rfl, ?_⟩
              by_cases hbb : isB (V.ref a1) = isB b
              · refine iteNS (congrArg V.bl hbb) ?_
                refine ⟨_, rfl, _, rfl, Tr.data (Tr.tup l1), Tr.data (Tr.sc v2), DV.dp _ _ da3, DV.dp _ _ db3, oa, ob, _, rfl, ?_⟩
                by_cases e : (Tr.tup l1) = (Tr.sc v2)
                · have hev : PyData.eqv (Tr.data (Tr.tup l1)) (Tr.data (Tr.sc v2)) = true := by rw [← e]; exact SeqAt.eqv_refl _ (SeqAt.canLay_of_shaped oa)
                  rw [hev]
                  exact iteF ⟨wt pi, by omega, sm3, _, _, qi, pi, rfl, hD3, pv3, rfl, by omega, ⟨fun h => hiff.mp (hall.mpr ⟨h, e⟩), fun h => (hall.mp (hiff.mpr h)).1⟩⟩
                · rw [eqv_ne da db nb hbb e]
                  exact iteT (hno e _ sm3)
              · refine iteNT (fun e => hbb (V.bl.inj e)) (iteT ?_)
                exact hno (fun e => hbb (isB_eq da db e)) _ sm3
            | tup l2 =>
              obtain ⟨b1, xs2, rfl, hb1, dl2⟩ : ∃ b1 xs2, b = .ref b1 ∧ SqT K H b1 xs2 ∧ DVs K H xs2 l2 := by
                cases db with
                | tup e d => exact ⟨_, _, rfl, e, d⟩
              have L1 := dl1.len
              have L2 := dl2.len
              have e3 : (Tr.tup l1).sz = 1 + szs l1 := rfl
              have wl := wt_len pi
              have pl := pv3.1
              refine ⟨_, rfl, _, _, _, _, true, rfl, .ty "tuple", tyT (ha1.same sm3), kit_ty (by decide +kernel), _, rfl, iteT ⟨_, rfl, _, _, _, _, true, rfl, .ty "tuple", tyT (hb1.same sm3), kit_ty (by decide +kernel), _, rfl, iteT ?_⟩⟩
              refine ⟨_, rfl, a1, _, rfl, .inr ((ha1.same sm3)), _, rfl, b1, _, rfl, .inr ((hb1.same sm3)), rfl, _, rfl, ?_⟩
              by_cases hlen : xs1.length = xs2.length
              · refine iteNS (by rw [hlen]) ?_
                refine ⟨_, rfl, .inl ⟨rfl, _, SqL.of hD3⟩, _, rfl, _, rfl, a1, b1, xs1, xs2, rfl, (ha1.same sm3), (hb1.same sm3), hlen, by omega, fun S q2 H4 nS hS lq prs ex => ?_⟩
                refine ⟨D, S, _, _, rfl, rfl, ex _ _ hD3, hS, by rw [List.length_map, List.length_map]; omega, ?_⟩
                have hll : l1.length = l2.length := by omega
                have sm4 : Same H H4 := fun c o e => ex _ _ (sm3 c o e)
                have pz : PVs K H H4 q2 (l1.zip l2) := by
                  refine ⟨by rw [List.length_zip]; omega, fun i q p e1 e2 => ?_⟩
                  obtain ⟨g1, g2⟩ := List.getElem?_zip_eq_some.mp e2
                  obtain ⟨_, _, x1, y1, g3, g4, g5⟩ := prs i q e1
                  exact ⟨x1, y1, g5, dl1.get g3 g1, dl2.get g4 g2, ok_tup oa _ (List.mem_of_getElem? g1), ok_tup ob _ (List.mem_of_getElem? g2)⟩
                have pv4 := (pv3.keep fun z c d e => ex _ _ e).app pz
                have hw2 : wt (pi ++ l1.zip l2) = wt pi + szs l1 := by rw [wt_app, wt_zip hll]
                refine ⟨wt (pi ++ l1.zip l2), by omega, sp _ sm4, _, _, qi ++ q2, pi ++ l1.zip l2, rfl, by rw [upd_same, List.map_append], pv4.keep (fun z c d e => ?_), rfl, by omega, ?_⟩
                · rw [upd_ne (ne_of e (ex _ _ hD3) (by intro w; cases w))]
                  exact e
                · rw [← hiff, hall]
                  constructor
                  · intro h
                    exact ⟨fun z hz => h z (List.mem_append_left _ hz), congrArg Tr.tup ((zip_all hll).mp fun z hz => h z (List.mem_append_right _ hz))⟩
                  · rintro ⟨h1, h2⟩ z hz
                    rcases List.mem_append.mp hz with q | q
                    · exact h1 z q
                    · exact (zip_all hll).mpr (Tr.tup.inj h2) z q
              · refine iteNT (fun e => hlen (by have := V.int.inj e; omega)) ?_
                exact hno (fun e => hlen (by rw [L1.1, L2.1, Tr.tup.inj e])) _ sm3
    · rintro σ H2 Q1 Q2 imp ⟨x, e, kk, t, q⟩
      exact ⟨x, e, kk, t, imp _ _ q⟩
end
end Dk

set_option maxHeartbeats 4000000
/-! accesses: what they may be -/
namespace Dk
open PySem PySem.Spec PyProof.Rows L2
inductive Rq where
  | read (i : Nat)
  | write (i : Nat) (v : V)
  | swap (i : Nat) (o n : V)
  | decide (i : Nat) (x : Str)
  | flush (i : Nat)
  | fence
def Rq.vs : Rq → List V
  | .read i => [.str "read", .int (i : Int)]
  | .write i v => [.str "write", .int (i : Int), v]
  | .swap i o n => [.str "swap", .int (i : Int), o, n]
  | .decide i x => [.str "decide", .int (i : Int), .str x]
  | .flush i => [.str "flush", .int (i : Int)]
  | .fence => [.str "fence"]
/-- a value of a cell, of moderate size -/
structure Dvl (K : PySem.W.Frag) (H : Hp) (v : V) (t : Tr) : Prop where
  d : DV K H v t
  o : t.ok
  z : t.sz < 100000
theorem Dvl.same {K : PySem.W.Frag} {H H' : Hp} {v : V} {t : Tr} (h : Dvl K H v t) (s : Same H H') : Dvl K H' v t := ⟨DV.ext s _ _ h.d, h.o, h.z⟩
/-- tuples are kept -/
def ExT (H H' : Hp) : Prop := (∀ b xs, H b = some (.tup xs) → H' b = some (.tup xs)) ∧ ∀ b o xs, H b = some (.frz o (.tup xs)) → H' b = some (.frz o (.tup xs))
theorem ExT.of {H H' : Hp} (s : Same H H') : ExT H H' := ⟨fun _ _ e => s _ _ e, fun _ _ _ e => s _ _ e⟩
theorem ExT.trans {H H1 H2 : Hp} (h : ExT H H1) (k : ExT H1 H2) : ExT H H2 := ⟨fun _ _ e => k.1 _ _ (h.1 _ _ e), fun _ _ _ e => k.2 _ _ _ (h.2 _ _ _ e)⟩
theorem _root_.L2.SqT.extT {K : PySem.W.Frag} {H H' : Hp} {a : Addr} {xs : List V} (h : SqT K H a xs) (s : ExT H H') : SqT K H' a xs :=
  h.elim (fun h => .inl (h.elim (fun h => .inl (s.1 _ _ h)) fun ⟨o, h⟩ => .inr ⟨o, s.2 _ _ _ h⟩)) fun h => .inr h
mutual
theorem DV.extT {K : PySem.W.Frag} {H H' : Hp} (s : ExT H H') : ∀ (t : Tr) (v : V), DV K H v t → DV K H' v t
  | .sc _, _, h => by
    cases h with
    | sc e => exact .sc e
  | .tup l, _, h => by
    cases h with
    | tup e d => exact .tup (e.extT s) (DVs.extT s l _ d)
theorem DVs.extT {K : PySem.W.Frag} {H H' : Hp} (s : ExT H H') : ∀ (l : List Tr) (xs : List V), DVs K H xs l → DVs K H' xs l
  | [], _, h => by
    cases h
    exact .nil
  | t :: l, _, h => by
    cases h with
    | cons d e => exact .cons (DV.extT s t _ d) (DVs.extT s l _ e)
end
theorem Dvl.ext {K : PySem.W.Frag} {H H' : Hp} {v : V} {t : Tr} (h : Dvl K H v t) (s : ExT H H') : Dvl K H' v t := ⟨DV.extT s _ _ h.d, h.o, h.z⟩
theorem Dvl.int {K : PySem.W.Frag} {H : Hp} (i : Int) : Dvl K H (.int i) (.sc (.int i)) := ⟨.sc (t := "int") rfl, by show SeqAt.shaped (.int i) = true; rfl, by show 1 < 100000; decide⟩
theorem Dvl.non {K : PySem.W.Frag} {H : Hp} : Dvl K H .non (.sc .non) := ⟨.sc (t := "NoneType") rfl, by show SeqAt.shaped .none = true; rfl, by show 1 < 100000; decide⟩
def Rq.ok (t w r : Nat) : Rq → Prop
  | .read i => i < 1 + t + (t + w + r)
  | .write i _ => i < 1 + t + (t + w + r)
  | .swap i _ _ => i < 1 + t + (t + w + r)
  | .decide i _ => i < 1 + t + (t + w + r)
  | .flush i => 1 + t ≤ i ∧ i < 1 + t + (t + w + r)
  | .fence => True
/-- its values -/
def Rq.vals (K : PySem.W.Frag) (H : Hp) : Rq → Prop
  | .write _ v => ∃ t, Dvl K H v t
  | .swap _ o n => (∃ t, Dvl K H o t) ∧ ∃ t, Dvl K H n t
  | _ => True
theorem Rq.vals_same {K : PySem.W.Frag} {H H' : Hp} {rq : Rq} (h : rq.vals K H) (s : Same H H') : rq.vals K H' := by
  cases rq with
  | write i v => exact let ⟨t, h⟩ := h; ⟨t, h.same s⟩
  | swap i o n => exact let ⟨⟨t, h⟩, u, h2⟩ := h; ⟨⟨t, h.same s⟩, u, h2.same s⟩
  | _ => trivial
theorem mhit {kind : Str} {is : List Nat} {tb : TS} {tr : Addr → List V → TS} {a : Addr} {ys : List V} {D : Ends} {σ : L2.St} {H : Hp} (hlen : ys.length = is.length) (h : tb D (setAll σ is ys) H) : mCase kind is tb tr a (.str kind :: ys) D σ H := by
  unfold mCase
  rw [if_pos (by rw [List.length_cons, hlen])]
  exact ⟨kind, ys, rfl, by rw [if_pos rfl]; exact h⟩
theorem mmiss {kind z : Str} {is : List Nat} {tb : TS} {tr : Addr → List V → TS} {a : Addr} {ys : List V} {D : Ends} {σ : L2.St} {H : Hp} (hk : z ≠ kind) (h : tr a (.str z :: ys) D σ H) : mCase kind is tb tr a (.str z :: ys) D σ H := by
  unfold mCase
  split
  · exact ⟨z, ys, rfl, by rw [if_neg hk]; exact h⟩
  · exact h
def spHasT (C : Addr) : Sp := fun vs H Q _ => ∃ a t w r v ty, vs = [.ref a, v] ∧ vty v = some ty ∧ LayAt C H a t w r ∧ Q (.bl (inW 0 (t - 1) v)) H
def spIsAcc (K : PySem.W.Frag) (C : Addr) : Sp := fun vs H Q _ => ∃ (la q : Addr) (t w r : Nat) (rq : Rq), vs = [.ref la, .ref q] ∧ LayAt C H la t w r ∧ H q = some (.tup rq.vs) ∧ rq.ok t w r ∧ rq.vals K H ∧ ∀ H', Same H H' → Q (.bl true) H'
section
variable {P : Program} {w : World} {K : PySem.W.Frag} {mg : Str → Option Value} {base : Heap} {C M NV LE : Addr}
theorem scHasT : FnScope ["self", "thread"] ["self", "thread"] (defScope sHasT) := ⟨rfl, rfl, rfl, by decide +kernel, rfl, by decide +kernel, by decide +kernel⟩
theorem mo_hast (F : MT K C "has_thread" "Layout.has_thread" sHasT ["self", "thread"]) (T : LTxt K mg C) (GW : GO P w K mg base CX0 2 "is_within" ["value", "low", "high"] spWithin) : MO P w K mg base CX0 C 3 "has_thread" ["self", "thread"] (spHasT C) := by
  obtain ⟨f, fd, F, hm, hb⟩ := F
  refine ⟨f, fd, ?_, hm, hb⟩
  refine F.ok scHasT (fun vs H Q E h => ?_) (fun cdv A outer s H vs Q E hr h => ?_)
  · obtain ⟨a, t, w, r, v, ty, rfl, _⟩ := h
    rfl
  · obtain ⟨a, t, w, r, v, ty, rfl, hv, ⟨dx, h1⟩, k⟩ := h
    refine ⟨_, pss_one (ps_ret (pc_ GW hr (pa_cons (pv 1) (pa_cons pe_int (pa_cons (pe_op op_sub (pe_fld (pv 0) rfl) pe_int) pa_nil))))), ?_⟩
    exact ⟨_, rfl, _, rfl, a, C, dx, _, _, rfl, h1, T.cl, T.nT, rfl, _, _, rfl, rfl, v, ty, _, _, rfl, hv, k⟩
abbrev NA : List Str := ["layout", "request", "cell", "value", "old", "new", "word"]
theorem scIsAcc : FnScope NA ["layout", "request"] (defScope sIsAcc) := ⟨rfl, rfl, rfl, by decide +kernel, rfl, by decide +kernel, by decide +kernel⟩
theorem go_isacc (F : GT K mg "is_access" sIsAcc ["layout", "request"]) (T : LTxt K mg C) (GI : MO P w K mg base CX0 C 6 "is_cell" ["self", "cell"] (spLV C fun t w r v => .bl (inW 0 (cells t w r - 1) v)))
    (GL : MO P w K mg base CX0 C 7 "is_lasting" ["self", "cell"] (spLV C fun t w r v => .bl (lastB t w r v))) (GV : GO P w K mg base CX0 1 "is_value" ["value"] (spIsValueD K)) : GO P w K mg base CX0 8 "is_access" ["layout", "request"] (spIsAcc K C) := by
  obtain ⟨f, fd, F, hm, hb⟩ := F
  refine ⟨f, fd, ?_, hm, F.kp, hb⟩
  refine F.ok scIsAcc (fun vs H Q E h => ?_) (fun cdv A outer s H vs Q E hr h => ?_)
  · obtain ⟨la, q, t, w, r, rq, rfl, _⟩ := h
    rfl
  · obtain ⟨la, q, t, w, r, rq, rfl, L, hq, ok, vals, k⟩ := h
    obtain ⟨da, ha⟩ := id L
    have nd := scIsAcc.nd
    have hr6 : Room 6 _ := hr.mono (by decide)
    have hr1 : Room 1 _ := hr.mono (by decide)
    refine ⟨_, pss_cons (ps_if (pt_not (pt_val (pe_callB call_isi (by rfl) T.bn.isi (by decide +kernel) (pa_cons (pv 1) (pa_cons (pe_bltn (v := .ty "tuple") (by rfl) T.bn.tuple (by decide +kernel) rfl) pa_nil))))) (pss_one ps_never) pss_nil)
      (pss_cons (ps_match (pv 1)
        (pms_case (is := [2]) rfl nd (.cons rfl rfl .nil) (pss_one (ps_ret (pm_ GI T.cl hr6 (pv 0) (pa_cons (pv 2) pa_nil))))
        (pms_case (is := [2, 3]) rfl nd (.cons rfl rfl (.cons rfl rfl .nil)) (pss_one (ps_ret (pe_and (pm_ GI T.cl hr6 (pv 0) (pa_cons (pv 2) pa_nil)) (pe_one (pc_ GV hr1 (pa_cons (pv 3) pa_nil))))))
        (pms_case (is := [2, 4, 5]) rfl nd (.cons rfl rfl (.cons rfl rfl (.cons rfl rfl .nil))) (pss_one (ps_ret (pe_and (pm_ GI T.cl hr6 (pv 0) (pa_cons (pv 2) pa_nil)) (pe_and (pc_ GV hr1 (pa_cons (pv 4) pa_nil)) (pe_one (pc_ GV hr1 (pa_cons (pv 5) pa_nil)))))))
        (pms_case (is := [2, 6]) rfl nd (.cons rfl rfl (.cons rfl rfl .nil)) (pss_one (ps_ret (pe_and (pm_ GI T.cl hr6 (pv 0) (pa_cons (pv 2) pa_nil)) (pe_one (pe_callB call_isi (by rfl) T.bn.isi (by decide +kernel) (pa_cons (pv 6) (pa_cons (pe_bltn (v := .ty "str") (by rfl) T.bn.str (by decide +kernel) rfl) pa_nil)))))))
        (pms_case (is := [2]) rfl nd (.cons rfl rfl .nil) (pss_one (ps_ret (pm_ GL T.cl hr (pv 0) (pa_cons (pv 2) pa_nil))))
        (pms_case (is := []) rfl nd .nil (pss_one (ps_ret pe_bl)) pms_nil)))))))
      (pss_one (ps_ret pe_bl))), ?_⟩
    refine ⟨_, rfl, _, _, _, _, true, rfl, .ty "tuple", .base (.tup hq), kit_ty (by decide +kernel), _, rfl, iteF ?_⟩
    refine ⟨_, rfl, q, _, rfl, SqT.of hq, ?_⟩
    have cell : ∀ {i : Nat} {Q : VK}, i < 1 + t + (t + w + r) → Q (.bl true) H → Q (.bl (inW 0 (cells (t : Int) w r - 1) (.int (i : Int)))) H := fun {i Q} hi q => by
      rw [cells_n, inW_nat, decide_eq_true hi]
      exact q
    cases rq with
    | read i =>
      refine mhit rfl ?_
      exact ⟨_, rfl, la, da, _, rfl, ha, rfl, _, rfl, la, t, w, r, _, "int", rfl, rfl, L, cell ok (k _ (Same.refl H))⟩
    | write i v =>
      have ok : i < 1 + t + (t + w + r) := ok
      obtain ⟨tv, hv⟩ := vals
      have hsl : sizeLine = 16777216 := sizeLine_eq
      have hz := hv.z
      refine mmiss (by decide +kernel) (mhit rfl ?_)
      refine ⟨_, rfl, la, da, _, rfl, ha, rfl, _, rfl, la, t, w, r, _, "int", rfl, rfl, L, _, rfl, ?_⟩
      rw [cells_n, inW_nat, decide_eq_true ok]
      refine iteT ?_
      exact ⟨_, rfl, v, tv, rfl, hv.d, by omega, fun H' s => k H' s⟩
    | swap i o n =>
      have ok : i < 1 + t + (t + w + r) := ok
      obtain ⟨⟨to, ho⟩, tn, hn⟩ := vals
      have hsl : sizeLine = 16777216 := sizeLine_eq
      have hz := ho.z
      have hz2 := hn.z
      refine mmiss (by decide +kernel) (mmiss (by decide +kernel) (mhit rfl ?_))
      refine ⟨_, rfl, la, da, _, rfl, ha, rfl, _, rfl, la, t, w, r, _, "int", rfl, rfl, L, _, rfl, ?_⟩
      rw [cells_n, inW_nat, decide_eq_true ok]
      refine iteT ?_
      exact ⟨_, rfl, o, to, rfl, ho.d, by omega, fun H' s => ⟨_, rfl, iteT ⟨_, rfl, n, tn, rfl, (hn.same s).d, by omega, fun H2 s2 => k H2 (s.trans s2)⟩⟩⟩
    | decide i x =>
      have ok : i < 1 + t + (t + w + r) := ok
      refine mmiss (by decide +kernel) (mmiss (by decide +kernel) (mmiss (by decide +kernel) (mhit rfl ?_)))
      refine ⟨_, rfl, la, da, _, rfl, ha, rfl, _, rfl, la, t, w, r, _, "int", rfl, rfl, L, _, rfl, ?_⟩
      rw [cells_n, inW_nat, decide_eq_true ok]
      refine iteT ?_
      exact ⟨_, rfl, _, _, _, _, true, rfl, .ty "str", .base (.str _), kit_ty (by decide +kernel), k H (Same.refl H)⟩
    | flush i =>
      refine mmiss (by decide +kernel) (mmiss (by decide +kernel) (mmiss (by decide +kernel) (mmiss (by decide +kernel) (mhit rfl ?_))))
      refine ⟨_, rfl, la, da, _, rfl, ha, rfl, _, rfl, la, t, w, r, _, "int", rfl, rfl, L, ?_⟩
      have e : V.bl (lastB (t : Int) w r (.int (i : Int))) = .bl true := by rw [lastB_nat, decide_eq_true (p := 1 + t ≤ i ∧ i < 1 + t + (t + w + r)) ok]
      show Q (V.bl (lastB (t : Int) w r (.int (i : Int)))) H
      rw [e]
      exact k _ (Same.refl H)
    | fence =>
      refine mmiss (by decide +kernel) (mmiss (by decide +kernel) (mmiss (by decide +kernel) (mmiss (by decide +kernel) (mmiss (by decide +kernel) (mhit rfl ?_)))))
      exact k _ (Same.refl H)
end
end Dk

set_option maxHeartbeats 4000000
/-! what a memory holds, changed part by part -/
namespace Dk
open PySem PySem.Spec PyProof.Rows L2
theorem MemAt.same {C M : Addr} {H H' : Hp} {m : Addr} {t w r : Nat} {A : Adr} {S : MS} (D : MemAt C M H m t w r A S) (s1 : Same H H') : MemAt C M H' m t w r A S :=
  ⟨let ⟨x, hx⟩ := D.ob; ⟨x, s1 _ _ hx⟩, let ⟨x, hx⟩ := D.lay; ⟨x, s1 _ _ hx⟩, s1 _ _ D.ps, D.tr.same s1, s1 _ _ D.ld, s1 _ _ D.nl, D.nn, D.nd,
      fun j b hb => let ⟨ns, e1, e2⟩ := D.no j b hb; ⟨ns, e1, s1 _ _ e2⟩, s1 _ _ D.gl, D.d1, D.d2, D.d3, D.d4, D.d5⟩
/-- what stands outside of the memory stands still; what comes into it is new -/
structure Step (m : Addr) (n : Nat) (A : Adr) (H : Hp) (A' : Adr) (H' : Hp) : Prop where
  chg : ∀ b o, H b = some o → ¬ Foot m A n b → H' b = some o
  foot : ∀ b, Foot m A' n b → Foot m A n b ∨ H b = none
theorem Step.refl {m : Addr} {n : Nat} {A : Adr} {H : Hp} : Step m n A H A H := ⟨fun _ _ h _ => h, fun _ h => .inl h⟩
theorem Step.same {m : Addr} {n : Nat} {A : Adr} {H H' : Hp} (s : Same H H') : Step m n A H A H' := ⟨fun b o h _ => s b o h, fun _ h => .inl h⟩
theorem Step.up {m : Addr} {n : Nat} {A : Adr} {H : Hp} {b : Addr} {o : HO} (hb : Foot m A n b) : Step m n A H A (upd H b o) := ⟨fun c u e hc => by
    rw [upd_ne (fun q => hc (by rw [q]; exact hb))]
    exact e, fun _ h => .inl h⟩
theorem Step.trans {m : Addr} {n : Nat} {A A1 A2 : Adr} {H H1 H2 : Hp} (a : Step m n A H A1 H1) (b : Step m n A1 H1 A2 H2) : Step m n A H A2 H2 := by
  have keep : ∀ c o, H c = some o → ¬ Foot m A n c → ¬ Foot m A1 n c := fun c o e hc h => by
    rcases a.foot c h with q | q
    · exact hc q
    · rw [e] at q
      cases q
  refine ⟨fun c o e hc => b.chg c o (a.chg c o e hc) (keep c o e hc), fun c h => ?_⟩
  rcases b.foot c h with q | q
  · exact a.foot c q
  · by_cases hc : Foot m A n c
    · exact .inl hc
    · refine .inr ?_
      cases e : H c with
      | none => rfl
      | some o =>
        rw [a.chg c o e hc] at q
        cases q
/-- what is tracked outside stays so -/
theorem Step.out {m : Addr} {n : Nat} {A A1 : Adr} {H H1 : Hp} (a : Step m n A H A1 H1) {c : Addr} {o : HO} (e : H c = some o) (hc : ¬ Foot m A n c) : H1 c = some o ∧ ¬ Foot m A1 n c := by
  refine ⟨a.chg c o e hc, fun h => ?_⟩
  rcases a.foot c h with q | q
  · exact hc q
  · rw [e] at q
    cases q
def MS.withTr (S : MS) (tr : Nat → List V) : MS := ⟨S.count, S.ps, tr, S.lost, S.notes, S.log⟩
def MS.withPs (S : MS) (ps : List V) : MS := ⟨S.count, ps, S.tr, S.lost, S.notes, S.log⟩
def MS.withLost (S : MS) (l : Nat → Int) : MS := ⟨S.count, S.ps, S.tr, l, S.notes, S.log⟩
def MS.withNotes (S : MS) (n : List (List (Key × V))) : MS := ⟨S.count, S.ps, S.tr, S.lost, n, S.log⟩
def MS.withCount (S : MS) (c : Int) : MS := ⟨c, S.ps, S.tr, S.lost, S.notes, S.log⟩
def MS.withLog (S : MS) (l : List V) : MS := ⟨S.count, S.ps, S.tr, S.lost, S.notes, l⟩
section
variable {C M : Addr} {H : Hp} {m : Addr} {t w r : Nat} {A : Adr} {S : MS}
theorem MemAt.setTr (D : MemAt C M H m t w r A S) {j : Nat} (hj : j < t + w + r) (l : List V) : MemAt C M (upd H (A.tl j) (.lst l)) m t w r A (S.withTr (sett S.tr j l)) := by
  have hl := D.tr.l j hj
  obtain ⟨dx, ho⟩ := D.ob
  obtain ⟨da, hlay⟩ := D.lay
  obtain ⟨d1, d2, d3⟩ := D.d1 j hj
  refine ⟨⟨dx, ?_⟩, ⟨da, ?_⟩, ?_, ⟨?_, fun i hi => ?_, D.tr.inj⟩, ?_, ?_, D.nn, D.nd, fun i b hb => ?_, ?_, D.d1, D.d2, D.d3, D.d4, D.d5⟩
  · rw [upd_ne (ne_of ho hl (by intro z; cases z))]; exact ho
  · rw [upd_ne (ne_of hlay hl (by intro z; cases z))]; exact hlay
  · rw [upd_ne d1.symm]; exact D.ps
  · rw [upd_ne (ne_of D.tr.d hl (by intro z; cases z))]; exact D.tr.d
  · show upd H (A.tl j) (.lst l) (A.tl i) = some (.lst (sett S.tr j l i))
    by_cases c : i = j
    · rw [c, upd_same, sett_same]
    · rw [sett_ne c, upd_ne (fun e => c (D.tr.inj i j hi hj e))]; exact D.tr.l i hi
  · rw [upd_ne (ne_of D.ld hl (by intro z; cases z))]; exact D.ld
  · rw [upd_ne d3.symm]; exact D.nl
  · obtain ⟨ns, e1, e2⟩ := D.no i b hb
    exact ⟨ns, e1, by rw [upd_ne (ne_of e2 hl (by intro z; cases z))]; exact e2⟩
  · rw [upd_ne d2.symm]; exact D.gl
theorem MemAt.setPs (D : MemAt C M H m t w r A S) (l : List V) : MemAt C M (upd H A.pl (.lst l)) m t w r A (S.withPs l) := by
  have hl := D.ps
  obtain ⟨dx, ho⟩ := D.ob
  obtain ⟨da, hlay⟩ := D.lay
  refine ⟨⟨dx, ?_⟩, ⟨da, ?_⟩, upd_same, ⟨?_, fun i hi => ?_, D.tr.inj⟩, ?_, ?_, D.nn, D.nd, fun i b hb => ?_, ?_, D.d1, D.d2, D.d3, D.d4, D.d5⟩
  · rw [upd_ne (ne_of ho hl (by intro z; cases z))]; exact ho
  · rw [upd_ne (ne_of hlay hl (by intro z; cases z))]; exact hlay
  · rw [upd_ne (ne_of D.tr.d hl (by intro z; cases z))]; exact D.tr.d
  · rw [upd_ne (D.d1 i hi).1]; exact D.tr.l i hi
  · rw [upd_ne (ne_of D.ld hl (by intro z; cases z))]; exact D.ld
  · rw [upd_ne D.d2.2.1.symm]; exact D.nl
  · obtain ⟨ns, e1, e2⟩ := D.no i b hb
    exact ⟨ns, e1, by rw [upd_ne (ne_of e2 hl (by intro z; cases z))]; exact e2⟩
  · rw [upd_ne D.d2.1.symm]; exact D.gl
theorem MemAt.setLost (D : MemAt C M H m t w r A S) (lo : Nat → Int) : MemAt C M (upd H A.ld (.dK (kv ((1 + t : Nat) : Int) (t + w + r) fun j => .int (lo j)))) m t w r A (S.withLost lo) := by
  have hl := D.ld
  obtain ⟨dx, ho⟩ := D.ob
  obtain ⟨da, hlay⟩ := D.lay
  refine ⟨⟨dx, ?_⟩, ⟨da, ?_⟩, ?_, ⟨?_, fun i hi => ?_, D.tr.inj⟩, upd_same, ?_, D.nn, D.nd, fun i b hb => ?_, ?_, D.d1, D.d2, D.d3, D.d4, D.d5⟩
  · rw [upd_ne (ne_of ho hl (by intro z; cases z))]; exact ho
  · rw [upd_ne (ne_of hlay hl (by intro z; cases z))]; exact hlay
  · rw [upd_ne (ne_of D.ps hl (by intro z; cases z))]; exact D.ps
  · rw [upd_ne D.d3]; exact D.tr.d
  · rw [upd_ne (ne_of (D.tr.l i hi) hl (by intro z; cases z))]; exact D.tr.l i hi
  · rw [upd_ne (ne_of D.nl hl (by intro z; cases z))]; exact D.nl
  · obtain ⟨ns, e1, e2⟩ := D.no i b hb
    exact ⟨ns, e1, by rw [upd_ne (D.d4 b (List.mem_of_getElem? hb)).2]; exact e2⟩
  · rw [upd_ne (ne_of D.gl hl (by intro z; cases z))]; exact D.gl
theorem MemAt.setCount (D : MemAt C M H m t w r A S) (c : Int) (dx : Addr) : MemAt C M (upd H m (.ins M dx (mf A c))) m t w r A (S.withCount c) := by
  obtain ⟨dx', hl⟩ := D.ob
  obtain ⟨da, hlay⟩ := D.lay
  refine ⟨⟨dx, upd_same⟩, ⟨da, ?_⟩, ?_, ⟨?_, fun i hi => ?_, D.tr.inj⟩, ?_, ?_, D.nn, D.nd, fun i b hb => ?_, ?_, D.d1, D.d2, D.d3, D.d4, D.d5⟩
  · rw [upd_ne D.d5.symm]; exact hlay
  · rw [upd_ne (ne_of D.ps hl (by intro z; cases z))]; exact D.ps
  · rw [upd_ne (ne_of D.tr.d hl (by intro z; cases z))]; exact D.tr.d
  · rw [upd_ne (ne_of (D.tr.l i hi) hl (by intro z; cases z))]; exact D.tr.l i hi
  · rw [upd_ne (ne_of D.ld hl (by intro z; cases z))]; exact D.ld
  · rw [upd_ne (ne_of D.nl hl (by intro z; cases z))]; exact D.nl
  · obtain ⟨ns, e1, e2⟩ := D.no i b hb
    exact ⟨ns, e1, by rw [upd_ne (ne_of e2 hl (by intro z; cases z))]; exact e2⟩
  · rw [upd_ne (ne_of D.gl hl (by intro z; cases z))]; exact D.gl
theorem MemAt.setLog (D : MemAt C M H m t w r A S) (l : List V) : MemAt C M (upd H A.gl (.lst l)) m t w r A (S.withLog l) := by
  have hl := D.gl
  obtain ⟨dx, ho⟩ := D.ob
  obtain ⟨da, hlay⟩ := D.lay
  refine ⟨⟨dx, ?_⟩, ⟨da, ?_⟩, ?_, ⟨?_, fun i hi => ?_, D.tr.inj⟩, ?_, ?_, D.nn, D.nd, fun i b hb => ?_, upd_same, D.d1, D.d2, D.d3, D.d4, D.d5⟩
  · rw [upd_ne (ne_of ho hl (by intro z; cases z))]; exact ho
  · rw [upd_ne (ne_of hlay hl (by intro z; cases z))]; exact hlay
  · rw [upd_ne D.d2.1]; exact D.ps
  · rw [upd_ne (ne_of D.tr.d hl (by intro z; cases z))]; exact D.tr.d
  · rw [upd_ne (D.d1 i hi).2.1]; exact D.tr.l i hi
  · rw [upd_ne (ne_of D.ld hl (by intro z; cases z))]; exact D.ld
  · rw [upd_ne D.d2.2.2.symm]; exact D.nl
  · obtain ⟨ns, e1, e2⟩ := D.no i b hb
    exact ⟨ns, e1, by rw [upd_ne (ne_of e2 hl (by intro z; cases z))]; exact e2⟩
theorem MemAt.setNotes (D : MemAt C M H m t w r A S) {i : Nat} {b : Addr} (hb : A.na[i]? = some b) (ns : List (Key × V)) : MemAt C M (upd H b (.dK ns)) m t w r A (S.withNotes (S.notes.set i ns)) := by
  obtain ⟨ns0, n1, hl⟩ := D.no i b hb
  obtain ⟨dx, ho⟩ := D.ob
  obtain ⟨da, hlay⟩ := D.lay
  obtain ⟨d1, d2⟩ := D.d4 b (List.mem_of_getElem? hb)
  refine ⟨⟨dx, ?_⟩, ⟨da, ?_⟩, ?_, ⟨?_, fun k hk => ?_, D.tr.inj⟩, ?_, ?_, D.nn, D.nd, fun k c hc => ?_, ?_, D.d1, D.d2, D.d3, D.d4, D.d5⟩
  · rw [upd_ne (ne_of ho hl (by intro z; cases z))]; exact ho
  · rw [upd_ne (ne_of hlay hl (by intro z; cases z))]; exact hlay
  · rw [upd_ne (ne_of D.ps hl (by intro z; cases z))]; exact D.ps
  · rw [upd_ne d1.symm]; exact D.tr.d
  · rw [upd_ne (ne_of (D.tr.l k hk) hl (by intro z; cases z))]; exact D.tr.l k hk
  · rw [upd_ne d2.symm]; exact D.ld
  · rw [upd_ne (ne_of D.nl hl (by intro z; cases z))]; exact D.nl
  · by_cases e : k = i
    · subst e
      have ec : c = b := Option.some.inj (hc.symm.trans hb)
      subst ec
      refine ⟨ns, ?_, upd_same⟩
      show (S.notes.set k ns)[k]? = some ns
      exact List.getElem?_set_self (List.getElem?_eq_some_iff.mp n1).1
    · obtain ⟨ns', e1, e2⟩ := D.no k c hc
      refine ⟨ns', ?_, ?_⟩
      · show (S.notes.set i ns)[k]? = some ns'
        rw [List.getElem?_set_ne (fun z => e z.symm)]
        exact e1
      · rw [upd_ne (fun z => e (nd_ix D.nd hc (by rw [z]; exact hb)))]
        exact e2
  · rw [upd_ne (ne_of D.gl hl (by intro z; cases z))]; exact D.gl
/-- a thread's notes are a new dict -/
theorem MemAt.newNotes (D : MemAt C M H m t w r A S) {i : Nat} (hi : i < t) {H1 : Hp} {p : Addr} (s : Same H H1) (hp : H p = none) (h1 : H1 p = some (.dK [])) :
    MemAt C M (upd H1 A.nl (.lst ((A.na.set i p).map V.ref))) m t w r { A with na := A.na.set i p } (S.withNotes (S.notes.set i [])) := by
  have hl := s _ _ D.nl
  obtain ⟨dx, ho⟩ := D.ob
  obtain ⟨da, hlay⟩ := D.lay
  have pn : ∀ {b : Addr} {o : HO}, H b = some o → b ≠ p := fun {b o} e => ne_of_none e hp
  have hlen : i < A.na.length := by rw [D.nn]; exact hi
  have memP : ∀ b, b ∈ A.na.set i p → b = p ∨ b ∈ A.na := fun b hb => by
    rcases List.mem_or_eq_of_mem_set hb with q | q
    · exact .inr q
    · exact .inl q
  refine ⟨⟨dx, ?_⟩, ⟨da, ?_⟩, ?_, ⟨?_, fun k hk => ?_, D.tr.inj⟩, ?_, upd_same, ?_, ?_, fun k c hc => ?_, ?_, D.d1, D.d2, D.d3, fun b hb => ?_, D.d5⟩
  · rw [upd_ne (ne_of (s _ _ ho) hl (by intro z; cases z))]; exact s _ _ ho
  · rw [upd_ne (ne_of (s _ _ hlay) hl (by intro z; cases z))]; exact s _ _ hlay
  · rw [upd_ne D.d2.2.1]; exact s _ _ D.ps
  · rw [upd_ne (ne_of (s _ _ D.tr.d) hl (by intro z; cases z))]; exact s _ _ D.tr.d
  · rw [upd_ne (D.d1 k hk).2.2]; exact s _ _ (D.tr.l k hk)
  · rw [upd_ne (ne_of (s _ _ D.ld) hl (by intro z; cases z))]; exact s _ _ D.ld
  · show (A.na.set i p).length = t
    rw [List.length_set]
    exact D.nn
  · show (A.na.set i p).Nodup
    have np : p ∉ A.na := fun hm => by
      obtain ⟨k, hk⟩ := List.getElem?_of_mem hm
      obtain ⟨ns, _, e2⟩ := D.no k p hk
      rw [hp] at e2
      cases e2
    refine List.pairwise_iff_getElem.mpr fun x y hx hy hxy => ?_
    rw [List.length_set] at hx hy
    rw [List.getElem_set, List.getElem_set]
    by_cases c1 : i = x
    · rw [if_pos c1, if_neg (by omega)]
      exact fun e => np (by rw [e]; exact List.getElem_mem hy)
    · rw [if_neg c1]
      by_cases c2 : i = y
      · rw [if_pos c2]
        exact fun e => np (by rw [← e]; exact List.getElem_mem hx)
      · rw [if_neg c2]
        exact fun e => absurd ((List.getElem_inj D.nd).mp e) (by omega)
  · have hc : (A.na.set i p)[k]? = some c := hc
    by_cases e : k = i
    · subst e
      rw [List.getElem?_set_self hlen] at hc
      have ec : p = c := Option.some.inj hc
      subst ec
      obtain ⟨b0, hb0⟩ : ∃ b0, A.na[k]? = some b0 := ⟨A.na[k], List.getElem?_eq_getElem hlen⟩
      obtain ⟨ns0, n1, _⟩ := D.no k b0 hb0
      refine ⟨[], ?_, ?_⟩
      · show (S.notes.set k [])[k]? = some []
        exact List.getElem?_set_self (List.getElem?_eq_some_iff.mp n1).1
      · rw [upd_ne (pn D.nl).symm]
        exact h1
    · rw [List.getElem?_set_ne (fun z => e z.symm)] at hc
      obtain ⟨ns', e1, e2⟩ := D.no k c hc
      refine ⟨ns', ?_, ?_⟩
      · show (S.notes.set i [])[k]? = some ns'
        rw [List.getElem?_set_ne (fun z => e z.symm)]
        exact e1
      · rw [upd_ne (ne_of (s _ _ e2) hl (by intro z; cases z))]
        exact s _ _ e2
  · rw [upd_ne D.d2.2.2]; exact s _ _ D.gl
  · rcases memP b hb with e | e
    · rw [e]
      exact ⟨(pn D.tr.d).symm, (pn D.ld).symm⟩
    · exact D.d4 b e
end
end Dk

set_option maxHeartbeats 4000000
/-! a value is given, a trail is shortened -/
namespace Dk
open PySem PySem.Spec PyProof.Rows L2
abbrev sGive : Stmt := inClass (top 25) 10
abbrev sGiveIf : Stmt := inClass (top 25) 11
abbrev sFence : Stmt := inClass (top 25) 12
abbrev sShort : Stmt := inClass (top 25) 13
def MS.give (S : MS) (t i : Nat) (v : V) : MS := if i < 1 + t then S.withPs (S.ps.set i v) else S.withTr (sett S.tr (i - (1 + t)) (S.tr (i - (1 + t)) ++ [v]))
/-- by how much a trail of that length becomes shorter -/
def cutN (len : Nat) (k : Int) : Nat := min k.toNat (len - 1)
def setl (g : Nat → Int) (j : Nat) (v : Int) : Nat → Int := fun i => if i = j then v else g i
theorem setf_int (g : Nat → Int) (j : Nat) (x : Int) : setf (fun i => .int (g i)) j (.int x) = fun i => .int (setl g j x i) := by
  funext i
  unfold setf setl
  by_cases c : i = j
  · rw [if_pos c, if_pos c]
  · rw [if_neg c, if_neg c]
def MS.short (S : MS) (j : Nat) (k : Int) : MS := (S.withTr (sett S.tr j ((S.tr j).drop (cutN (S.tr j).length k)))).withLost (setl S.lost j (S.lost j + (cutN (S.tr j).length k : Nat)))
theorem many_eq {len : Nat} (hl : 0 < len) (k : Int) : (if (if (len : Int) - 1 < k then (len : Int) - 1 else k) > 0 then (if (len : Int) - 1 < k then (len : Int) - 1 else k) else 0) = ((cutN len k : Nat) : Int) := by
  unfold cutN
  by_cases c : (len : Int) - 1 < k
  · rw [if_pos c]
    split <;> omega
  · rw [if_neg c]
    split <;> omega
def spGive (C M : Addr) : Sp := fun vs H Q _ => ∃ (m : Addr) (t w r i : Nat) (A : Adr) (S : MS) (v : V), vs = [.ref m, .int (i : Int), v] ∧ MemAt C M H m t w r A S ∧ i < 1 + t + (t + w + r) ∧ (i < 1 + t → i < S.ps.length) ∧ (1 + t ≤ i → (S.tr (i - (1 + t))).length < sizeLine) ∧
  ∀ H', MemAt C M H' m t w r A (S.give t i v) → Step m (t + w + r) A H A H' → Q .non H'
def spShort (C M : Addr) : Sp := fun vs H Q _ => ∃ (m : Addr) (t w r j : Nat) (A : Adr) (S : MS) (k : Int), vs = [.ref m, .int ((1 + t + j : Nat) : Int), .int k] ∧ NOk t w r ∧ MemAt C M H m t w r A S ∧ j < t + w + r ∧ S.tr j ≠ [] ∧
  ∀ H', MemAt C M H' m t w r A (S.short j k) → Step m (t + w + r) A H A H' → Q .non H'
def spGiveIf (K : PySem.W.Frag) (C M : Addr) : Sp := fun vs H Q _ => ∃ (m : Addr) (t w r i : Nat) (A : Adr) (S : MS) (o v p : V) (tp to : Tr), vs = [.ref m, .int (i : Int), o, v] ∧ MemAt C M H m t w r A S ∧ i < 1 + t + (t + w + r) ∧ cellV S t i = some p ∧ Dvl K H p tp ∧ Dvl K H o to ∧ (i < 1 + t → i < S.ps.length) ∧ (1 + t ≤ i → (S.tr (i - (1 + t))).length < sizeLine) ∧
  (tp = to → ∀ H', MemAt C M H' m t w r A (S.give t i v) → Step m (t + w + r) A H A H' → Q (.bl true) H') ∧ (tp ≠ to → ∀ H', Same H H' → Q (.bl false) H')
section
variable {P : Program} {w : World} {K : PySem.W.Frag} {mg : Str → Option Value} {base : Heap} {C M NV LE : Addr}
theorem tr_get {H : Hp} {m : Addr} {t w r : Nat} {A : Adr} {S : MS} (D : MemAt C M H m t w r A S) {i : Nat} (h1 : 1 + t ≤ i) (h2 : i < 1 + t + (t + w + r)) : DGet H A.td (.int (i : Int)) (some (.ref (A.tl (i - (1 + t))))) := by
  have hj : i - (1 + t) < t + w + r := by omega
  have ei : ((1 + t : Nat) : Int) + ((i - (1 + t) : Nat) : Int) = (i : Int) := by omega
  have := DGet.k (k := (Sum.inl (i : Int) : Key)) D.tr.d
  rw [← ei, kv_val _ _ _ _ hj, ei] at this
  exact this
theorem scGive : FnScope ["self", "cell", "value"] ["self", "cell", "value"] (defScope sGive) := ⟨rfl, rfl, rfl, by decide +kernel, rfl, by decide +kernel, by decide +kernel⟩
theorem mo_give (F : MT K M "_give" "Memory._give" sGive ["self", "cell", "value"]) (T : LTxt K mg C) (TM : MTxt K M) (GL : MO P w K mg base CX0 C 7 "is_lasting" ["self", "cell"] (spLV C fun t w r v => .bl (lastB t w r v))) :
    MO P w K mg base CX0 M 8 "_give" ["self", "cell", "value"] (spGive C M) := by
  obtain ⟨f, fd, F, hm, hb⟩ := F
  refine ⟨f, fd, ?_, hm, hb⟩
  refine F.ok scGive (fun vs H Q E h => ?_) (fun cdv A outer s H vs Q E hr h => ?_)
  · obtain ⟨m, t, w, r, i, A, S, v, rfl, _⟩ := h
    rfl
  · obtain ⟨m, t, w, r, i, B, S, v, rfl, D, hi, hp, hs, k⟩ := h
    obtain ⟨dx, h1⟩ := D.ob
    obtain ⟨da, ha⟩ := D.lay
    have hu := hu_of hr
    refine ⟨_, pss_one (ps_if (pt_val (pm_ GL T.cl hr (pe_fld (pv 0) rfl) (pa_cons (pv 1) pa_nil)))
      (pss_one (ps_expr (pe_bm PySem.F.plainAttrs_list PySem.F.slot_list_append PySem.F.type_list_append mt_append (pe_dget hu (pe_fld (pv 0) rfl) (pv 1) (fun _ _ => rfl)) (pa_cons (pv 2) pa_nil))))
      (pss_one (ps_asg (pv 2) (pg_sub (pe_fld (pv 0) rfl) (pv 1) set_list)))), ?_⟩
    refine ⟨_, rfl, m, M, dx, _, _, rfl, h1, TM.cl, TM.nL, rfl, B.a, da, _, rfl, ha, rfl, _, rfl, B.a, t, w, r, _, "int", rfl, rfl, ⟨da, ha⟩, _, rfl, ?_⟩
    rw [lastB_nat]
    unfold MS.give at k
    by_cases c : i < 1 + t
    · rw [if_pos c] at k
      refine iteND (by omega) ?_
      have hx : ixN S.ps.length (i : Int) = some i := by
        unfold ixN
        have := hp c
        rw [if_pos (by omega), if_pos (by omega)]
        rfl
      exact ⟨_, rfl, _, rfl, m, M, dx, _, _, rfl, h1, TM.cl, TM.nP, rfl, _, rfl, B.pl, _, _, i, rfl, rfl, D.ps, hx, k _ (D.setPs _) (Step.up (.inr (.inl rfl)))⟩
    · rw [if_neg c] at k
      refine iteD ⟨by omega, hi⟩ ?_
      have hj : i - (1 + t) < t + w + r := by omega
      have hl := D.tr.l _ hj
      exact ⟨_, rfl, m, M, dx, _, _, rfl, h1, TM.cl, TM.nT, rfl, _, rfl, B.td, _, rfl, tr_get D (by omega) hi, .inl ⟨rfl, _, SqL.of hl⟩, _, rfl, _, _, _, rfl, rfl, hl, hs (by omega),
        k _ (D.setTr hj _) (Step.up (.inr (.inr (.inr (.inr (.inr (.inr (.inl ⟨_, hj, rfl⟩))))))))⟩
theorem scShort : FnScope ["self", "cell", "steps", "trail", "many"] ["self", "cell", "steps"] (defScope sShort) := ⟨rfl, rfl, rfl, by decide +kernel, rfl, by decide +kernel, by decide +kernel⟩
theorem mo_short (F : MT K M "_shorten" "Memory._shorten" sShort ["self", "cell", "steps"]) (T : LTxt K mg C) (TM : MTxt K M) (zx : mg "max" = none) (zn : mg "min" = none) : MO P w K mg base CX0 M 1 "_shorten" ["self", "cell", "steps"] (spShort C M) := by
  obtain ⟨f, fd, F, hm, hb⟩ := F
  refine ⟨f, fd, ?_, hm, hb⟩
  refine F.ok scShort (fun vs H Q E h => ?_) (fun cdv A outer s H vs Q E hr h => ?_)
  · obtain ⟨m, t, w, r, j, A, S, k, rfl, _⟩ := h
    rfl
  · obtain ⟨m, t, w, r, j, B, S, x, rfl, nok, D, hj, hne, k⟩ := h
    obtain ⟨dx, h1⟩ := D.ob
    have hu := hu_of hr
    have nd := scShort.nd
    refine ⟨_, pss_cons (ps_set (i := 3) nd rfl (Or.inl rfl) (pe_dget hu (pe_fld (pv 0) rfl) (pv 1) (fun _ _ => rfl)))
      (pss_cons (ps_set (i := 4) nd rfl (Or.inl rfl) (pe_callB (call_max2 rfl) (by rfl) zx (by decide +kernel) (pa_cons pe_int (pa_cons (pe_callB (call_min2 rfl) (by rfl) zn (by decide +kernel) (pa_cons (pv 2)
        (pa_cons (pe_op op_sub (pe_callB call_len_seq (by rfl) T.bn.len PySem.boot_len (pa_cons (pv 3) pa_nil)) pe_int) pa_nil))) pa_nil))))
      (pss_cons (ps_delSl (pv 3) po_none (po_some (pv 4)))
      (pss_one (ps_daug hu (pe_fld (pv 0) rfl) (pv 1) (pv 4) in_add (fun _ _ _ => rfl))))), ?_⟩
    have hl := D.tr.l j hj
    have hg : DGet H B.td (.int ((1 + t + j : Nat) : Int)) (some (.ref (B.tl j))) := by
      have := tr_get D (i := 1 + t + j) (by omega) (by omega)
      rw [show 1 + t + j - (1 + t) = j by omega] at this
      exact this
    have hpos : 0 < (S.tr j).length := List.length_pos_iff.mpr hne
    refine ⟨_, rfl, m, M, dx, _, _, rfl, h1, TM.cl, TM.nT, rfl, _, rfl, B.td, _, rfl, hg, ?_⟩
    refine ⟨_, rfl, _, rfl, B.tl j, _, rfl, .inl (SqL.of hl), _, _, rfl, rfl, _, _, rfl, _, _, rfl, ?_⟩
    rw [many_eq hpos x]
    have hc : cutN (S.tr j).length x ≤ (S.tr j).length := by unfold cutN; omega
    refine ⟨_, rfl, _, rfl, _, rfl, B.tl j, S.tr j, 0, cutN (S.tr j).length x, rfl, hl, bounds_head hc, Nat.zero_le _, ?_⟩
    rw [List.take_zero, List.nil_append]
    have D2 := D.setTr hj ((S.tr j).drop (cutN (S.tr j).length x))
    obtain ⟨dx2, h2⟩ := D2.ob
    have hg2 : DGet (upd H (B.tl j) (.lst ((S.tr j).drop (cutN (S.tr j).length x)))) B.ld (.int ((1 + t + j : Nat) : Int)) (some (.int (S.lost j))) := by
      have := DGet.k (k := (Sum.inl ((1 + t + j : Nat) : Int) : Key)) D2.ld
      rw [show ((1 + t + j : Nat) : Int) = ((1 + t : Nat) : Int) + (j : Int) by omega, kv_val _ _ _ _ hj, show ((1 + t : Nat) : Int) + (j : Int) = ((1 + t + j : Nat) : Int) by omega] at this
      exact this
    have hsl : sizeLine = 16777216 := sizeLine_eq
    refine ⟨_, rfl, m, M, dx2, _, _, rfl, h2, TM.cl, TM.nO, rfl, _, rfl, B.ld, _, rfl, hg2, _, rfl, _, _, rfl, rfl, _, DPut.k (k := Sum.inl _) D2.ld (by rw [kv_len]; have := nok.t3; have := nok.w4; have := nok.r200; omega), ?_⟩
    rw [show ((1 + t + j : Nat) : Int) = ((1 + t : Nat) : Int) + (j : Int) by omega, kv_put _ _ _ _ _ hj]
    have e3 : setf (fun j => .int (S.lost j)) j (.int (S.lost j + (cutN (S.tr j).length x : Nat))) = fun i => .int (setl S.lost j (S.lost j + (cutN (S.tr j).length x : Nat)) i) := setf_int _ _ _
    have e4 : (fun j => V.int ((S.withTr (sett S.tr j ((S.tr j).drop (cutN (S.tr j).length x)))).lost j)) = fun j => V.int (S.lost j) := rfl
    refine k _ ?_ ((Step.up (.inr (.inr (.inr (.inr (.inr (.inr (.inl ⟨_, hj, rfl⟩)))))))).trans (Step.up (.inr (.inr (.inr (.inl rfl))))))
    have D3 := D2.setLost (setl S.lost j (S.lost j + (cutN (S.tr j).length x : Nat)))
    rw [← e3] at D3
    exact D3
theorem scGiveIf : FnScope ["self", "cell", "old", "new"] ["self", "cell", "old", "new"] (defScope sGiveIf) := ⟨rfl, rfl, rfl, by decide +kernel, rfl, by decide +kernel, by decide +kernel⟩
theorem mo_giveif (F : MT K M "_give_if" "Memory._give_if" sGiveIf ["self", "cell", "old", "new"]) (T : LTxt K mg C) (TM : MTxt K M) (GS : GO P w K mg base CX0 1 "is_same" ["one", "other"] (spIsSameD K))
    (GP : MO P w K mg base CX0 M 8 "peek" ["self", "cell"] (spPeek C M)) (GG : MO P w K mg base CX0 M 8 "_give" ["self", "cell", "value"] (spGive C M)) : MO P w K mg base CX0 M 9 "_give_if" ["self", "cell", "old", "new"] (spGiveIf K C M) := by
  obtain ⟨f, fd, F, hm, hb⟩ := F
  refine ⟨f, fd, ?_, hm, hb⟩
  refine F.ok scGiveIf (fun vs H Q E h => ?_) (fun cdv A outer s H vs Q E hr h => ?_)
  · obtain ⟨m, t, w, r, i, A, S, o, v, p, tp, to, rfl, _⟩ := h
    rfl
  · obtain ⟨m, t, w, r, i, B, S, o, v, p, tp, to, rfl, D, hi, hv, fp, fo, hp, hs, k1, k2⟩ := h
    have hsl : sizeLine = 16777216 := sizeLine_eq
    have hzp := fp.z
    obtain ⟨dx, h1⟩ := D.ob
    refine ⟨_, pss_cons (ps_if (pt_not (pt_val (pc_ GS (hr.mono (by decide)) (pa_cons (pm_ GP TM.cl hr (pv 0) (pa_cons (pv 1) pa_nil)) (pa_cons (pv 2) pa_nil))))) (pss_one (ps_ret pe_bl)) pss_nil)
      (pss_cons (ps_expr (pm_ GG TM.cl hr (pv 0) (pa_cons (pv 1) (pa_cons (pv 3) pa_nil)))) (pss_one (ps_ret pe_bl))), ?_⟩
    refine ⟨_, rfl, m, dx, _, rfl, h1, rfl, _, rfl, m, t, w, r, i, B, S, p, rfl, D, hi, hv, _, rfl, p, o, tp, to, rfl, fp.d, fo.d, fp.o, fo.o, by omega, fun bb H1 s1 hbb => ⟨_, rfl, ?_⟩⟩
    cases bb with
    | true =>
      refine iteF ?_
      have D1 := D.same s1
      obtain ⟨dx1, h2⟩ := D1.ob
      exact ⟨_, rfl, m, dx1, _, rfl, h2, rfl, _, rfl, _, rfl, m, t, w, r, i, B, S, v, rfl, D1, hi, hp, hs, fun H2 D2 s2 => k1 (hbb.mp rfl) H2 D2 ((Step.same s1).trans s2)⟩
    | false => exact iteT (k2 (fun e => absurd (hbb.mpr e) (by decide)) H1 s1)
end
end Dk

set_option maxHeartbeats 4000000
/-! a fence -/
namespace Dk
open PySem PySem.Spec PyProof.Rows L2
/-- the notes of a thread: index of the lasting cell, place -/
def nkv (t : Nat) (l : List (Nat × Int)) : List (Key × V) := l.map fun p => ((Sum.inl ((1 + t + p.1 : Nat) : Int) : Key), V.int p.2)
def fenceS (S : MS) (l : List (Nat × Int)) : MS := l.foldl (fun S p => S.short p.1 (p.2 - S.lost p.1)) S
theorem fenceS_take {S : MS} {l : List (Nat × Int)} {i : Nat} {p : Nat × Int} (h : l[i]? = some p) : fenceS S (l.take (i + 1)) = (fenceS S (l.take i)).short p.1 (p.2 - (fenceS S (l.take i)).lost p.1) := by
  have hi : i < l.length := (List.getElem?_eq_some_iff.mp h).1
  have e : l.take (i + 1) = l.take i ++ [p] := by
    rw [List.take_succ, h]
    rfl
  unfold fenceS
  rw [e, List.foldl_append]
  rfl
theorem short_ne {S : MS} {j : Nat} {k : Int} {n : Nat} (h : ∀ i, i < n → S.tr i ≠ []) : ∀ i, i < n → (S.short j k).tr i ≠ [] := fun i hi => by
  show sett S.tr j ((S.tr j).drop (cutN (S.tr j).length k)) i ≠ []
  by_cases c : i = j
  · subst c
    rw [sett_same]
    have h1 := h i hi
    have h2 : 0 < (S.tr i).length := List.length_pos_iff.mpr h1
    refine List.length_pos_iff.mp ?_
    rw [List.length_drop]
    unfold cutN
    omega
  · rw [sett_ne c]
    exact h i hi
theorem fence_ne {n : Nat} : ∀ {l : List (Nat × Int)} {S : MS}, (∀ i, i < n → S.tr i ≠ []) → ∀ i, i < n → (fenceS S l).tr i ≠ []
  | [], _, h => h
  | p :: l, S, h => fence_ne (l := l) (S := S.short p.1 (p.2 - S.lost p.1)) (short_ne h)
/-- an object outside of the memory changes -/
theorem MemAt.outer {C M : Addr} {H H' : Hp} {m b : Addr} {t w r : Nat} {A : Adr} {S : MS} (D : MemAt C M H m t w r A S) (k : ∀ c o, H c = some o → c ≠ b → H' c = some o) (hb : ¬ Foot m A (t + w + r) b) (ha : b ≠ A.a) : MemAt C M H' m t w r A S := by
  have f : ∀ {c : Addr} {o : HO}, H c = some o → Foot m A (t + w + r) c → H' c = some o := fun {c o} e h => k c o e fun q => hb (by rw [← q]; exact h)
  obtain ⟨dx, ho⟩ := D.ob
  obtain ⟨da, hlay⟩ := D.lay
  exact ⟨⟨dx, f ho (.inl rfl)⟩, ⟨da, k _ _ hlay ha.symm⟩, f D.ps (.inr (.inl rfl)), ⟨f D.tr.d (.inr (.inr (.inl rfl))), fun j hj => f (D.tr.l j hj) (.inr (.inr (.inr (.inr (.inr (.inr (.inl ⟨j, hj, rfl⟩))))))), D.tr.inj⟩, f D.ld (.inr (.inr (.inr (.inl rfl)))),
    f D.nl (.inr (.inr (.inr (.inr (.inl rfl))))), D.nn, D.nd, fun i c hc => let ⟨ns, e1, e2⟩ := D.no i c hc; ⟨ns, e1, f e2 (.inr (.inr (.inr (.inr (.inr (.inr (.inr (List.mem_of_getElem? hc))))))))⟩, f D.gl (.inr (.inr (.inr (.inr (.inr (.inl rfl)))))), D.d1, D.d2, D.d3, D.d4, D.d5⟩
def spFence (C M : Addr) : Sp := fun vs H Q _ => ∃ (m : Addr) (t w r th : Nat) (A : Adr) (S : MS) (l : List (Nat × Int)), vs = [.ref m, .int (th : Int)] ∧ NOk t w r ∧ MemAt C M H m t w r A S ∧ th < t ∧ S.notes[th]? = some (nkv t l) ∧ (∀ p, p ∈ l → p.1 < t + w + r) ∧ (∀ j, j < t + w + r → S.tr j ≠ []) ∧
  ∀ (A' : Adr) (H' : Hp), A'.a = A.a → MemAt C M H' m t w r A' (fenceS (S.withNotes (S.notes.set th [])) l) → Step m (t + w + r) A H A' H' → Q .non H'
section
variable {P : Program} {w : World} {K : PySem.W.Frag} {mg : Str → Option Value} {base : Heap} {C M NV LE : Addr}
theorem scFence : FnScope ["self", "thread", "notes", "cell", "place"] ["self", "thread"] (defScope sFence) := ⟨rfl, rfl, rfl, by decide +kernel, rfl, by decide +kernel, by decide +kernel⟩
theorem mo_fence (F : MT K M "_fence" "Memory._fence" sFence ["self", "thread"]) (TM : MTxt K M) (GS : MO P w K mg base CX0 M 1 "_shorten" ["self", "cell", "steps"] (spShort C M)) : MO P w K mg base CX0 M 2 "_fence" ["self", "thread"] (spFence C M) := by
  obtain ⟨f, fd, F, hm, hb⟩ := F
  refine ⟨f, fd, ?_, hm, hb⟩
  refine F.ok scFence (fun vs H Q E h => ?_) (fun cdv A outer s H vs Q E hr h => ?_)
  · obtain ⟨m, t, w, r, th, A, S, l, rfl, _⟩ := h
    rfl
  · obtain ⟨m, t, w, r, th, B, S, l, rfl, nok, D, hth, hns, hl, hne, k⟩ := h
    obtain ⟨dx, h1⟩ := D.ob
    have hu := hu_of hr
    have nd := scFence.nd
    refine ⟨_, pss_cons (ps_set (i := 2) nd rfl (Or.inl rfl) (pe_ix ix_list (pe_fld (pv 0) rfl) (pv 1) (fun _ _ => rfl)))
      (pss_cons (ps_asg pe_dnewK (pg_sub (pe_fld (pv 0) rfl) (pv 1) set_list))
      (pss_one (ps_lock (ps_for PassesOwn.never rfl (pi_items (pv 2)) (pg_tup (by rfl) (pgs_cons (pg_name (i := 3) nd rfl (Or.inl rfl)) (pgs_cons (pg_name (i := 4) nd rfl (Or.inl rfl)) pgs_nil)))
        (pss_one (ps_expr (pm_ GS TM.cl hr (pv 0) (pa_cons (pv 3) (pa_cons (pe_op op_sub (pv 4) (pe_dget hu (pe_fld (pv 0) rfl) (pv 3) (fun _ _ => rfl))) pa_nil))))))))), ?_⟩
    have hlen : th < B.na.length := by rw [D.nn]; exact hth
    obtain ⟨b, hbn⟩ : ∃ b, B.na[th]? = some b := ⟨B.na[th], List.getElem?_eq_getElem hlen⟩
    obtain ⟨ns, e1, hbd⟩ := D.no th b hbn
    rw [hns] at e1
    have e1 := (Option.some.inj e1).symm
    subst e1
    have hbm : b ∈ B.na := List.mem_of_getElem? hbn
    have hv : (B.na.map V.ref)[th]? = some (.ref b) := by rw [List.getElem?_map, hbn]; rfl
    refine ⟨_, rfl, m, M, dx, _, _, rfl, h1, TM.cl, TM.nN, rfl, _, rfl, B.nl, _, _, _, rfl, rfl, SqL.of D.nl, atI_nat hv, fun p hp => ?_⟩
    have s1 : Same H (upd H p (.dK [])) := fun c o e => by rw [upd_ne (ne_of_none e hp)]; exact e
    have hx : ixN (B.na.map V.ref).length (th : Int) = some th := by
      unfold ixN
      rw [List.length_map, if_pos (by omega), if_pos (by omega)]
      rfl
    refine ⟨_, rfl, m, M, dx, _, _, rfl, s1 _ _ h1, TM.cl, TM.nN, rfl, _, rfl, B.nl, _, _, th, rfl, rfl, s1 _ _ D.nl, hx, ?_⟩
    have D1 := D.newNotes hth s1 hp upd_same
    have esm : (B.na.map V.ref).set th (.ref p) = (B.na.set th p).map V.ref := by rw [List.map_set]
    rw [esm]
    generalize hA : ({ B with na := B.na.set th p } : Adr) = B1 at D1
    have hBa : B1.a = B.a := by rw [← hA]
    have pb : b ≠ p := ne_of_none hbd hp
    have hb1 : ∀ o, upd (upd H p (.dK [])) B.nl (.lst o) b = some (.dK (nkv t l)) := fun o => by
      rw [upd_ne (ne_of hbd D.nl (by intro z; cases z)), upd_ne pb]
      exact hbd
    have hst : Step m (t + w + r) B H B1 (upd (upd H p (.dK [])) B.nl (.lst ((B.na.set th p).map V.ref))) := by
      refine ⟨fun c o e hc => ?_, fun c hc => ?_⟩
      · rw [upd_ne (fun q => hc (by rw [q]; exact .inr (.inr (.inr (.inr (.inl rfl))))))]
        exact s1 c o e
      · rw [← hA] at hc
        rcases hc with q | q | q | q | q | q | q | q
        · exact .inl (.inl q)
        · exact .inl (.inr (.inl q))
        · exact .inl (.inr (.inr (.inl q)))
        · exact .inl (.inr (.inr (.inr (.inl q))))
        · exact .inl (.inr (.inr (.inr (.inr (.inl q)))))
        · exact .inl (.inr (.inr (.inr (.inr (.inr (.inl q))))))
        · exact .inl (.inr (.inr (.inr (.inr (.inr (.inr (.inl q)))))))
        · rcases List.mem_or_eq_of_mem_set (show c ∈ B.na.set th p from q) with q | q
          · exact .inl (.inr (.inr (.inr (.inr (.inr (.inr (.inr q)))))))
          · rw [q]
            exact .inr hp
    have nfb : ¬ Foot m B1 (t + w + r) b := by
      rw [← hA]
      intro hc
      rcases hc with q | q | q | q | q | q | ⟨j, hj, q⟩ | q
      · exact ne_of hbd h1 (by intro z; cases z) q
      · exact ne_of hbd D.ps (by intro z; cases z) q
      · exact (D.d4 b hbm).1 q
      · exact (D.d4 b hbm).2 q
      · exact ne_of hbd D.nl (by intro z; cases z) q
      · exact ne_of hbd D.gl (by intro z; cases z) q
      · exact ne_of hbd (D.tr.l j hj) (by intro z; cases z) q
      · have q : b ∈ B.na.set th p := q
        obtain ⟨x, hx⟩ := List.getElem?_of_mem q
        by_cases c : x = th
        · rw [c, List.getElem?_set_self hlen] at hx
          exact pb (Option.some.inj hx).symm
        · rw [List.getElem?_set_ne (fun z => c z.symm)] at hx
          exact c (nd_ix D.nd hx hbn)
    obtain ⟨da, hlay⟩ := D.lay
    have nba : b ≠ B1.a := by
      rw [hBa]
      exact ne_of hbd hlay (by intro z; cases z)
    generalize hH2 : upd (upd H p (.dK [])) B.nl (.lst ((B.na.set th p).map V.ref)) = H2 at D1 hst
    have hb2 : H2 b = some (.dK (nkv t l)) := by rw [← hH2]; exact hb1 _
    refine ⟨b, _, hb2, trivial, fun od => ?_⟩
    have D3 := D1.outer (H' := upd H2 b (.frz od (.dK (nkv t l)))) (b := b) (fun c o e h => by rw [upd_ne h]; exact e) nfb nba
    generalize hS1 : S.withNotes (S.notes.set th []) = S1 at D1 D3 k
    have hne1 : ∀ j, j < t + w + r → S1.tr j ≠ [] := by rw [← hS1]; exact hne
    refine ⟨_, rfl, b, od, nkv t l, rfl, upd_same, for_it walk_items (fun i σ H' => ∃ c p : Option V, σ = [some (.ref m), some (.int (th : Int)), some (.ref b), c, p] ∧ MemAt C M H' m t w r B1 (fenceS S1 (l.take i)) ∧ H' b = some (.frz od (.dK (nkv t l))) ∧ Step m (t + w + r) B1 (upd H2 b (.frz od (.dK (nkv t l)))) B1 H')
      ⟨_, _, rfl, D3, upd_same, Step.refl⟩ (fun i σ H' _ ⟨_, _, _, _, q, _⟩ => q) ?_ ?_⟩
    · rintro i x σ H3 H4 hi ⟨c, pl, rfl, D4, hb4, st⟩ ⟨T0, x1, x2, rfl, nT, rfl, ex1, ex2⟩
      have hil : i < l.length := by
        unfold nkv at hi
        rw [List.length_map] at hi
        exact hi
      have hli : l[i]? = some l[i] := List.getElem?_eq_getElem hil
      have eN : (nkv t l)[i]? = some ((Sum.inl ((1 + t + l[i].1 : Nat) : Int) : Key), V.int l[i].2) := by
        unfold nkv
        rw [List.getElem?_map, hli]
        rfl
      dsimp only at ex1 ex2
      rw [eN] at ex1 ex2
      have ex1 : V.int ((1 + t + l[i].1 : Nat) : Int) = x1 := Option.some.inj ex1
      have ex2 : V.int l[i].2 = x2 := Option.some.inj ex2
      subst ex1
      subst ex2
      have sT : Same H3 (upd H3 T0 (.tup [V.int ((1 + t + l[i].1 : Nat) : Int), V.int l[i].2])) := fun c o e => by rw [upd_ne (ne_of_none e nT)]; exact e
      have D5 := D4.same sT
      have hj : l[i].1 < t + w + r := hl _ (List.getElem_mem hil)
      obtain ⟨dx5, h5⟩ := D5.ob
      refine ⟨T0, _, rfl, SqT.of upd_same, rfl, _, _, rfl, _, _, rfl, rfl, ?_⟩
      have hg : DGet (upd H3 T0 (.tup [V.int ((1 + t + l[i].1 : Nat) : Int), V.int l[i].2])) B1.ld (.int ((1 + t + l[i].1 : Nat) : Int)) (some (.int ((fenceS S1 (l.take i)).lost l[i].1))) := by
        have := DGet.k (k := (Sum.inl ((1 + t + l[i].1 : Nat) : Int) : Key)) D5.ld
        rw [show ((1 + t + l[i].1 : Nat) : Int) = ((1 + t : Nat) : Int) + (l[i].1 : Int) by omega, kv_val _ _ _ _ hj, show ((1 + t : Nat) : Int) + (l[i].1 : Int) = ((1 + t + l[i].1 : Nat) : Int) by omega] at this
        exact this
      refine ⟨_, rfl, m, dx5, _, rfl, h5, rfl, _, rfl, _, rfl, _, rfl, m, M, dx5, _, _, rfl, h5, TM.cl, TM.nO, rfl, _, rfl, B1.ld, _, rfl, hg, _, _, rfl, rfl, m, t, w, r, l[i].1, B1, _, _, rfl, nok, D5, hj, fence_ne hne1 _ hj, fun H6 D6 st6 => ?_⟩
      refine ⟨_, _, rfl, ?_, ?_, (st.trans (Step.same sT)).trans st6⟩
      · rw [fenceS_take hli]
        exact D6
      · exact st6.chg _ _ (sT _ _ hb4) nfb
    · rintro σ H3 ⟨c, pl, rfl, D4, hb4, st⟩
      have el : l.take (nkv t l).length = l := by
        unfold nkv
        rw [List.length_map, List.take_length]
      rw [el] at D4
      refine ⟨hb4, ?_⟩
      refine k B1 _ hBa (D4.outer (b := b) (fun c o e h => by rw [upd_ne h]; exact e) nfb nba) ?_
      refine hst.trans ⟨fun c o e hc => ?_, fun c hc => .inl hc⟩
      by_cases q : c = b
      · subst q
        rw [upd_same, ← e]
        exact hb2.symm
      · rw [upd_ne q]
        refine st.chg c o ?_ hc
        rw [upd_ne q]
        exact e
end
end Dk

set_option maxHeartbeats 4000000
/-! an access -/
namespace Dk
open PySem PySem.Spec PyProof.Rows L2
abbrev sAccess : Stmt := inClass (top 25) 1
abbrev sResult : Stmt := inClass (top 25) 9
def putN (l : List (Nat × Int)) (j : Nat) (x : Int) : List (Nat × Int) := if (l.any fun p => decide (p.1 = j)) = true then l.map (fun p => if p.1 = j then (p.1, x) else p) else l ++ [(j, x)]
theorem putN_kv (t : Nat) (l : List (Nat × Int)) (j : Nat) (x : Int) : putK (nkv t l) (Sum.inl ((1 + t + j : Nat) : Int) : Key) (.int x) = nkv t (putN l j x) := by
  have ek : ∀ p : Nat × Int, ((Sum.inl ((1 + t + p.1 : Nat) : Int) : Key) = Sum.inl ((1 + t + j : Nat) : Int)) ↔ p.1 = j := fun p => ⟨fun e => by have := Sum.inl.inj e; omega, fun e => by rw [e]⟩
  have ea : ((nkv t l).any fun kv => decide (kv.1 = (Sum.inl ((1 + t + j : Nat) : Int) : Key))) = (l.any fun p => decide (p.1 = j)) := by
    unfold nkv
    rw [List.any_map]
    congr 1
    funext p
    exact decide_eq_decide.mpr (ek p)
  unfold putK putN
  rw [ea]
  by_cases c : (l.any fun p => decide (p.1 = j)) = true
  · rw [if_pos c, if_pos c]
    unfold nkv
    rw [List.map_map, List.map_map]
    refine List.map_congr_left fun p _ => ?_
    show (if (Sum.inl ((1 + t + p.1 : Nat) : Int) : Key) = Sum.inl ((1 + t + j : Nat) : Int) then _ else _) = _
    by_cases e : p.1 = j
    · rw [if_pos ((ek p).mpr e)]
      show _ = ((Sum.inl ((1 + t + (if p.1 = j then (p.1, x) else p).1 : Nat) : Int) : Key), V.int (if p.1 = j then (p.1, x) else p).2)
      rw [if_pos e]
    · rw [if_neg (fun q => e ((ek p).mp q))]
      show _ = ((Sum.inl ((1 + t + (if p.1 = j then (p.1, x) else p).1 : Nat) : Int) : Key), V.int (if p.1 = j then (p.1, x) else p).2)
      rw [if_neg e]
  · rw [if_neg c, if_neg c]
    unfold nkv
    rw [List.map_append]
    rfl
theorem putN_len (l : List (Nat × Int)) (j : Nat) (x : Int) : (putN l j x).length ≤ l.length + 1 := by
  unfold putN
  split
  · rw [List.length_map]; omega
  · rw [List.length_append, List.length_singleton]; omega
theorem putN_mem {l : List (Nat × Int)} {j n : Nat} {x : Int} (h : ∀ p, p ∈ l → p.1 < n) (hj : j < n) : ∀ p, p ∈ putN l j x → p.1 < n := by
  intro p hp
  unfold putN at hp
  split at hp
  · obtain ⟨q, hq, e⟩ := List.mem_map.mp hp
    split at e
    · rw [← e]; exact h q hq
    · rw [← e]; exact h q hq
  · rcases List.mem_append.mp hp with m | m
    · exact h p m
    · rw [List.mem_singleton.mp m]; exact hj
/-- what a memory's state keeps to -/
structure SOk (S : MS) (t n B : Nat) : Prop where
  psl : S.ps.length = 1 + t
  tne : ∀ j, j < n → S.tr j ≠ []
  tlen : ∀ j, j < n → (S.tr j).length ≤ B + 1
  nts : ∀ th, th < t → ∃ l, S.notes[th]? = some (nkv t l) ∧ (∀ p, p ∈ l → p.1 < n) ∧ l.length ≤ B
  log : S.log.length ≤ B
/-- what an access gives, and what the memory holds behind it -/
def Res (K : PySem.W.Frag) (S : MS) (t th : Nat) (H H' : Hp) : Rq → V → MS → Prop
  | .read i, v, S' => cellV S t i = some v ∧ S' = S
  | .write i x, v, S' => v = .non ∧ S' = S.give t i x
  | .swap i o n, v, S' => ∃ p tp to, cellV S t i = some p ∧ Dvl K H p tp ∧ Dvl K H o to ∧ ((tp = to ∧ v = .bl true ∧ S' = S.give t i n) ∨ (tp ≠ to ∧ v = .bl false ∧ S' = S))
  | .decide i x, v, S' => ∃ p tp, cellV S t i = some p ∧ Dvl K H p tp ∧ ((tp = .sc (.int 0) ∧ v = .bl true ∧ ∃ q, H' q = some (.tup [.str x, .int S.count]) ∧ S' = S.give t i (.ref q)) ∨ (tp ≠ .sc (.int 0) ∧ v = .bl false ∧ S' = S))
  | .flush i, v, S' => v = .non ∧ ∃ l, S.notes[th]? = some (nkv t l) ∧ S' = S.withNotes (S.notes.set th (nkv t (putN l (i - (1 + t)) (S.lost (i - (1 + t)) + ((S.tr (i - (1 + t))).length : Int) - 1))))
  | .fence, v, S' => v = .non ∧ ∃ l, S.notes[th]? = some (nkv t l) ∧ S' = fenceS (S.withNotes (S.notes.set th [])) l
/-- the present value where it is compared -/
def Rq.flatAt (K : PySem.W.Frag) (H : Hp) (S : MS) (t : Nat) : Rq → Prop
  | .swap i _ _ => ∃ p tp, cellV S t i = some p ∧ Dvl K H p tp
  | .decide i _ => ∃ p tp, cellV S t i = some p ∧ Dvl K H p tp
  | _ => True
theorem SOk.cell {S : MS} {t n B i : Nat} (h : SOk S t n B) (hi : i < 1 + t + n) : ∃ v, cellV S t i = some v := by
  unfold cellV
  by_cases c : i < 1 + t
  · rw [if_pos c]
    exact ⟨_, List.getElem?_eq_getElem (by rw [h.psl]; exact c)⟩
  · rw [if_neg c]
    have := h.tne (i - (1 + t)) (by omega)
    exact ⟨_, List.getLast?_eq_some_getLast this⟩
def spResult (K : PySem.W.Frag) (C M : Addr) : Sp := fun vs H Q _ => ∃ (m : Addr) (t w r th B : Nat) (A : Adr) (S : MS) (rq : Rq) (q : Addr), vs = [.ref m, .int (th : Int), .ref q] ∧ NOk t w r ∧ MemAt C M H m t w r A S ∧ th < t ∧ H q = some (.tup rq.vs) ∧ rq.ok t w r ∧ SOk S t (t + w + r) B ∧ B + 5 < sizeLine ∧ rq.vals K H ∧ rq.flatAt K H S t ∧
  ∀ (v : V) (A' : Adr) (S' : MS) (H' : Hp), A'.a = A.a → Res K S t th H H' rq v S' → MemAt C M H' m t w r A' S' → Step m (t + w + r) A H A' H' → Q v H'
section
variable {P : Program} {w : World} {K : PySem.W.Frag} {mg : Str → Option Value} {base : Heap} {C M NV LE : Addr}
abbrev NR : List Str := ["self", "thread", "request", "cell", "value", "old", "new", "word"]
theorem scResult : FnScope NR ["self", "thread", "request"] (defScope sResult) := ⟨rfl, rfl, rfl, by decide +kernel, rfl, by decide +kernel, by decide +kernel⟩
theorem mo_result (F : MT K M "_result" "Memory._result" sResult ["self", "thread", "request"]) (T : LTxt K mg C) (TM : MTxt K M) (GP : MO P w K mg base CX0 M 8 "peek" ["self", "cell"] (spPeek C M)) (GG : MO P w K mg base CX0 M 8 "_give" ["self", "cell", "value"] (spGive C M))
    (GI : MO P w K mg base CX0 M 9 "_give_if" ["self", "cell", "old", "new"] (spGiveIf K C M)) (GF : MO P w K mg base CX0 M 2 "_fence" ["self", "thread"] (spFence C M)) : MO P w K mg base CX0 M 10 "_result" ["self", "thread", "request"] (spResult K C M) := by
  obtain ⟨f, fd, F, hm, hb⟩ := F
  refine ⟨f, fd, ?_, hm, hb⟩
  refine F.ok scResult (fun vs H Q E h => ?_) (fun cdv A outer s H vs Q E hr h => ?_)
  · obtain ⟨m, t, w, r, th, B, A, S, rq, q, rfl, _⟩ := h
    rfl
  · obtain ⟨m, t, w, r, th, B, A0, S, rq, q, rfl, nok, D, hth, hq, ok, so, hB, vals, hfl, k⟩ := h
    obtain ⟨dx, h1⟩ := D.ob
    have hu := hu_of hr
    have nd := scResult.nd
    have hr8 : Room 8 _ := hr.mono (by decide)
    have hr2 : Room 2 _ := hr.mono (by decide)
    refine ⟨_, pss_cons (ps_match (pv 2)
        (pms_case (is := [3]) rfl nd (.cons rfl rfl .nil) (pss_one (ps_ret (pm_ GP TM.cl hr8 (pv 0) (pa_cons (pv 3) pa_nil))))
        (pms_case (is := [3, 4]) rfl nd (.cons rfl rfl (.cons rfl rfl .nil)) (pss_one (ps_expr (pm_ GG TM.cl hr8 (pv 0) (pa_cons (pv 3) (pa_cons (pv 4) pa_nil)))))
        (pms_case (is := [3, 5, 6]) rfl nd (.cons rfl rfl (.cons rfl rfl (.cons rfl rfl .nil))) (pss_one (ps_ret (pm_ GI TM.cl hr (pv 0) (pa_cons (pv 3) (pa_cons (pv 5) (pa_cons (pv 6) pa_nil))))))
        (pms_case (is := [3, 7]) rfl nd (.cons rfl rfl (.cons rfl rfl .nil)) (pss_one (ps_ret (pm_ GI TM.cl hr (pv 0) (pa_cons (pv 3) (pa_cons pe_int (pa_cons (pe_tup (pa_cons (pv 7) (pa_cons (pe_fld (pv 0) rfl) pa_nil))) pa_nil))))))
        (pms_case (is := [3]) rfl nd (.cons rfl rfl .nil) (pss_one (ps_dput hu (pe_ix ix_list (pe_fld (pv 0) rfl) (pv 1) (fun _ _ => rfl)) (pv 3)
          (pe_op op_sub (pe_op op_add (pe_dget hu (pe_fld (pv 0) rfl) (pv 3) (fun _ _ => rfl)) (pe_callB call_len_seq (by rfl) T.bn.len PySem.boot_len (pa_cons (pe_dget hu (pe_fld (pv 0) rfl) (pv 3) (fun _ _ => rfl)) pa_nil))) pe_int) rfl))
        (pms_case (is := []) rfl nd .nil (pss_one (ps_expr (pm_ GF TM.cl hr2 (pv 0) (pa_cons (pv 1) pa_nil)))) pms_nil)))))))
      (pss_one (ps_ret pe_non)), ?_⟩
    refine ⟨_, rfl, q, _, rfl, SqT.of hq, ?_⟩
    cases rq with
    | read i =>
      obtain ⟨v, hv⟩ := so.cell ok
      refine mhit rfl ?_
      exact ⟨_, rfl, m, dx, _, rfl, h1, rfl, _, rfl, m, t, w, r, i, A0, S, v, rfl, D, ok, hv, k v A0 S H rfl ⟨hv, rfl⟩ D Step.refl⟩
    | write i x =>
      have ok : i < 1 + t + (t + w + r) := ok
      refine mmiss (by decide +kernel) (mhit rfl ?_)
      refine ⟨_, rfl, m, dx, _, rfl, h1, rfl, _, rfl, _, rfl, m, t, w, r, i, A0, S, x, rfl, D, ok, fun c => by rw [so.psl]; exact c, fun c => by have := so.tlen (i - (1 + t)) (by omega); omega, fun H' D' s' => ?_⟩
      exact k .non A0 _ H' rfl ⟨rfl, rfl⟩ D' s'
    | swap i o n =>
      have ok : i < 1 + t + (t + w + r) := ok
      obtain ⟨⟨to, fo⟩, tn, fn⟩ := vals
      obtain ⟨p, tp, hp, fp⟩ := hfl
      refine mmiss (by decide +kernel) (mmiss (by decide +kernel) (mhit rfl ?_))
      refine ⟨_, rfl, m, dx, _, rfl, h1, rfl, _, rfl, _, rfl, _, rfl, m, t, w, r, i, A0, S, o, n, p, tp, to, rfl, D, ok, hp, fp, fo, fun c => by rw [so.psl]; exact c, fun c => by have := so.tlen (i - (1 + t)) (by omega); omega, fun e H' D' s' => ?_, fun e H' s' => ?_⟩
      · exact k _ A0 _ H' rfl ⟨p, tp, to, hp, fp, fo, .inl ⟨e, rfl, rfl⟩⟩ D' s'
      · exact k _ A0 _ H' rfl ⟨p, tp, to, hp, fp, fo, .inr ⟨e, rfl, rfl⟩⟩ (D.same s') (Step.same s')
    | decide i x =>
      have ok : i < 1 + t + (t + w + r) := ok
      obtain ⟨p, tp, hp, fp⟩ := hfl
      refine mmiss (by decide +kernel) (mmiss (by decide +kernel) (mmiss (by decide +kernel) (mhit rfl ?_)))
      refine ⟨_, rfl, m, dx, _, rfl, h1, rfl, _, rfl, _, rfl, _, rfl, m, M, dx, _, _, rfl, h1, TM.cl, TM.nC, rfl, (by show 2 ≤ sizeLine; decide), fun u hu' => ?_⟩
      have s1 : Same H (upd H u (.tup [V.str x, V.int S.count])) := fun b o e => by rw [upd_ne (ne_of_none e hu')]; exact e
      refine ⟨m, t, w, r, i, A0, S, .int 0, .ref u, p, tp, .sc (.int 0), rfl, D.same s1, ok, hp, fp.same s1, Dvl.int 0, fun c => by rw [so.psl]; exact c, fun c => by have := so.tlen (i - (1 + t)) (by omega); omega, fun e H' D' s' => ?_, fun e H' s' => ?_⟩
      · refine k _ A0 _ H' rfl ⟨p, tp, hp, fp, .inl ⟨e, rfl, u, ?_, rfl⟩⟩ D' ((Step.same s1).trans s')
        refine s'.chg _ _ upd_same fun hf => ?_
        rcases hf with q | q | q | q | q | q | ⟨j, hj, q⟩ | q
        · exact ne_of_none h1 hu' q.symm
        · exact ne_of_none D.ps hu' q.symm
        · exact ne_of_none D.tr.d hu' q.symm
        · exact ne_of_none D.ld hu' q.symm
        · exact ne_of_none D.nl hu' q.symm
        · exact ne_of_none D.gl hu' q.symm
        · exact ne_of_none (D.tr.l j hj) hu' q.symm
        · obtain ⟨z, hz⟩ := List.getElem?_of_mem q
          obtain ⟨ns, _, e2⟩ := D.no z u hz
          exact ne_of_none e2 hu' rfl
      · exact k _ A0 _ H' rfl ⟨p, tp, hp, fp, .inr ⟨e, rfl, rfl⟩⟩ ((D.same s1).same s') ((Step.same s1).trans (Step.same s'))
    | flush i =>
      obtain ⟨o1, o2⟩ := ok
      have hj : i - (1 + t) < t + w + r := by omega
      obtain ⟨l, hl, hl2, hl3⟩ := so.nts th hth
      have hlen : th < A0.na.length := by rw [D.nn]; exact hth
      obtain ⟨b, hbn⟩ : ∃ b, A0.na[th]? = some b := ⟨A0.na[th], List.getElem?_eq_getElem hlen⟩
      obtain ⟨ns, e1, hbd⟩ := D.no th b hbn
      rw [hl] at e1
      have e1 := (Option.some.inj e1).symm
      subst e1
      have hv : (A0.na.map V.ref)[th]? = some (.ref b) := by rw [List.getElem?_map, hbn]; rfl
      refine mmiss (by decide +kernel) (mmiss (by decide +kernel) (mmiss (by decide +kernel) (mmiss (by decide +kernel) (mhit rfl ?_))))
      have hg : DGet H A0.ld (.int (i : Int)) (some (.int (S.lost (i - (1 + t))))) := by
        have := DGet.k (k := (Sum.inl (i : Int) : Key)) D.ld
        rw [show (i : Int) = ((1 + t : Nat) : Int) + ((i - (1 + t) : Nat) : Int) by omega, kv_val _ _ _ _ hj, show ((1 + t : Nat) : Int) + ((i - (1 + t) : Nat) : Int) = (i : Int) by omega] at this
        exact this
      refine ⟨_, rfl, m, M, dx, _, _, rfl, h1, TM.cl, TM.nO, rfl, _, rfl, A0.ld, _, rfl, hg, _, rfl, m, M, dx, _, _, rfl, h1, TM.cl, TM.nT, rfl, _, rfl, A0.td, _, rfl, tr_get D o1 o2, A0.tl (i - (1 + t)), _, rfl, .inl (SqL.of (D.tr.l _ hj)), _, _, rfl, rfl, _, _, rfl, rfl, ?_⟩
      refine ⟨_, rfl, m, M, dx, _, _, rfl, h1, TM.cl, TM.nN, rfl, _, rfl, A0.nl, _, _, _, rfl, rfl, SqL.of D.nl, atI_nat hv, _, rfl, b, _, rfl, DPut.k (k := Sum.inl _) hbd (by unfold nkv; rw [List.length_map]; omega), ?_⟩
      have ek : (Sum.inl (i : Int) : Key) = Sum.inl ((1 + t + (i - (1 + t)) : Nat) : Int) := by rw [show 1 + t + (i - (1 + t)) = i by omega]
      rw [ek, putN_kv]
      exact k .non A0 _ _ rfl ⟨rfl, l, hl, rfl⟩ (D.setNotes hbn _) (Step.up (.inr (.inr (.inr (.inr (.inr (.inr (.inr (List.mem_of_getElem? hbn)))))))))
    | fence =>
      obtain ⟨l, hl, hl2, hl3⟩ := so.nts th hth
      refine mmiss (by decide +kernel) (mmiss (by decide +kernel) (mmiss (by decide +kernel) (mmiss (by decide +kernel) (mmiss (by decide +kernel) (mhit rfl ?_)))))
      refine ⟨_, rfl, m, dx, _, rfl, h1, rfl, _, rfl, m, t, w, r, th, A0, S, l, rfl, nok, D, hth, hl, hl2, so.tne, fun A' H' ea D' s' => ?_⟩
      exact k .non A' _ H' ea ⟨rfl, l, hl, rfl⟩ D' s'
end
end Dk

set_option maxHeartbeats 4000000
/-! access; drift -/
namespace Dk
open PySem PySem.Spec PyProof.Rows L2
theorem SOk.mono {S : MS} {t n B B' : Nat} (h : SOk S t n B) (hb : B ≤ B') : SOk S t n B' := ⟨h.psl, h.tne, fun j hj => by have := h.tlen j hj; omega, fun th hth => let ⟨l, a, b, c⟩ := h.nts th hth; ⟨l, a, b, by omega⟩, by have := h.log; omega⟩
theorem SOk.logged {S : MS} {t n B : Nat} {c : Int} {x : V} (h : SOk S t n B) : SOk ((S.withCount c).withLog (S.log ++ [x])) t n (B + 1) := by
  refine ⟨h.psl, h.tne, fun j hj => ?_, fun th hth => ?_, ?_⟩
  · have := h.tlen j hj
    show (S.tr j).length ≤ B + 1 + 1
    omega
  · obtain ⟨l, a, b, c⟩ := h.nts th hth
    exact ⟨l, a, b, by omega⟩
  · show (S.log ++ [x]).length ≤ B + 1
    rw [List.length_append, List.length_singleton]
    have := h.log
    omega
theorem SOk.give {S : MS} {t n B i : Nat} {v : V} (h : SOk S t n B) (hi : i < 1 + t + n) : SOk (S.give t i v) t n (B + 1) := by
  have h' := h.mono (Nat.le_succ B)
  unfold MS.give
  by_cases c : i < 1 + t
  · rw [if_pos c]
    refine ⟨?_, h.tne, h'.tlen, h'.nts, h'.log⟩
    show (S.ps.set i v).length = 1 + t
    rw [List.length_set, h.psl]
  · rw [if_neg c]
    refine ⟨h.psl, fun j hj => ?_, fun j hj => ?_, h'.nts, h'.log⟩
    · show sett S.tr (i - (1 + t)) (S.tr (i - (1 + t)) ++ [v]) j ≠ []
      by_cases e : j = i - (1 + t)
      · rw [e, sett_same]
        intro z
        have := congrArg List.length z
        rw [List.length_append, List.length_singleton, List.length_nil] at this
        omega
      · rw [sett_ne e]; exact h.tne j hj
    · show (sett S.tr (i - (1 + t)) (S.tr (i - (1 + t)) ++ [v]) j).length ≤ B + 1 + 1
      by_cases e : j = i - (1 + t)
      · rw [e, sett_same, List.length_append, List.length_singleton]
        have := h.tlen (i - (1 + t)) (by omega)
        omega
      · rw [sett_ne e]
        have := h.tlen j hj
        omega
theorem SOk.short {S : MS} {t n B j : Nat} {k : Int} (h : SOk S t n B) : SOk (S.short j k) t n B := by
  refine ⟨h.psl, short_ne h.tne, fun i hi => ?_, h.nts, h.log⟩
  show (sett S.tr j ((S.tr j).drop (cutN (S.tr j).length k)) i).length ≤ B + 1
  by_cases e : i = j
  · rw [e, sett_same, List.length_drop]
    have := h.tlen j (by omega)
    omega
  · rw [sett_ne e]; exact h.tlen i hi
theorem SOk.fence {t n B : Nat} : ∀ {l : List (Nat × Int)} {S : MS}, SOk S t n B → SOk (fenceS S l) t n B
  | [], _, h => h
  | p :: l, S, h => SOk.fence (l := l) (S := S.short p.1 (p.2 - S.lost p.1)) h.short
theorem SOk.notes {S : MS} {t n B th : Nat} {l : List (Nat × Int)} (h : SOk S t n B) (hl : ∀ p, p ∈ l → p.1 < n) (hb : l.length ≤ B) : SOk (S.withNotes (S.notes.set th (nkv t l))) t n B := by
  refine ⟨h.psl, h.tne, h.tlen, fun k hk => ?_, h.log⟩
  show ∃ l', (S.notes.set th (nkv t l))[k]? = some (nkv t l') ∧ _
  obtain ⟨l0, a, b, c⟩ := h.nts k hk
  by_cases e : k = th
  · subst e
    exact ⟨l, List.getElem?_set_self (List.getElem?_eq_some_iff.mp a).1, hl, hb⟩
  · exact ⟨l0, by rw [List.getElem?_set_ne (fun z => e z.symm)]; exact a, b, c⟩
theorem Res.ok {K : PySem.W.Frag} {S S' : MS} {t w r th B : Nat} {H H' : Hp} {rq : Rq} {v : V} (R : Res K S t th H H' rq v S') (ok : rq.ok t w r) (hth : th < t) (h : SOk S t (t + w + r) B) : SOk S' t (t + w + r) (B + 1) := by
  cases rq with
  | read i => obtain ⟨_, rfl⟩ := R; exact h.mono (Nat.le_succ B)
  | write i x => obtain ⟨_, rfl⟩ := R; exact h.give ok
  | swap i o n =>
    obtain ⟨p, _, _, _, _, _, ⟨_, _, rfl⟩ | ⟨_, _, rfl⟩⟩ := R
    · exact h.give ok
    · exact h.mono (Nat.le_succ B)
  | decide i x =>
    obtain ⟨p, _, _, _, ⟨_, _, q, _, rfl⟩ | ⟨_, _, rfl⟩⟩ := R
    · exact h.give ok
    · exact h.mono (Nat.le_succ B)
  | flush i =>
    obtain ⟨_, l, hl, rfl⟩ := R
    obtain ⟨o1, o2⟩ := ok
    obtain ⟨l0, a, b, c⟩ := h.nts th hth
    rw [hl] at a
    have e : l = l0 := by
      have e1 := Option.some.inj a
      have inj : ∀ (x y : List (Nat × Int)), nkv t x = nkv t y → x = y := fun x => by
        induction x with
        | nil => intro y e; cases y with | nil => rfl | cons _ _ => cases e
        | cons p x ih =>
          intro y e
          cases y with
          | nil => cases e
          | cons q y =>
            have e : ((Sum.inl ((1 + t + p.1 : Nat) : Int) : Key), V.int p.2) :: nkv t x = ((Sum.inl ((1 + t + q.1 : Nat) : Int) : Key), V.int q.2) :: nkv t y := e
            injection e with e1 e2
            have e3 := Sum.inl.inj (congrArg Prod.fst e1)
            have e4 := V.int.inj (congrArg Prod.snd e1)
            rw [ih y e2]
            have : p = q := Prod.ext (by omega) e4
            rw [this]
      exact inj _ _ e1
    subst e
    exact (h.mono (Nat.le_succ B)).notes (putN_mem b (by omega)) (by have := putN_len l (i - (1 + t)) (S.lost (i - (1 + t)) + ((S.tr (i - (1 + t))).length : Int) - 1); omega)
  | fence =>
    obtain ⟨_, l, hl, rfl⟩ := R
    exact SOk.fence ((h.mono (Nat.le_succ B)).notes (l := []) (fun p hp => by cases hp) (Nat.zero_le _))
theorem short_count {S : MS} {j : Nat} {k : Int} : (S.short j k).count = S.count ∧ (S.short j k).log = S.log := ⟨rfl, rfl⟩
theorem fence_count : ∀ {l : List (Nat × Int)} {S : MS}, (fenceS S l).count = S.count ∧ (fenceS S l).log = S.log
  | [], _ => ⟨rfl, rfl⟩
  | p :: l, S => fence_count (l := l) (S := S.short p.1 (p.2 - S.lost p.1))
theorem give_count {S : MS} {t i : Nat} {v : V} : (S.give t i v).count = S.count ∧ (S.give t i v).log = S.log := by
  unfold MS.give
  split <;> exact ⟨rfl, rfl⟩
theorem Res.count {K : PySem.W.Frag} {S S' : MS} {t th : Nat} {H H' : Hp} {rq : Rq} {v : V} (R : Res K S t th H H' rq v S') : S'.count = S.count ∧ S'.log = S.log := by
  cases rq with
  | read i => obtain ⟨_, rfl⟩ := R; exact ⟨rfl, rfl⟩
  | write i x => obtain ⟨_, rfl⟩ := R; exact give_count
  | swap i o n =>
    obtain ⟨p, _, _, _, _, _, ⟨_, _, rfl⟩ | ⟨_, _, rfl⟩⟩ := R
    · exact give_count
    · exact ⟨rfl, rfl⟩
  | decide i x =>
    obtain ⟨p, _, _, _, ⟨_, _, q, _, rfl⟩ | ⟨_, _, rfl⟩⟩ := R
    · exact give_count
    · exact ⟨rfl, rfl⟩
  | flush i => obtain ⟨_, l, hl, rfl⟩ := R; exact ⟨rfl, rfl⟩
  | fence => obtain ⟨_, l, hl, rfl⟩ := R; exact fence_count
theorem Res.ext {K : PySem.W.Frag} {S S' : MS} {t th : Nat} {H0 H H' H1 : Hp} {rq : Rq} {v : V} (R : Res K S t th H0 H rq v S') (s0 : ExT H0 H1) (s : ExT H H') : Res K S t th H1 H' rq v S' := by
  cases rq with
  | swap i o n =>
    obtain ⟨p, tp, to, h1, h2, h3, h4⟩ := R
    exact ⟨p, tp, to, h1, h2.ext s0, h3.ext s0, h4⟩
  | decide i x =>
    obtain ⟨p, tp, hp, h2, ⟨e1, e2, q, hq, e3⟩ | h⟩ := R
    · exact ⟨p, tp, hp, h2.ext s0, .inl ⟨e1, e2, q, s.1 _ _ hq, e3⟩⟩
    · exact ⟨p, tp, hp, h2.ext s0, .inr h⟩
  | _ => exact R
theorem flatAt_log {K : PySem.W.Frag} {H : Hp} {S : MS} {t : Nat} {c : Int} {l : List V} {rq : Rq} (h : rq.flatAt K H S t) : rq.flatAt K H ((S.withCount c).withLog l) t := by
  cases rq <;> exact h
theorem flatAt_ext {K : PySem.W.Frag} {H H' : Hp} {S : MS} {t : Nat} {rq : Rq} (h : rq.flatAt K H S t) (s : ExT H H') : rq.flatAt K H' S t := by
  cases rq with
  | swap i o n => exact let ⟨p, tp, h1, h2⟩ := h; ⟨p, tp, h1, h2.ext s⟩
  | decide i x => exact let ⟨p, tp, h1, h2⟩ := h; ⟨p, tp, h1, h2.ext s⟩
  | _ => exact h
theorem vals_ext {K : PySem.W.Frag} {H H' : Hp} {rq : Rq} (h : rq.vals K H) (s : ExT H H') : rq.vals K H' := by
  cases rq with
  | write i v => exact let ⟨t, h⟩ := h; ⟨t, h.ext s⟩
  | swap i o n => exact let ⟨⟨t, h⟩, u, h2⟩ := h; ⟨⟨t, h.ext s⟩, u, h2.ext s⟩
  | _ => trivial
theorem tup_out {C M : Addr} {H : Hp} {m : Addr} {t w r : Nat} {A : Adr} {S : MS} (D : MemAt C M H m t w r A S) {u : Addr} {xs : List V} (hu : H u = some (.tup xs)) : ¬ Foot m A (t + w + r) u := fun hf => by
  obtain ⟨dx, h1⟩ := D.ob
  rcases hf with q | q | q | q | q | q | ⟨j, hj, q⟩ | q
  · exact ne_of hu h1 (by intro z; cases z) q
  · exact ne_of hu D.ps (by intro z; cases z) q
  · exact ne_of hu D.tr.d (by intro z; cases z) q
  · exact ne_of hu D.ld (by intro z; cases z) q
  · exact ne_of hu D.nl (by intro z; cases z) q
  · exact ne_of hu D.gl (by intro z; cases z) q
  · exact ne_of hu (D.tr.l j hj) (by intro z; cases z) q
  · obtain ⟨z, hz⟩ := List.getElem?_of_mem q
    obtain ⟨ns, _, e2⟩ := D.no z u hz
    exact ne_of hu e2 (by intro z; cases z) rfl
theorem frz_out {C M : Addr} {H : Hp} {m : Addr} {t w r : Nat} {A : Adr} {S : MS} (D : MemAt C M H m t w r A S) {u : Addr} {o : Obj} {x : HO} (hu : H u = some (.frz o x)) : ¬ Foot m A (t + w + r) u := fun hf => by
  obtain ⟨dx, h1⟩ := D.ob
  rcases hf with q | q | q | q | q | q | ⟨j, hj, q⟩ | q
  · exact ne_of hu h1 (by intro z; cases z) q
  · exact ne_of hu D.ps (by intro z; cases z) q
  · exact ne_of hu D.tr.d (by intro z; cases z) q
  · exact ne_of hu D.ld (by intro z; cases z) q
  · exact ne_of hu D.nl (by intro z; cases z) q
  · exact ne_of hu D.gl (by intro z; cases z) q
  · exact ne_of hu (D.tr.l j hj) (by intro z; cases z) q
  · obtain ⟨z, hz⟩ := List.getElem?_of_mem q
    obtain ⟨ns, _, e2⟩ := D.no z u hz
    exact ne_of hu e2 (by intro z; cases z) rfl
theorem Step.ext {C M : Addr} {H H' : Hp} {m : Addr} {t w r : Nat} {A A' : Adr} {S : MS} (st : Step m (t + w + r) A H A' H') (D : MemAt C M H m t w r A S) : ExT H H' :=
  ⟨fun b xs e => st.chg b _ e (tup_out D e), fun b o xs e => st.chg b _ e (frz_out D e)⟩
/-- o.m(e, ..) of a method that may raise, where it doesn't -/
theorem pmX_ {X : Cx} {k : Nat} {C : Addr} {ps : List Str} {sp : Sp} {m : Str} {apos pos : Pos} {e o : Expr} {es : List Expr} {ta : TE} {t : TA} {pl : Sem Bool} (G : MO X.prog X.w X.K X.mg X.base (L2.CX X.prog X.w) C k m ps sp) (c : Cls X.K C) (hr : Room k X.A) (he : PE X o ta) (ha : PA X (e :: es) t)
    (hst : starEach (e :: es) X.env = (false, eval e X.env) :: starEach es X.env := by rfl) (hpl : (backTo pos (starEach es X.env)).any (·.1) = false := by rfl)
    (ht : eval (.Call (.Attribute o m apos) (e :: es) [] pos) X.env = (do
      let ov ← eval o X.env
      standAt apos.atName
      let (f, first) ← holding [ov] (getMethod ov m pl)
      callWith pos f first (backTo pos (starEach (e :: es) X.env)) (backToKw pos (keywordEach [] X.env))) := by rfl) : PE X (.Call (.Attribute o m apos) (e :: es) [] pos) (tMeth C m sp [] E0 ta t) := by
  obtain ⟨f, fd, F, hm, hb⟩ := G
  exact pe_meth he c hm F hr hb .nil passL ha hst hpl ht
def spAccess (K : PySem.W.Frag) (C M : Addr) : Sp := fun vs H Q _ => ∃ (m : Addr) (t w r th B : Nat) (A : Adr) (S : MS) (rq : Rq) (q : Addr), vs = [.ref m, .int (th : Int), .ref q] ∧ NOk t w r ∧ MemAt C M H m t w r A S ∧ th < t ∧ H q = some (.tup rq.vs) ∧ rq.ok t w r ∧ SOk S t (t + w + r) B ∧ B + 6 < sizeLine ∧ rq.vals K H ∧ rq.flatAt K H S t ∧
  ∀ (v x : V) (p : Addr) (A' : Adr) (S' : MS) (H' : Hp), A'.a = A.a → Res K ((S.withCount (S.count + 1)).withLog (S.log ++ [x])) t th H' H' rq v S' → H' p = some (.tup [v, .int (S.count + 1)]) → SOk S' t (t + w + r) (B + 2) → MemAt C M H' m t w r A' S' → Step m (t + w + r) A H A' H' → Q (.ref p) H'
section
variable {P : Program} {w : World} {K : PySem.W.Frag} {mg : Str → Option Value} {base : Heap} {C M NV LE : Addr}
theorem scAccess : FnScope ["self", "thread", "request"] ["self", "thread", "request"] (defScope sAccess) := ⟨rfl, rfl, rfl, by decide +kernel, rfl, by decide +kernel, by decide +kernel⟩
theorem mo_access (F : MT K M "access" "Memory.access" sAccess ["self", "thread", "request"]) (T : LTxt K mg C) (TM : MTxt K M) (GH : MO P w K mg base CX0 C 3 "has_thread" ["self", "thread"] (spHasT C)) (GA : GO P w K mg base CX0 8 "is_access" ["layout", "request"] (spIsAcc K C))
    (GR : MO P w K mg base CX0 M 10 "_result" ["self", "thread", "request"] (spResult K C M)) : MO P w K mg base CX0 M 11 "access" ["self", "thread", "request"] (spAccess K C M) := by
  obtain ⟨f, fd, F, hm, hb⟩ := F
  refine ⟨f, fd, ?_, hm, hb⟩
  refine F.ok scAccess (fun vs H Q E h => ?_) (fun cdv A outer s H vs Q E hr h => ?_)
  · obtain ⟨m, t, w, r, th, B, A, S, rq, q, rfl, _⟩ := h
    rfl
  · obtain ⟨m, t, w, r, th, B, A0, S, rq, q, rfl, nok, D, hth, hq, ok, so, hB, vals, hfl, k⟩ := h
    obtain ⟨dx, h1⟩ := D.ob
    obtain ⟨da, ha⟩ := D.lay
    have hr3 : Room 3 _ := hr.mono (by decide)
    have hr8 : Room 8 _ := hr.mono (by decide)
    refine ⟨_, pss_cons (ps_if (PW.pt (pw_or (pt_not (pt_val (pm_ GH T.cl hr3 (pe_fld (pv 0) rfl) (pa_cons (pv 1) pa_nil)))) (pw_or1 (pt_not (pt_val (pc_ GA hr8 (pa_cons (pe_fld (pv 0) rfl) (pa_cons (pv 2) pa_nil)))))))) (pss_one ps_never) pss_nil)
      (pss_cons (ps_fldaug (pv 0) pe_int in_add)
      (pss_cons (ps_expr (pe_bm PySem.F.plainAttrs_list PySem.F.slot_list_append PySem.F.type_list_append mt_append (pe_fld (pv 0) rfl) (pa_cons (pe_tup (pa_cons (pe_fld (pv 0) rfl) (pa_cons (pv 1) (pa_cons (pv 2) pa_nil)))) pa_nil)))
      (pss_one (ps_ret (pe_tup (pa_cons (pm_ GR TM.cl hr (pv 0) (pa_cons (pv 1) (pa_cons (pv 2) pa_nil))) (pa_cons (pe_fld (pv 0) rfl) pa_nil))))))), ?_⟩
    refine ⟨_, rfl, m, M, dx, _, _, rfl, h1, TM.cl, TM.nL, rfl, A0.a, da, _, rfl, ha, rfl, _, rfl, A0.a, t, w, r, _, "int", rfl, rfl, ⟨da, ha⟩, _, rfl, ?_⟩
    rw [inW_nat, decide_eq_true hth]
    refine iteF ?_
    refine ⟨_, rfl, m, M, dx, _, _, rfl, h1, TM.cl, TM.nL, rfl, _, rfl, A0.a, q, t, w, r, rq, rfl, ⟨da, ha⟩, hq, ok, vals, fun H1 s1 => ⟨_, rfl, iteF ?_⟩⟩
    have D1 := D.same s1
    -- self.count += 1
    refine ⟨_, rfl, m, M, dx, _, _, rfl, s1 _ _ h1, TM.cl, TM.nC, rfl, _, _, rfl, rfl, dx, _, s1 _ _ h1, (by show 7 < 1000; decide), ?_⟩
    have D2 : MemAt C M (upd H1 m (.ins M dx (putF "count" (.int (S.count + 1)) (mf A0 S.count)))) m t w r A0 (S.withCount (S.count + 1)) := D1.setCount (S.count + 1) dx
    have q2 : upd H1 m (.ins M dx (putF "count" (.int (S.count + 1)) (mf A0 S.count))) q = some (.tup rq.vs) := by
      rw [upd_ne (ne_of hq h1 (by intro z; cases z))]
      exact s1 _ _ hq
    have st2 : Step m (t + w + r) A0 H A0 (upd H1 m (.ins M dx (putF "count" (.int (S.count + 1)) (mf A0 S.count)))) := (Step.same s1).trans (Step.up (.inl rfl))
    generalize hH2 : upd H1 m (.ins M dx (putF "count" (.int (S.count + 1)) (mf A0 S.count))) = H2 at D2 q2 st2 ⊢
    obtain ⟨dx2, h2⟩ := D2.ob
    -- self._log.append(..)
    refine ⟨_, rfl, m, M, dx2, _, _, rfl, h2, TM.cl, TM.nG, rfl, .inl ⟨rfl, _, SqL.of D2.gl⟩, _, rfl, m, M, dx2, _, _, rfl, h2, TM.cl, TM.nC, rfl, _, rfl, _, rfl, (by show 3 ≤ sizeLine; decide), fun u hu => ?_⟩
    have s3 : Same H2 (upd H2 u (.tup [.int (S.count + 1), .int (th : Int), .ref q])) := fun b o e => by rw [upd_ne (ne_of_none e hu)]; exact e
    have D3 := D2.same s3
    refine ⟨A0.gl, _, _, rfl, rfl, D3.gl, (by have := so.log; show S.log.length < sizeLine; omega), ?_⟩
    have D4 := D3.setLog (S.log ++ [.ref u])
    have q4 : upd (upd H2 u (.tup [.int (S.count + 1), .int (th : Int), .ref q])) A0.gl (.lst (S.log ++ [.ref u])) q = some (.tup rq.vs) := by
      rw [upd_ne (ne_of (s3 _ _ q2) D3.gl (by intro z; cases z))]
      exact s3 _ _ q2
    have st4 : Step m (t + w + r) A0 H A0 (upd (upd H2 u (.tup [.int (S.count + 1), .int (th : Int), .ref q])) A0.gl (.lst (S.log ++ [.ref u]))) := (st2.trans (Step.same s3)).trans (Step.up (.inr (.inr (.inr (.inr (.inr (.inl rfl)))))))
    have D4 : MemAt C M (upd (upd H2 u (.tup [.int (S.count + 1), .int (th : Int), .ref q])) A0.gl (.lst (S.log ++ [.ref u]))) m t w r A0 ((S.withCount (S.count + 1)).withLog (S.log ++ [.ref u])) := D4
    have hgoal : ∀ H4, MemAt C M H4 m t w r A0 ((S.withCount (S.count + 1)).withLog (S.log ++ [.ref u])) → H4 q = some (.tup rq.vs) → Step m (t + w + r) A0 H A0 H4 → (tRet (tTup (tCons (tMeth M "_result" (spResult K C M) [] E0 (tVar 0) (tCons (tVar 1) (tCons (tVar 2) tNil))) (tCons (tFld K (tVar 0) "count") tNil)))) { nx := fun _ H' => Q .non H', rt := Q } [some (.ref m), some (.int (th : Int)), some (.ref q)] H4 := fun H4 D4 q4 st4 => by
      obtain ⟨dx4, h4⟩ := D4.ob
      refine ⟨_, rfl, m, dx4, _, rfl, h4, rfl, _, rfl, _, rfl, m, t, w, r, th, B + 1, A0, _, rq, q, rfl, nok, D4, hth, q4, ok, so.logged, by omega, vals_ext vals (st4.ext D), flatAt_ext (flatAt_log hfl) (st4.ext D), fun v A' S' H5 ea R D5 st5 => ?_⟩
      obtain ⟨dx5, h5⟩ := D5.ob
      obtain ⟨hc, hlg⟩ := R.count
      refine ⟨_, rfl, m, M, dx5, _, _, rfl, h5, TM.cl, TM.nC, rfl, (by show 2 ≤ sizeLine; decide), fun p hp => ?_⟩
      have s6 : Same H5 (upd H5 p (.tup [v, .int S'.count])) := fun b o e => by rw [upd_ne (ne_of_none e hp)]; exact e
      refine k v (.ref u) p A' S' _ ea (R.ext ((st5.ext D4).trans (.of s6)) (.of s6)) ?_ (R.ok ok hth so.logged) (D5.same s6) ((st4.trans st5).trans (Step.same s6))
      rw [hc]
      exact upd_same
    exact hgoal _ D4 q4 st4
end
end Dk

set_option maxHeartbeats 4000000
/-! rules for machines: a method as a value, its call; calls by the class of the object; Base.__init__(self) -/
namespace Mr
open PySem PySem.Spec PyProof.Rows L2
section
variable {X : Cx} {k : Nat} {m x : Str} {o e : Expr} {es : List Expr} {ta : TE} {t : TA} {p apos pos : Pos}
/-- o.m as a value -/
def tBM (K : PySem.W.Frag) (ta : TE) (m : Str) : TE := fun σ H Q => ta σ H fun x H1 => ∃ a C dx fs g, x = .ref a ∧ H1 a = some (.ins C dx fs) ∧ Cls K C ∧ BMeth K C m g ∧ fs.lookup m = none ∧ ∀ q, H1 q = none → Q (.ref q) (upd H1 q (.met g a))
theorem pe_bm_ (he : PE X o ta) (hb : attributeBase o m X.env (eval o X.env) = eval o X.env := by rfl) : PE X (.Attribute o m pos) (tBM X.K ta m) := by
  refine ⟨fun pins s σ H Q I h => ?_⟩
  refine attr_of hb (thn (he.run pins s σ H _ I h) fun u s1 ⟨x, H1, I1, rx, a, C, dx, fs, g, ex, ea, c, b, l, q⟩ => ?_)
  subst ex
  exact op_getbound I1 ea c b l rx q
/-- o.m(e, ..), the def found by the object's class -/
def tMD (P : Program) (w : World) (K : PySem.W.Frag) (mg : Str → Option Value) (base : Heap) (k : Nat) (m : Str) (ta : TE) (t : TA) : TE := fun σ H Q => ta σ H fun x H1 => ∃ a C dx fs f sp, x = .ref a ∧ H1 a = some (.ins C dx fs) ∧ Cls K C ∧ Meth K C m f ∧ FnR P w K mg base CX0 k f sp ∧ fs.lookup m = none ∧
  t σ H1 fun vs H2 => sp (x :: vs) H2 Q E0
theorem pe_md {pl : Sem Bool} (he : PE X o ta) (hr : Room k X.A) (ha : PA X (e :: es) t)
    (hst : starEach (e :: es) X.env = (false, eval e X.env) :: starEach es X.env := by rfl) (hpl : (backTo pos (starEach es X.env)).any (·.1) = false := by rfl)
    (ht : eval (.Call (.Attribute o m apos) (e :: es) [] pos) X.env = (do
      let ov ← eval o X.env
      standAt apos.atName
      let (f, first) ← holding [ov] (getMethod ov m pl)
      callWith pos f first (backTo pos (starEach (e :: es) X.env)) (backToKw pos (keywordEach [] X.env))) := by rfl) : PE X (.Call (.Attribute o m apos) (e :: es) [] pos) (tMD X.prog X.w X.K X.mg X.base k m ta t) := by
  refine ⟨fun pins s σ H Q I h => ?_⟩
  refine PySem.W.methodCall_KW (pl := pl) (thn (he.run pins s σ H _ I h) fun u s1 ⟨x, H1, I1, rx, a, C, dx, fs, f, sp, ex, ea, c, hm, F, l, q⟩ => ?_) ht
  subst ex
  obtain rfl : u = Value.ref a := rx
  refine getmeth_ok I1 ea c hm l ?_
  refine PySem.W.callWith_K (first := [.ref a]) (h₀ := X.base) I.ok.mod.kin hm.kp (thn (ha.run pos pins s1 σ H1 _ I1 q) fun us s2 ⟨vs, H2, I2, r, q2⟩ => ⟨I2.kIn, ?_⟩) hst hpl
  exact wpAny_call (run_fnR (us := .ref a :: us) (vs := .ref a :: vs) F hr pass0 I2 (.cons rfl r) q2)
theorem pe_md0 {pl : Sem Bool} (he : PE X o ta) (hr : Room k X.A)
    (ht : eval (.Call (.Attribute o m apos) [] [] pos) X.env = (do
      let ov ← eval o X.env
      standAt apos.atName
      let (f, first) ← holding [ov] (getMethod ov m pl)
      callWith pos f first (backTo pos (starEach [] X.env)) (backToKw pos (keywordEach [] X.env))) := by rfl) : PE X (.Call (.Attribute o m apos) [] [] pos) (tMD X.prog X.w X.K X.mg X.base k m ta tNil) := by
  refine ⟨fun pins s σ H Q I h => ?_⟩
  refine PySem.W.methodCall_KW (pl := pl) (thn (he.run pins s σ H _ I h) fun u s1 ⟨x, H1, I1, rx, a, C, dx, fs, f, sp, ex, ea, c, hm, F, l, q⟩ => ?_) ht
  subst ex
  obtain rfl : u = Value.ref a := rx
  refine getmeth_ok I1 ea c hm l ?_
  exact PySem.W.callWith_K0 (first := [.ref a]) I1.kIn hm.kp (wpAny_call (run_fnR (us := [.ref a]) (vs := [.ref a]) F hr pass0 I1 (.cons rfl .nil) q))
/-- f(e, ..), f a name that holds a bound method -/
def tCM (P : Program) (w : World) (K : PySem.W.Frag) (mg : Str → Option Value) (base : Heap) (k : Nat) (tf : TE) (t : TA) : TE := fun σ H Q => tf σ H fun v H1 => ∃ q g a sp, v = .ref q ∧ PySem.W.fnIn K g = true ∧ FnR P w K mg base CX0 k g sp ∧ t σ H1 fun vs H2 => H2 q = some (.met g a) ∧ sp (.ref a :: vs) H2 Q E0
theorem pe_cm {tf : TE} (hf : PE X (.Name x p) tf) (hr : Room k X.A) (ha : PA X (e :: es) t)
    (he : starEach (e :: es) X.env = (false, eval e X.env) :: starEach es X.env := by rfl) (hpl : (backTo pos (starEach es X.env)).any (·.1) = false := by rfl) : PE X (.Call (.Name x p) (e :: es) [] pos) (tCM X.prog X.w X.K X.mg X.base k tf t) := by
  refine ⟨fun pins s σ H Q I h => ?_⟩
  refine wpAny_Call_Name_kw (thn (hf.run pins s σ H _ I h) fun f s0 ⟨v, H0, I0, r0, q, g, a, sp, ev, fi, F, q0⟩ => ?_)
  subst ev
  obtain rfl : f = Value.ref q := r0
  show wpAny _ _ (callWith pos (.ref q) [] (backTo pos (starEach (e :: es) X.env)) []) _ _ _
  rw [he]
  refine PySem.W.callWith_of (P := PySem.W.MethP X.K q g (.ref a)) (by show ((false || (backTo pos (starEach es X.env)).any (·.1)) || false) = false; rw [hpl]; rfl) (PySem.W.keeps_M fi) (Calls.evalArgs_plain ?_)
  have hh := ha.run pos pins s0 σ H0 _ I0 q0
  rw [he] at hh
  refine thn hh fun us s1 ⟨vs, H1, I1, r1, hm, hsp⟩ => ⟨met_P I1 hm, ?_⟩
  exact wpAny_call (call_met I1 hm (run_fnR (us := .ref a :: us) (vs := .ref a :: vs) F hr pass0 I1 (.cons rfl r1) hsp))
/-- the def that a class hands out by its name -/
structure CFn (K : PySem.W.Frag) (C : Addr) (m : Str) (f : Addr) : Prop where
  rd : ∃ mc, PySem.W.readsIn K C mc = true ∧ PySem.W.findCls K (.ref C) mc m = some (.val (.ref f))
  ga : PySem.W.specialIn K (.ref C) "__getattribute__" = some (some (.builtin "type.__getattribute__"))
  kp : PySem.W.keepIn K (.ref f) = true
/-- C.m(e, ..), C a class of the module -/
theorem pe_cls {pl : Sem Bool} {C f : Addr} {sp : Sp} (hg : Gl X x) (hm : X.mg x = some (.ref C)) (b : CFn X.K C m f) (F : FnR X.prog X.w X.K X.mg X.base CX0 k f sp) (hr : Room k X.A) (ha : PA X (e :: es) t) (hd : (x == ("__debug__" : Str)) = false := by decide)
    (hst : starEach (e :: es) X.env = (false, eval e X.env) :: starEach es X.env := by rfl) (hpl : (backTo pos (starEach es X.env)).any (·.1) = false := by rfl)
    (ht : eval (.Call (.Attribute (.Name x p) m apos) (e :: es) [] pos) X.env = (do
      let ov ← eval (.Name x p) X.env
      standAt apos.atName
      let (f, first) ← holding [ov] (getMethod ov m pl)
      callWith pos f first (backTo pos (starEach (e :: es) X.env)) (backToKw pos (keywordEach [] X.env))) := by rfl) : PE X (.Call (.Attribute (.Name x p) m apos) (e :: es) [] pos) (tCall sp [] E0 t) := by
  refine ⟨fun pins s σ H Q I h => ?_⟩
  obtain ⟨mc, rd, at_⟩ := b.rd
  refine PySem.W.methodCall_KW (pl := pl) (ld_glob I hg hm ?_ hd) ht
  refine PySem.W.method_cls I.kIn b.ga (PySem.W.cls_value I.kIn rd at_ rfl ?_)
  have I1 := I.tok (s.toks + 1)
  refine PySem.W.callWith_K (first := []) (h₀ := X.base) I.ok.mod.kin b.kp (thn (ha.run pos pins _ σ H _ I1 h) fun us s2 ⟨vs, H2, I2, r, q2⟩ => ⟨I2.kIn, ?_⟩) hst hpl
  dsimp only at q2
  rw [List.append_nil] at q2
  exact wpAny_call (run_fnR F hr pass0 I2 r q2)
end
end Mr

set_option maxHeartbeats 4000000
/-! machines -/
namespace Dk
open PySem PySem.Spec PyProof.Rows L2
abbrev sMaInit : Stmt := inClass (top 5) 0
abbrev sMaAsk : Stmt := inClass (top 5) 3
abbrev sMaEnd : Stmt := inClass (top 5) 4
abbrev sMaGo : Stmt := inClass (top 5) 5
/-- kept but at a -/
def Kept (a : Addr) (H H' : Hp) : Prop := ∀ b o, H b = some o → b ≠ a → H' b = some o
theorem up1 {H1 : Hp} {p : Addr} {o : HO} (hp : H1 p = none) : Same H1 (upd H1 p o) := fun b u e => by rw [upd_ne (ne_of_none e hp)]; exact e
theorem iteC {c : Bool} {A B : Prop} (hc : c = false) (h : B) : if c = true then A else B := by
  rw [hc]
  exact iteF h
theorem at_head {r0 : V} {rs : List V} : atI (r0 :: rs) 0 = some r0 := by
  unfold atI ixN
  rw [if_pos (by decide), if_pos (by rw [List.length_cons]; omega)]
  rfl
theorem seq_head {r0 : V} {rs : List V} : seqIndex? 0 (r0 :: rs).length = some 0 := seqIndex_of (by decide) (by rw [List.length_cons]; omega)
/-- what a machine has of its own class's base -/
structure MTx (K : PySem.W.Frag) (C : Addr) : Prop where
  cl : Cls K C
  nW : NoAttr K C "_wanted"
  nL : NoAttr K C "_left"
  nT : NoAttr K C "_then"
abbrev mfs (w : V) (l : Addr) (th : V) (rest : List (Str × V)) : List (Str × V) := ("_wanted", w) :: ("_left", .ref l) :: ("_then", th) :: rest
/-- a machine at a -/
structure MaAt (C : Addr) (H : Hp) (a dx : Addr) (w : V) (l : Addr) (th : V) (left : List V) (rest : List (Str × V)) : Prop where
  ob : H a = some (.ins C dx (mfs w l th rest))
  lf : H l = some (.lst left)
theorem MaAt.same {C : Addr} {H H' : Hp} {a dx : Addr} {w : V} {l : Addr} {th : V} {left : List V} {rest : List (Str × V)} (D : MaAt C H a dx w l th left rest) (s : Same H H') : MaAt C H' a dx w l th left rest := ⟨s _ _ D.ob, s _ _ D.lf⟩
def MD (P : Program) (w : World) (K : PySem.W.Frag) (mg : Str → Option Value) (base : Heap) (k : Nat) (C : Addr) (m : Str) (sp : Sp) : Prop := ∃ f, Meth K C m f ∧ FnR P w K mg base CX0 k f sp
theorem MO.md {P : Program} {w : World} {K : PySem.W.Frag} {mg : Str → Option Value} {base : Heap} {k : Nat} {C : Addr} {m : Str} {ps : List Str} {sp : Sp} (G : MO P w K mg base CX0 C k m ps sp) : MD P w K mg base k C m sp := by
  obtain ⟨f, fd, F, hm, hb⟩ := G
  exact ⟨f, hm, (F.raw hb .nil).imp fun vs H Q E h => by rw [List.append_nil]; exact h⟩
def spMaInit (C : Addr) : Sp := fun vs H Q _ => ∃ (a dx : Addr), vs = [.ref a] ∧ H a = some (.ins C dx []) ∧
  ∀ (H' : Hp) (e l : Addr), H e = none → H l = none → H' e = some (.tup [.str "end", .non]) → MaAt C H' a dx (.ref e) l .non [] [] → Kept a H H' → Q .non H'
def spMaAsk (C : Addr) : Sp := fun vs H Q _ => ∃ (a dx l rq : Addr) (w th th' : V) (left : List V) (rest : List (Str × V)) (r0 : V) (rs : List V), vs = [.ref a, .ref rq, th'] ∧ MaAt C H a dx w l th left rest ∧ rest.length < 900 ∧ H rq = some (.lst (r0 :: rs)) ∧
  ∀ (H' : Hp) (l' : Addr), H l' = none → MaAt C H' a dx r0 l' th' rs rest → Kept a H H' → Q .non H'
def spMaEnd (C : Addr) : Sp := fun vs H Q _ => ∃ (a dx l : Addr) (w th v : V) (left : List V) (rest : List (Str × V)), vs = [.ref a, v] ∧ MaAt C H a dx w l th left rest ∧ rest.length < 900 ∧
  ∀ (H' : Hp) (e : Addr), H e = none → H' e = some (.tup [.str "end", v]) → MaAt C H' a dx (.ref e) l th left rest → Kept a H H' → Q .non H'
def spReq (C : Addr) : Sp := fun vs H Q _ => ∃ (a dx l : Addr) (w th : V) (left : List V) (rest : List (Str × V)), vs = [.ref a] ∧ MaAt C H a dx w l th left rest ∧ Q w H
def spGo (P : Program) (W : World) (K : PySem.W.Frag) (mg : Str → Option Value) (base : Heap) (k : Nat) (C : Addr) : Sp := fun vs H Q _ => ∃ (a dx l : Addr) (w th res : V) (left : List V) (rest : List (Str × V)), vs = [.ref a, res] ∧ MaAt C H a dx w l th left rest ∧ rest.length < 900 ∧
  ((∃ r0 rs, left = r0 :: rs ∧ ∀ H', MaAt C H' a dx r0 l th rs rest → (∀ b o, H b = some o → b ≠ a → b ≠ l → H' b = some o) → Q .non H') ∨
   (left = [] ∧ ∃ q g sp, th = .ref q ∧ H q = some (.met g a) ∧ PySem.W.fnIn K g = true ∧ FnR P W K mg base CX0 k g sp ∧ sp [.ref a, res] H (fun _ H' => Q .non H') E0))
section
variable {P : Program} {w : World} {K : PySem.W.Frag} {mg : Str → Option Value} {base : Heap} {C M NV LE : Addr}
theorem scMaInit : FnScope ["self"] ["self"] (defScope sMaInit) := ⟨rfl, rfl, rfl, by decide +kernel, rfl, by decide +kernel, by decide +kernel⟩
theorem ok_mainit {f : Addr} {fd : FuncData} (F : Fun K "__init__" "Machine.__init__" sMaInit f fd) (TC : MTx K C) : FnOk P w K mg base CX0 1 f fd ["self"] (spMaInit C) := by
  refine F.ok scMaInit (fun vs H Q E h => ?_) (fun cdv A outer s H vs Q E hr h => ?_)
  · obtain ⟨a, dx, rfl, _⟩ := h
    rfl
  · obtain ⟨a, dx, rfl, ha, k⟩ := h
    refine ⟨_, (pss_cons (ps_fld (pv 0) (pe_tup (pa_cons pe_str (pa_cons pe_non pa_nil))) rfl)
  (pss_cons (ps_fld (pv 0) (pe_lst pa_nil) rfl)
  (pss_one (ps_fld (pv 0) pe_non rfl)))), ?_⟩
    refine ⟨(by show 2 ≤ sizeLine; decide), fun e he => ⟨_, rfl, a, C, dx, [], rfl, up1 he _ _ ha, TC.cl, TC.nW, (by show 0 < 1000; decide), ?_⟩⟩
    have e_a : e ≠ a := (ne_of_none ha he).symm
    have k1 : Kept a H (upd (upd H e (.tup [.str "end", .non])) a (.ins C dx (putF "_wanted" (.ref e) []))) := fun b o q n => by rw [upd_ne n]; exact up1 he _ _ q
    have e1 : upd (upd H e (.tup [.str "end", .non])) a (.ins C dx (putF "_wanted" (.ref e) [])) e = some (.tup [.str "end", .non]) := by rw [upd_ne e_a]; exact upd_same
    have a1 : upd (upd H e (.tup [.str "end", .non])) a (.ins C dx (putF "_wanted" (.ref e) [])) a = some (.ins C dx [("_wanted", .ref e)]) := upd_same
    generalize upd (upd H e (.tup [.str "end", .non])) a (.ins C dx (putF "_wanted" (.ref e) [])) = H1 at k1 e1 a1 ⊢
    refine ⟨(by show 0 ≤ sizeLine; exact Nat.zero_le _), fun l hl => ⟨_, rfl, a, C, dx, _, rfl, up1 hl _ _ a1, TC.cl, TC.nL, (by show 1 < 1000; decide), ?_⟩⟩
    have l_a : l ≠ a := (ne_of_none a1 hl).symm
    have l_e : l ≠ e := (ne_of_none e1 hl).symm
    have lH : H l = none := by
      cases q : H l with
      | none => rfl
      | some o =>
        have := k1 l o q l_a
        rw [hl] at this
        cases this
    refine ⟨_, rfl, a, C, dx, _, rfl, upd_same, TC.cl, TC.nT, (by show 2 < 1000; decide), ?_⟩
    refine k _ e l he lH ?_ ⟨upd_same, ?_⟩ fun b o q n => ?_
    · rw [upd_ne e_a, upd_ne e_a, upd_ne l_e.symm]; exact e1
    · rw [upd_ne l_a, upd_ne l_a]; exact upd_same
    · rw [upd_ne n, upd_ne n]; exact up1 hl _ _ (k1 b o q n)
theorem scMaAsk : FnScope ["self", "requests", "then"] ["self", "requests", "then"] (defScope sMaAsk) := ⟨rfl, rfl, rfl, by decide +kernel, rfl, by decide +kernel, by decide +kernel⟩
theorem mo_maask (F : MT K C "_ask" "Machine._ask" sMaAsk ["self", "requests", "then"]) (TC : MTx K C) : MO P w K mg base CX0 C 1 "_ask" ["self", "requests", "then"] (spMaAsk C) := by
  obtain ⟨f, fd, F, hm, hb⟩ := F
  refine ⟨f, fd, ?_, hm, hb⟩
  refine F.ok scMaAsk (fun vs H Q E h => ?_) (fun cdv A outer s H vs Q E hr h => ?_)
  · obtain ⟨a, dx, l, rq, w, th, th', left, rest, r0, rs, rfl, _⟩ := h
    rfl
  · obtain ⟨a, dx, l, rq, w, th, th', left, rest, r0, rs, rfl, D, hz, hrq, k⟩ := h
    refine ⟨_, (pss_cons (ps_fld (pv 0) (pe_ix ix_list (pv 1) pe_int (fun _ _ => rfl)) rfl)
  (pss_cons (ps_fld (pv 0) (pe_slice sl_list (pv 1) (po_some pe_int) po_none) rfl)
  (pss_one (ps_fld (pv 0) (pv 2) rfl)))), ?_⟩
    have ha := D.ob
    have rq_a : rq ≠ a := ne_of hrq ha (by intro z; cases z)
    refine ⟨_, rfl, rq, _, 0, r0, rfl, rfl, SqL.of hrq, at_head, _, rfl, a, C, dx, _, rfl, ha, TC.cl, TC.nW, (by show rest.length + 3 < 1000; omega), ?_⟩
    have q1 : upd H a (.ins C dx (mfs r0 l th rest)) rq = some (.lst (r0 :: rs)) := by rw [upd_ne rq_a]; exact hrq
    refine ⟨_, rfl, _, rfl, rq, _, rfl, SqL.of q1, fun l' hl' => ?_⟩
    have ec : cutV (r0 :: rs) (some 1) none = rs := by
      unfold cutV
      rw [HT.sIx_none, show (1 : Int) = ((1 : Nat) : Int) from rfl, HT.sIx_nat, show min 1 (r0 :: rs).length = 1 by simp]
      exact List.take_of_length_le (by simp)
    rw [ec]
    have l_a : l' ≠ a := (ne_of_none (upd_same (H := H) (a := a) (o := .ins C dx (mfs r0 l th rest))) hl').symm
    have lH : H l' = none := by
      have := hl'
      rw [upd_ne l_a] at this
      exact this
    refine ⟨_, rfl, a, C, dx, _, rfl, up1 hl' _ _ upd_same, TC.cl, TC.nL, (by show rest.length + 3 < 1000; omega), ?_⟩
    refine ⟨_, rfl, _, rfl, a, C, dx, _, rfl, upd_same, TC.cl, TC.nT, (by show rest.length + 3 < 1000; omega), ?_⟩
    refine k _ l' lH ⟨upd_same, ?_⟩ fun b o q n => ?_
    · rw [upd_ne l_a, upd_ne l_a]; exact upd_same
    · rw [upd_ne n, upd_ne n]
      exact up1 hl' _ _ (by rw [upd_ne n]; exact q)
theorem scMaEnd : FnScope ["self", "value"] ["self", "value"] (defScope sMaEnd) := ⟨rfl, rfl, rfl, by decide +kernel, rfl, by decide +kernel, by decide +kernel⟩
theorem mo_maend (F : MT K C "_end" "Machine._end" sMaEnd ["self", "value"]) (TC : MTx K C) : MO P w K mg base CX0 C 1 "_end" ["self", "value"] (spMaEnd C) := by
  obtain ⟨f, fd, F, hm, hb⟩ := F
  refine ⟨f, fd, ?_, hm, hb⟩
  refine F.ok scMaEnd (fun vs H Q E h => ?_) (fun cdv A outer s H vs Q E hr h => ?_)
  · obtain ⟨a, dx, l, w, th, v, left, rest, rfl, _⟩ := h
    rfl
  · obtain ⟨a, dx, l, w, th, v, left, rest, rfl, D, hz, k⟩ := h
    refine ⟨_, (pss_one (ps_fld (pv 0) (pe_tup (pa_cons pe_str (pa_cons (pv 1) pa_nil))) rfl)), ?_⟩
    have ha := D.ob
    refine ⟨_, rfl, (by show 2 ≤ sizeLine; decide), fun e he => ⟨_, rfl, a, C, dx, _, rfl, up1 he _ _ ha, TC.cl, TC.nW, (by show rest.length + 3 < 1000; omega), ?_⟩⟩
    refine k _ e he ?_ ⟨upd_same, ?_⟩ fun b o q n => ?_
    · rw [upd_ne (ne_of_none ha he).symm]; exact upd_same
    · rw [upd_ne (ne_of D.lf ha (by intro z; cases z))]; exact up1 he _ _ D.lf
    · rw [upd_ne n]; exact up1 he _ _ q
theorem scMaGo : FnScope ["self", "result", "then"] ["self", "result"] (defScope sMaGo) := ⟨rfl, rfl, rfl, by decide +kernel, rfl, by decide +kernel, by decide +kernel⟩
theorem mo_mago {k : Nat} (F : MT K C "_go_on" "Machine._go_on" sMaGo ["self", "result"]) (TC : MTx K C) : MO P w K mg base CX0 C (k + 1) "_go_on" ["self", "result"] (spGo P w K mg base k C) := by
  obtain ⟨f, fd, F, hm, hb⟩ := F
  refine ⟨f, fd, ?_, hm, hb⟩
  refine F.ok scMaGo (fun vs H Q E h => ?_) (fun cdv A outer s H vs Q E hr h => ?_)
  · obtain ⟨a, dx, l, w, th, res, left, rest, rfl, _⟩ := h
    rfl
  · obtain ⟨a, dx, l, w, th, res, left, rest, rfl, D, hz, hc⟩ := h
    have nd := scMaGo.nd
    have hrT : Room k _ := hr
    refine ⟨_, (pss_one (ps_if (pt_truth (pe_fld (pv 0) rfl) (by intro _; rfl))
  (pss_one (ps_fld (pv 0) (pe_bm PySem.F.plainAttrs_list PySem.F.slot_list_pop PySem.F.type_list_pop mt_popAt (pe_fld (pv 0) rfl) (pa_cons pe_int pa_nil)) rfl))
  (pss_cons (ps_set (i := 2) nd rfl (Or.inl rfl) (pe_fld (pv 0) rfl))
  (pss_one (ps_expr (Mr.pe_cm (pv 2) hrT (pa_cons (pv 1) pa_nil))))))), ?_⟩
    have ha := D.ob
    have l_a : l ≠ a := ne_of D.lf ha (by intro z; cases z)
    rcases hc with ⟨r0, rs, rfl, k1⟩ | ⟨rfl, q, g, sp, rfl, hq, fi, FR, hsp⟩
    · refine ⟨_, rfl, a, C, dx, _, _, rfl, ha, TC.cl, TC.nL, rfl, true, .inl ⟨_, SqL.of D.lf, rfl⟩, iteT ?_⟩
      refine ⟨_, rfl, a, C, dx, _, _, rfl, ha, TC.cl, TC.nL, rfl, .inl ⟨rfl, _, SqL.of D.lf⟩, l, _, 0, 0, r0, rfl, rfl, D.lf, by decide, by decide, seq_head, rfl, ?_⟩
      refine ⟨_, rfl, a, C, dx, _, rfl, (by rw [upd_ne l_a.symm]; exact ha), TC.cl, TC.nW, (by show rest.length + 3 < 1000; omega), ?_⟩
      refine k1 _ ⟨upd_same, ?_⟩ fun b o q n n2 => ?_
      · rw [upd_ne l_a]; exact upd_same
      · rw [upd_ne n, upd_ne n2]; exact q
    · refine ⟨_, rfl, a, C, dx, _, _, rfl, ha, TC.cl, TC.nL, rfl, false, .inl ⟨_, SqL.of D.lf, rfl⟩, iteF ?_⟩
      refine ⟨_, rfl, a, C, dx, _, _, rfl, ha, TC.cl, TC.nT, rfl, ?_⟩
      exact ⟨_, rfl, q, g, a, sp, rfl, fi, FR, _, rfl, hq, hsp⟩
end
end Dk

set_option maxHeartbeats 4000000
/-! the stack of a thread, with one machine -/
namespace Dk
open PySem PySem.Spec PyProof.Rows L2
abbrev sKInit : Stmt := inClass (top 6) 0
abbrev sKStep : Stmt := inClass (top 6) 1
abbrev sKEnded : Stmt := inClass (top 6) 2
abbrev sKValue : Stmt := inClass (top 6) 3
abbrev sKCheck : Stmt := inClass (top 6) 4
abbrev sKSettle : Stmt := inClass (top 6) 5
abbrev sKEnd : Stmt := inClass (top 6) 6
structure KTx (K : PySem.W.Frag) (S : Addr) : Prop where
  cl : Cls K S
  nM : NoAttr K S "_machines"
  nV : NoAttr K S "_value"
structure StkAt (S : Addr) (H : Hp) (k dx ml : Addr) (ms : List Addr) (v : V) : Prop where
  ob : H k = some (.ins S dx [("_machines", .ref ml), ("_value", v)])
  l : H ml = some (.lst (ms.map V.ref))
theorem StkAt.same {S : Addr} {H H' : Hp} {k dx ml : Addr} {ms : List Addr} {v : V} (D : StkAt S H k dx ml ms v) (s : Same H H') : StkAt S H' k dx ml ms v := ⟨s _ _ D.ob, s _ _ D.l⟩
def Kept2 (a c : Addr) (H H' : Hp) : Prop := ∀ b o, H b = some o → b ≠ a → b ≠ c → H' b = some o
theorem head_vs (rq : Rq) : ∃ s rest, rq.vs = .str s :: rest ∧ s ≠ "end" ∧ s ≠ "call" := by
  cases rq <;> exact ⟨_, _, rfl, by decide +kernel, by decide +kernel⟩
/-- a machine that can be asked -/
structure Mach (P : Program) (W : World) (K : PySem.W.Frag) (mg : Str → Option Value) (base : Heap) (CM : Addr) (H : Hp) (a dx : Addr) (w : V) (l : Addr) (th : V) (left : List V) (rest : List (Str × V)) : Prop where
  m : MaAt CM H a dx w l th left rest
  cl : Cls K CM
  rq : MD P W K mg base 1 CM "request" (spReq CM)
  n1 : rest.lookup ("request" : Str) = none
  n2 : rest.lookup ("accept" : Str) = none
  n : rest.length < 900
def spKInit (S : Addr) : Sp := fun vs H Q _ => ∃ (k dx a : Addr), vs = [.ref k, .ref a] ∧ H k = some (.ins S dx []) ∧ ∀ (H' : Hp) (ml : Addr), H ml = none → StkAt S H' k dx ml [a] .non → Kept k H H' → Q .non H'
def spKEnded (S : Addr) : Sp := fun vs H Q _ => ∃ (k dx ml : Addr) (ms : List Addr) (v : V), vs = [.ref k] ∧ StkAt S H k dx ml ms v ∧ Q (.bl ms.isEmpty) H
def spKValue (S : Addr) : Sp := fun vs H Q _ => ∃ (k dx ml : Addr) (ms : List Addr) (v : V), vs = [.ref k] ∧ StkAt S H k dx ml ms v ∧ Q v H
def spKEnd (S : Addr) : Sp := fun vs H Q _ => ∃ (k dx ml a : Addr) (v x : V), vs = [.ref k, x] ∧ StkAt S H k dx ml [a] v ∧ ∀ H', StkAt S H' k dx ml [] x → Kept2 k ml H H' → Q .non H'
def spKSettle (P : Program) (W : World) (K : PySem.W.Frag) (mg : Str → Option Value) (base : Heap) (S : Addr) : Sp := fun vs H Q _ => ∃ (k dx ml : Addr) (ms : List Addr) (v : V), vs = [.ref k] ∧ StkAt S H k dx ml ms v ∧
  ((ms = [] ∧ Q .non H) ∨
   (∃ (a CM dxm q l : Addr) (th : V) (left : List V) (rest : List (Str × V)) (rq : Rq), ms = [a] ∧ Mach P W K mg base CM H a dxm (.ref q) l th left rest ∧ H q = some (.tup rq.vs) ∧ Q .non H) ∨
   (∃ (a CM dxm q l : Addr) (th : V) (left : List V) (rest : List (Str × V)) (x : V), ms = [a] ∧ Mach P W K mg base CM H a dxm (.ref q) l th left rest ∧ H q = some (.tup [.str "end", x]) ∧ ∀ H', StkAt S H' k dx ml [] x → Kept2 k ml H H' → Q .non H'))
def spKCheck (P : Program) (W : World) (K : PySem.W.Frag) (mg : Str → Option Value) (base : Heap) (S C M : Addr) : Sp := fun vs H Q _ => ∃ (k dx ml m : Addr) (ms : List Addr) (v : V) (t w r th : Nat) (A : Adr) (X : MS), vs = [.ref k, .ref m, .int (th : Int)] ∧ StkAt S H k dx ml ms v ∧ MemAt C M H m t w r A X ∧ th < t ∧
  (ms = [] ∨ ∃ (a CM dxm q l : Addr) (th : V) (left : List V) (rest : List (Str × V)) (rq : Rq), ms = [a] ∧ Mach P W K mg base CM H a dxm (.ref q) l th left rest ∧ H q = some (.tup rq.vs)) ∧ Q .non H
/-- behind an accept -/
def Behind (P : Program) (W : World) (K : PySem.W.Frag) (mg : Str → Option Value) (base : Heap) (S : Addr) (k dx ml a CM dxm : Addr) (v : V) (H : Hp) (Q : VK) : Prop := StkAt S H k dx ml [a] v ∧
  ((∃ (q l : Addr) (th : V) (left : List V) (rest : List (Str × V)) (rq : Rq), Mach P W K mg base CM H a dxm (.ref q) l th left rest ∧ H q = some (.tup rq.vs) ∧ Q (.bl true) H) ∨
   (∃ (q l : Addr) (th : V) (left : List V) (rest : List (Str × V)) (x : V), Mach P W K mg base CM H a dxm (.ref q) l th left rest ∧ H q = some (.tup [.str "end", x]) ∧ ∀ H', StkAt S H' k dx ml [] x → Kept2 k ml H H' → Q (.bl true) H'))
def spKStep (P : Program) (W : World) (K : PySem.W.Frag) (mg : Str → Option Value) (base : Heap) (ka : Nat) (S C M : Addr) : Sp := fun vs H Q _ => ∃ (k dx ml m : Addr) (ms : List Addr) (v0 : V) (t w r th B : Nat) (A : Adr) (X : MS), vs = [.ref k, .ref m, .int (th : Int)] ∧ StkAt S H k dx ml ms v0 ∧ NOk t w r ∧ MemAt C M H m t w r A X ∧ th < t ∧ SOk X t (t + w + r) B ∧ B + 6 < sizeLine ∧
  ((ms = [] ∧ Q (.bl false) H) ∨
   (∃ (a CM dxm q l fa : Addr) (th' : V) (left : List V) (rest : List (Str × V)) (rq : Rq) (spa : Sp), ms = [a] ∧ Mach P W K mg base CM H a dxm (.ref q) l th' left rest ∧ H q = some (.tup rq.vs) ∧ rq.ok t w r ∧ rq.vals K H ∧ rq.flatAt K H X t ∧ Meth K CM "accept" fa ∧ FnR P W K mg base CX0 ka fa spa ∧
     ∀ (v x : V) (p : Addr) (A' : Adr) (X' : MS) (H1 : Hp), A'.a = A.a → Res K ((X.withCount (X.count + 1)).withLog (X.log ++ [x])) t th H1 H1 rq v X' → H1 p = some (.tup [v, .int (X.count + 1)]) → SOk X' t (t + w + r) (B + 2) → MemAt C M H1 m t w r A' X' → Step m (t + w + r) A H A' H1 →
       ∀ Q' : VK, (∀ u H2, Behind P W K mg base S k dx ml a CM dxm v0 H2 Q → Q' u H2) → spa [.ref a, .ref p] H1 Q' E0))
section
variable {P : Program} {w : World} {K : PySem.W.Frag} {mg : Str → Option Value} {base : Heap} {C M NV LE S : Addr}
theorem scKInit : FnScope ["self", "machine"] ["self", "machine"] (defScope sKInit) := ⟨rfl, rfl, rfl, by decide +kernel, rfl, by decide +kernel, by decide +kernel⟩
theorem ok_kinit {f : Addr} {fd : FuncData} (F : Fun K "__init__" "Stack.__init__" sKInit f fd) (TK : KTx K S) : FnOk P w K mg base CX0 1 f fd ["self", "machine"] (spKInit S) := by
  refine F.ok scKInit (fun vs H Q E h => ?_) (fun cdv A outer s H vs Q E hr h => ?_)
  · obtain ⟨k, dx, a, rfl, _⟩ := h
    rfl
  · obtain ⟨k, dx, a, rfl, hk, kQ⟩ := h
    refine ⟨_, (pss_cons (ps_fld (pv 0) (pe_lst (pa_cons (pv 1) pa_nil)) rfl)
  (pss_one (ps_fld (pv 0) pe_non rfl))), ?_⟩
    refine ⟨_, rfl, (by show 1 ≤ sizeLine; decide), fun ml hml => ⟨_, rfl, k, S, dx, [], rfl, up1 hml _ _ hk, TK.cl, TK.nM, (by show 0 < 1000; decide), ?_⟩⟩
    refine ⟨_, rfl, k, S, dx, _, rfl, upd_same, TK.cl, TK.nV, (by show 1 < 1000; decide), ?_⟩
    have ml_k : ml ≠ k := (ne_of_none hk hml).symm
    refine kQ _ ml hml ⟨upd_same, ?_⟩ fun b o q n => ?_
    · rw [upd_ne ml_k, upd_ne ml_k]; exact upd_same
    · rw [upd_ne n, upd_ne n]; exact up1 hml _ _ q
theorem scKEnded : FnScope ["self"] ["self"] (defScope sKEnded) := ⟨rfl, rfl, rfl, by decide +kernel, rfl, by decide +kernel, by decide +kernel⟩
theorem mo_kended (F : MT K S "ended" "Stack.ended" sKEnded ["self"]) (TK : KTx K S) : MO P w K mg base CX0 S 1 "ended" ["self"] (spKEnded S) := by
  obtain ⟨f, fd, F, hm, hb⟩ := F
  refine ⟨f, fd, ?_, hm, hb⟩
  refine F.ok scKEnded (fun vs H Q E h => ?_) (fun cdv A outer s H vs Q E hr h => ?_)
  · obtain ⟨k, dx, ml, ms, v, rfl, _⟩ := h
    rfl
  · obtain ⟨k, dx, ml, ms, v, rfl, D, kQ⟩ := h
    refine ⟨_, pss_one (ps_ret (pe_notT (pe_fld (pv 0) rfl))), ?_⟩
    refine ⟨_, rfl, k, S, dx, _, _, rfl, D.ob, TK.cl, TK.nM, rfl, !(ms.map V.ref).isEmpty, .inl ⟨_, SqL.of D.l, rfl⟩, ?_⟩
    have e : (!!(ms.map V.ref).isEmpty) = ms.isEmpty := by cases ms <;> rfl
    rw [e]
    exact kQ
theorem scKValue : FnScope ["self"] ["self"] (defScope sKValue) := ⟨rfl, rfl, rfl, by decide +kernel, rfl, by decide +kernel, by decide +kernel⟩
theorem mo_kvalue (F : MT K S "value" "Stack.value" sKValue ["self"]) (TK : KTx K S) : MO P w K mg base CX0 S 1 "value" ["self"] (spKValue S) := by
  obtain ⟨f, fd, F, hm, hb⟩ := F
  refine ⟨f, fd, ?_, hm, hb⟩
  refine F.ok scKValue (fun vs H Q E h => ?_) (fun cdv A outer s H vs Q E hr h => ?_)
  · obtain ⟨k, dx, ml, ms, v, rfl, _⟩ := h
    rfl
  · obtain ⟨k, dx, ml, ms, v, rfl, D, kQ⟩ := h
    refine ⟨_, pss_one (ps_ret (pe_fld (pv 0) rfl)), ?_⟩
    exact ⟨_, rfl, k, S, dx, _, _, rfl, D.ob, TK.cl, TK.nV, rfl, kQ⟩
theorem at_one {a : Addr} : atI ([a].map V.ref) (-1) = some (.ref a) := rfl
theorem scKEnd : FnScope ["self", "value"] ["self", "value"] (defScope sKEnd) := ⟨rfl, rfl, rfl, by decide +kernel, rfl, by decide +kernel, by decide +kernel⟩
theorem mo_kend (F : MT K S "_end" "Stack._end" sKEnd ["self", "value"]) (TK : KTx K S) : MO P w K mg base CX0 S 1 "_end" ["self", "value"] (spKEnd S) := by
  obtain ⟨f, fd, F, hm, hb⟩ := F
  refine ⟨f, fd, ?_, hm, hb⟩
  refine F.ok scKEnd (fun vs H Q E h => ?_) (fun cdv A outer s H vs Q E hr h => ?_)
  · obtain ⟨k, dx, ml, a, v, x, rfl, _⟩ := h
    rfl
  · obtain ⟨k, dx, ml, a, v, x, rfl, D, kQ⟩ := h
    have hra : Room 0 _ := hr
    refine ⟨_, (pss_cons (ps_expr (pe_bm0 PySem.F.plainAttrs_list PySem.F.slot_list_pop PySem.F.type_list_pop mt_pop (pe_fld (pv 0) rfl)))
  (pss_one (ps_if (pt_truth (pe_fld (pv 0) rfl) (by intro _; rfl))
  (pss_one (ps_expr (Mr.pe_md (pe_ix ix_list (pe_fld (pv 0) rfl) (pe_un un_neg pe_int) (fun _ _ => rfl)) hra (pa_cons (pv 1) pa_nil))))
  (pss_one (ps_fld (pv 0) (pv 1) rfl))))), ?_⟩
    have hk := D.ob
    have ml_k : ml ≠ k := ne_of D.l hk (by intro z; cases z)
    refine ⟨_, rfl, k, S, dx, _, _, rfl, hk, TK.cl, TK.nM, rfl, .inl ⟨rfl, _, SqL.of D.l⟩, ml, _, .ref a, rfl, rfl, D.l, rfl, ?_⟩
    have hk1 : upd H ml (.lst ([a].map V.ref).dropLast) k = some (.ins S dx [("_machines", .ref ml), ("_value", v)]) := by rw [upd_ne ml_k.symm]; exact hk
    refine ⟨_, rfl, k, S, dx, _, _, rfl, hk1, TK.cl, TK.nM, rfl, false, .inl ⟨_, SqL.of upd_same, rfl⟩, iteF ?_⟩
    refine ⟨_, rfl, _, rfl, k, S, dx, _, rfl, hk1, TK.cl, TK.nV, (by show 2 < 1000; decide), ?_⟩
    refine kQ _ ⟨upd_same, ?_⟩ fun b o q n n2 => ?_
    · rw [upd_ne ml_k]; exact upd_same
    · rw [upd_ne n, upd_ne n2]; exact q
theorem scKCheck : FnScope ["self", "memory", "thread"] ["self", "memory", "thread"] (defScope sKCheck) := ⟨rfl, rfl, rfl, by decide +kernel, rfl, by decide +kernel, by decide +kernel⟩
theorem mo_kcheck (F : MT K S "_check_thread" "Stack._check_thread" sKCheck ["self", "memory", "thread"]) (TK : KTx K S) (TL : LTxt K mg C) (TM : MTxt K M) (GHt : MO P w K mg base CX0 C 3 "has_thread" ["self", "thread"] (spHasT C)) : MO P w K mg base CX0 S 4 "_check_thread" ["self", "memory", "thread"] (spKCheck P w K mg base S C M) := by
  obtain ⟨f, fd, F, hm, hb⟩ := F
  refine ⟨f, fd, ?_, hm, hb⟩
  refine F.ok scKCheck (fun vs H Q E h => ?_) (fun cdv A outer s H vs Q E hr h => ?_)
  · obtain ⟨k, dx, ml, m, ms, v, t, w, r, th, A, X, rfl, _⟩ := h
    rfl
  · obtain ⟨k, dx, ml, m, ms, v, t, w, r, th, A0, X, rfl, D, DM, hth, hc, kQ⟩ := h
    have hrq : Room 1 _ := hr.mono (by decide)
    have hrH : Room 3 _ := hr
    refine ⟨_, (pss_one (ps_if (PW.pt (pw_and (pt_truth (pe_fld (pv 0) rfl) (by intro _; rfl)) (pw_and1 (pt_cmpR op_ne (pe_ix ix_tup (Mr.pe_md0 (pe_ix ix_list (pe_fld (pv 0) rfl) (pe_un un_neg pe_int) (fun _ _ => rfl)) hrq) pe_int (fun _ _ => rfl)) pe_str (nomark _)))))
  (pss_one (ps_if (pt_not (pt_val (pm_ GHt TL.cl hrH (pe_fld (pv 1) rfl) (pa_cons (pv 2) pa_nil))))
  (pss_one ps_never)
  pss_nil))
  pss_nil)), ?_⟩
    have hk := D.ob
    rcases hc with rfl | ⟨a, CM, dxm, q, l, th', left, rest, rq, rfl, Mc, hq⟩
    · exact ⟨_, rfl, k, S, dx, _, _, rfl, hk, TK.cl, TK.nM, rfl, false, .inl ⟨_, SqL.of D.l, rfl⟩, iteF (iteF kQ)⟩
    · obtain ⟨s0, r0, e0, ne0, _⟩ := head_vs rq
      rw [e0] at hq
      obtain ⟨fr, hmr, FR⟩ := Mc.rq
      obtain ⟨dm, hmem⟩ := DM.ob
      obtain ⟨da, hlay⟩ := DM.lay
      refine ⟨_, rfl, k, S, dx, _, _, rfl, hk, TK.cl, TK.nM, rfl, true, .inl ⟨_, SqL.of D.l, rfl⟩, iteT ?_⟩
      refine ⟨_, rfl, k, S, dx, _, _, rfl, hk, TK.cl, TK.nM, rfl, _, rfl, ml, _, -1, _, rfl, rfl, SqL.of D.l, at_one, a, CM, dxm, _, fr, _, rfl, Mc.m.ob, Mc.cl, hmr, FR, Mc.n1, a, dxm, l, _, th', left, rest, rfl, Mc.m, q, _, 0, _, rfl, rfl, SqT.of hq, at_head, rfl, _, rfl, ?_⟩
      have cn : ¬ (V.str s0 = V.str "end") := fun z => ne0 (V.str.inj z)
      rw [decide_eq_false cn]
      refine iteT ?_
      refine ⟨_, rfl, m, M, dm, _, _, rfl, hmem, TM.cl, TM.nL, rfl, A0.a, da, _, rfl, hlay, rfl, _, rfl, A0.a, t, w, r, _, "int", rfl, rfl, ⟨da, hlay⟩, _, rfl, ?_⟩
      rw [inW_nat, decide_eq_true hth]
      exact iteF kQ
theorem scKSettle : FnScope ["self", "request"] ["self"] (defScope sKSettle) := ⟨rfl, rfl, rfl, by decide +kernel, rfl, by decide +kernel, by decide +kernel⟩
theorem mo_ksettle (F : MT K S "_settle" "Stack._settle" sKSettle ["self"]) (TK : KTx K S) (GEn : MO P w K mg base CX0 S 1 "_end" ["self", "value"] (spKEnd S)) : MO P w K mg base CX0 S 2 "_settle" ["self"] (spKSettle P w K mg base S) := by
  obtain ⟨f, fd, F, hm, hb⟩ := F
  refine ⟨f, fd, ?_, hm, hb⟩
  refine F.ok scKSettle (fun vs H Q E h => ?_) (fun cdv A outer s H vs Q E hr h => ?_)
  · obtain ⟨k, dx, ml, ms, v, rfl, _⟩ := h
    rfl
  · obtain ⟨k, dx, ml, ms, v, rfl, D, hc⟩ := h
    have nd := scKSettle.nd
    have hrq : Room 1 _ := hr
    have hrE : Room 1 _ := hr
    refine ⟨_, (pss_one (ps_while PassesOwn.never (pt_truth (pe_fld (pv 0) rfl) (by intro _; rfl))
  (pss_cons (ps_set (i := 1) nd rfl (Or.inl rfl) (Mr.pe_md0 (pe_ix ix_list (pe_fld (pv 0) rfl) (pe_un un_neg pe_int) (fun _ _ => rfl)) hrq))
  (pss_one (ps_if (pt_cmpR op_eq (pe_ix ix_tup (pv 1) pe_int (fun _ _ => rfl)) pe_str (nomark _))
  (pss_one (ps_expr (pe_bm PySem.F.plainAttrs_list PySem.F.slot_list_append PySem.F.type_list_append mt_append (pe_fld (pv 0) rfl) (pa_cons (pe_ix ix_tup (pv 1) pe_int (fun _ _ => rfl)) pa_nil))))
  (pss_one (ps_if (pt_cmpR op_eq (pe_ix ix_tup (pv 1) pe_int (fun _ _ => rfl)) pe_str (nomark _))
  (pss_one (ps_expr (pm_ GEn TK.cl hrE (pv 0) (pa_cons (pe_ix ix_tup (pv 1) pe_int (fun _ _ => rfl)) pa_nil))))
  (pss_one ps_retN)))))))), ?_⟩
    dsimp only [gName, tSeq]
    refine while_rel (fun n σ H2 => (n = 1 ∧ H2 = H ∧ ∃ x, σ = [some (.ref k), x]) ∨ (n = 0 ∧ ∃ x v, σ = [some (.ref k), x] ∧ StkAt S H2 k dx ml [] v ∧ Q .non H2)) ⟨1, .inl ⟨rfl, rfl, _, rfl⟩⟩ ?_ ?_
    · rintro n σ H2 (⟨rfl, rfl, x, rfl⟩ | ⟨rfl, x, v', rfl, D2, q2⟩)
      · rcases hc with ⟨rfl, kQ⟩ | ⟨a, CM, dxm, q, l, th', left, rest, rq, rfl, Mc, hq, kQ⟩ | ⟨a, CM, dxm, q, l, th', left, rest, xe, rfl, Mc, hq, kQ⟩
        · exact ⟨_, rfl, k, S, dx, _, _, rfl, D.ob, TK.cl, TK.nM, rfl, false, .inl ⟨_, SqL.of D.l, rfl⟩, iteF kQ⟩
        · obtain ⟨s0, r0, e0, ne0, ne1⟩ := head_vs rq
          rw [e0] at hq
          obtain ⟨fr, hmr, FR⟩ := Mc.rq
          refine ⟨_, rfl, k, S, dx, _, _, rfl, D.ob, TK.cl, TK.nM, rfl, true, .inl ⟨_, SqL.of D.l, rfl⟩, iteT ?_⟩
          refine ⟨_, rfl, k, S, dx, _, _, rfl, D.ob, TK.cl, TK.nM, rfl, _, rfl, ml, _, -1, _, rfl, rfl, SqL.of D.l, at_one, a, CM, dxm, _, fr, _, rfl, Mc.m.ob, Mc.cl, hmr, FR, Mc.n1, a, dxm, l, _, th', left, rest, rfl, Mc.m, ?_⟩
          refine ⟨_, rfl, q, _, 0, _, rfl, rfl, SqT.of hq, at_head, rfl, _, rfl, ?_⟩
          rw [decide_eq_false fun z => ne1 (V.str.inj z)]
          refine iteF ?_
          refine ⟨_, rfl, q, _, 0, _, rfl, rfl, SqT.of hq, at_head, rfl, _, rfl, ?_⟩
          rw [decide_eq_false fun z => ne0 (V.str.inj z)]
          exact iteF kQ
        · obtain ⟨fr, hmr, FR⟩ := Mc.rq
          refine ⟨_, rfl, k, S, dx, _, _, rfl, D.ob, TK.cl, TK.nM, rfl, true, .inl ⟨_, SqL.of D.l, rfl⟩, iteT ?_⟩
          refine ⟨_, rfl, k, S, dx, _, _, rfl, D.ob, TK.cl, TK.nM, rfl, _, rfl, ml, _, -1, _, rfl, rfl, SqL.of D.l, at_one, a, CM, dxm, _, fr, _, rfl, Mc.m.ob, Mc.cl, hmr, FR, Mc.n1, a, dxm, l, _, th', left, rest, rfl, Mc.m, ?_⟩
          refine ⟨_, rfl, q, _, 0, _, rfl, rfl, SqT.of hq, at_head, rfl, _, rfl, ?_⟩
          rw [decide_eq_false (show ¬ (V.str "end" = V.str "call") by decide +kernel)]
          refine iteF ?_
          refine ⟨_, rfl, q, _, 0, _, rfl, rfl, SqT.of hq, at_head, rfl, _, rfl, ?_⟩
          rw [decide_eq_true (rfl : V.str "end" = V.str "end")]
          refine iteT ?_
          refine ⟨_, rfl, k, dx, _, rfl, D.ob, rfl, _, rfl, q, _, 1, xe, rfl, rfl, SqT.of hq, rfl, k, dx, ml, a, v, xe, rfl, D, fun H3 D3 kp3 => ?_⟩
          exact ⟨0, by decide, .inr ⟨rfl, _, _, rfl, D3, kQ H3 D3 kp3⟩⟩
      · exact ⟨_, rfl, k, S, dx, _, _, rfl, D2.ob, TK.cl, TK.nM, rfl, false, .inl ⟨_, SqL.of D2.l, rfl⟩, iteF q2⟩
    · rintro σ H2 Q1 Q2 imp ⟨x, e, a, C', dx', fs, v1, h1, h2, h3, h4, h5, kk, t, q⟩
      exact ⟨x, e, a, C', dx', fs, v1, h1, h2, h3, h4, h5, kk, t, imp _ _ q⟩
theorem scKStep : FnScope ["self", "memory", "thread", "machine"] ["self", "memory", "thread"] (defScope sKStep) := ⟨rfl, rfl, rfl, by decide +kernel, rfl, by decide +kernel, by decide +kernel⟩
theorem mo_kstep {ka : Nat} (F : MT K S "step" "Stack.step" sKStep ["self", "memory", "thread"]) (TK : KTx K S) (TM : MTxt K M) (GCk : MO P w K mg base CX0 S 4 "_check_thread" ["self", "memory", "thread"] (spKCheck P w K mg base S C M)) (GSt : MO P w K mg base CX0 S 2 "_settle" ["self"] (spKSettle P w K mg base S))
    (GAc : MO P w K mg base CX0 M 11 "access" ["self", "thread", "request"] (spAccess K C M)) : MO P w K mg base CX0 S (ka + 12) "step" ["self", "memory", "thread"] (spKStep P w K mg base ka S C M) := by
  obtain ⟨f, fd, F, hm, hb⟩ := F
  refine ⟨f, fd, ?_, hm, hb⟩
  refine F.ok scKStep (fun vs H Q E h => ?_) (fun cdv A outer s H vs Q E hr h => ?_)
  · obtain ⟨k, dx, ml, m, ms, v, t, w, r, th, B, A, X, rfl, _⟩ := h
    rfl
  · obtain ⟨k, dx, ml, m, ms, v, t, w, r, th, B, A0, X, rfl, D, nok, DM, hth, so, hB, hc⟩ := h
    have nd := scKStep.nd
    have hrq : Room 1 _ := hr.mono (by omega)
    have hra : Room ka _ := hr.mono (by omega)
    have hrC : Room 4 _ := hr.mono (by omega)
    have hrS : Room 2 _ := hr.mono (by omega)
    have hrM : Room 11 _ := hr.mono (by omega)
    refine ⟨_, (pss_cons (ps_expr (pm_ GCk TK.cl hrC (pv 0) (pa_cons (pv 1) (pa_cons (pv 2) pa_nil))))
  (pss_cons (ps_expr (pm0_ GSt TK.cl hrS (pv 0)))
  (pss_cons (ps_if (pt_not (pt_truth (pe_fld (pv 0) rfl) (by intro _; rfl)))
  (pss_one (ps_ret pe_bl))
  pss_nil)
  (pss_cons (ps_set (i := 3) nd rfl (Or.inl rfl) (pe_ix ix_list (pe_fld (pv 0) rfl) (pe_un un_neg pe_int) (fun _ _ => rfl)))
  (pss_cons (ps_expr (Mr.pe_md (pv 3) hra (pa_cons (pm_ GAc TM.cl hrM (pv 1) (pa_cons (pv 2) (pa_cons (Mr.pe_md0 (pv 3) hrq) pa_nil))) pa_nil)))
  (pss_cons (ps_expr (pm0_ GSt TK.cl hrS (pv 0)))
  (pss_one (ps_ret pe_bl)))))))), ?_⟩
    have hk := D.ob
    rcases hc with ⟨rfl, kQ⟩ | ⟨a, CM, dxm, q, l, fa, th', left, rest, rq, spa, rfl, Mc, hq, ok, vals, fl, hma, FA, kQ⟩
    · refine ⟨_, rfl, k, dx, _, rfl, hk, rfl, _, rfl, _, rfl, k, dx, ml, m, [], v, t, w, r, th, A0, X, rfl, D, DM, hth, .inl rfl, ?_⟩
      refine ⟨_, rfl, k, dx, _, rfl, hk, rfl, k, dx, ml, [], v, rfl, D, .inl ⟨rfl, ?_⟩⟩
      exact ⟨_, rfl, k, S, dx, _, _, rfl, hk, TK.cl, TK.nM, rfl, false, .inl ⟨_, SqL.of D.l, rfl⟩, iteT kQ⟩
    · refine ⟨_, rfl, k, dx, _, rfl, hk, rfl, _, rfl, _, rfl, k, dx, ml, m, [a], v, t, w, r, th, A0, X, rfl, D, DM, hth, .inr ⟨a, CM, dxm, q, l, th', left, rest, rq, rfl, Mc, hq⟩, ?_⟩
      refine ⟨_, rfl, k, dx, _, rfl, hk, rfl, k, dx, ml, [a], v, rfl, D, .inr (.inl ⟨a, CM, dxm, q, l, th', left, rest, rq, rfl, Mc, hq, ?_⟩)⟩
      refine ⟨_, rfl, k, S, dx, _, _, rfl, hk, TK.cl, TK.nM, rfl, true, .inl ⟨_, SqL.of D.l, rfl⟩, iteF ?_⟩
      refine ⟨_, rfl, k, S, dx, _, _, rfl, hk, TK.cl, TK.nM, rfl, _, rfl, ml, _, -1, _, rfl, rfl, SqL.of D.l, at_one, ?_⟩
      obtain ⟨fr, hmr, FR⟩ := Mc.rq
      obtain ⟨dm, hmem⟩ := DM.ob
      refine ⟨_, rfl, a, CM, dxm, _, fa, spa, rfl, Mc.m.ob, Mc.cl, hma, FA, Mc.n2, _, rfl, m, dm, _, rfl, hmem, rfl, _, rfl, _, rfl, a, CM, dxm, _, fr, _, rfl, Mc.m.ob, Mc.cl, hmr, FR, Mc.n1, a, dxm, l, _, th', left, rest, rfl, Mc.m, m, t, w, r, th, B, A0, X, rq, q, rfl, nok, DM, hth, hq, ok, so, hB, vals, fl, fun v1 x p A' X' H1 ea R hp so' D' st => ?_⟩
      refine kQ v1 x p A' X' H1 ea R hp so' D' st _ fun u H2 hbe => ?_
      obtain ⟨D2, hb2⟩ := hbe
      have hk2 := D2.ob
      rcases hb2 with ⟨q2, l2, th2, left2, rest2, rq2, M2, hq2, kQ2⟩ | ⟨q2, l2, th2, left2, rest2, xe, M2, hq2, kQ2⟩
      · exact ⟨_, rfl, k, dx, _, rfl, hk2, rfl, k, dx, ml, [a], v, rfl, D2, .inr (.inl ⟨a, CM, dxm, q2, l2, th2, left2, rest2, rq2, rfl, M2, hq2, kQ2⟩)⟩
      · exact ⟨_, rfl, k, dx, _, rfl, hk2, rfl, k, dx, ml, [a], v, rfl, D2, .inr (.inr ⟨a, CM, dxm, q2, l2, th2, left2, rest2, xe, rfl, M2, hq2, fun H3 D3 k3 => kQ2 H3 D3 k3⟩)⟩
end
end Dk

set_option maxHeartbeats 4000000
/-! an access, and what the log tells of it -/
namespace Dk
open PySem PySem.Spec PyProof.Rows L2
def LogIs (H : Hp) (x : V) (n : Int) (th : Nat) (rq : Rq) : Prop := ∃ u q, x = .ref u ∧ H u = some (.tup [.int n, .int (th : Int), .ref q]) ∧ H q = some (.tup rq.vs)
theorem LogIs.ext {H H' : Hp} {x : V} {n : Int} {th : Nat} {rq : Rq} (h : LogIs H x n th rq) (s : ExT H H') : LogIs H' x n th rq := let ⟨u, q, a, b, c⟩ := h; ⟨u, q, a, s.1 _ _ b, s.1 _ _ c⟩
def spAccL (K : PySem.W.Frag) (C M : Addr) : Sp := fun vs H Q _ => ∃ (m : Addr) (t w r th B : Nat) (A : Adr) (S : MS) (rq : Rq) (q : Addr), vs = [.ref m, .int (th : Int), .ref q] ∧ NOk t w r ∧ MemAt C M H m t w r A S ∧ th < t ∧ H q = some (.tup rq.vs) ∧ rq.ok t w r ∧ SOk S t (t + w + r) B ∧ B + 6 < sizeLine ∧ rq.vals K H ∧ rq.flatAt K H S t ∧
  ∀ (v x : V) (p : Addr) (A' : Adr) (S' : MS) (H' : Hp), A'.a = A.a → Res K ((S.withCount (S.count + 1)).withLog (S.log ++ [x])) t th H' H' rq v S' → H' p = some (.tup [v, .int (S.count + 1)]) → LogIs H' x (S.count + 1) th rq → SOk S' t (t + w + r) (B + 2) → MemAt C M H' m t w r A' S' → Step m (t + w + r) A H A' H' → Q (.ref p) H'
section
variable {P : Program} {w : World} {K : PySem.W.Frag} {mg : Str → Option Value} {base : Heap} {C M NV LE : Addr}
theorem mo_accL (F : MT K M "access" "Memory.access" sAccess ["self", "thread", "request"]) (T : LTxt K mg C) (TM : MTxt K M) (GH : MO P w K mg base CX0 C 3 "has_thread" ["self", "thread"] (spHasT C)) (GA : GO P w K mg base CX0 8 "is_access" ["layout", "request"] (spIsAcc K C))
    (GR : MO P w K mg base CX0 M 10 "_result" ["self", "thread", "request"] (spResult K C M)) : MO P w K mg base CX0 M 11 "access" ["self", "thread", "request"] (spAccL K C M) := by
  obtain ⟨f, fd, F, hm, hb⟩ := F
  refine ⟨f, fd, ?_, hm, hb⟩
  refine F.ok scAccess (fun vs H Q E h => ?_) (fun cdv A outer s H vs Q E hr h => ?_)
  · obtain ⟨m, t, w, r, th, B, A, S, rq, q, rfl, _⟩ := h
    rfl
  · obtain ⟨m, t, w, r, th, B, A0, S, rq, q, rfl, nok, D, hth, hq, ok, so, hB, vals, hfl, k⟩ := h
    obtain ⟨dx, h1⟩ := D.ob
    obtain ⟨da, ha⟩ := D.lay
    have hr3 : Room 3 _ := hr.mono (by decide)
    have hr8 : Room 8 _ := hr.mono (by decide)
    refine ⟨_, pss_cons (ps_if (PW.pt (pw_or (pt_not (pt_val (pm_ GH T.cl hr3 (pe_fld (pv 0) rfl) (pa_cons (pv 1) pa_nil)))) (pw_or1 (pt_not (pt_val (pc_ GA hr8 (pa_cons (pe_fld (pv 0) rfl) (pa_cons (pv 2) pa_nil)))))))) (pss_one ps_never) pss_nil)
      (pss_cons (ps_fldaug (pv 0) pe_int in_add)
      (pss_cons (ps_expr (pe_bm PySem.F.plainAttrs_list PySem.F.slot_list_append PySem.F.type_list_append mt_append (pe_fld (pv 0) rfl) (pa_cons (pe_tup (pa_cons (pe_fld (pv 0) rfl) (pa_cons (pv 1) (pa_cons (pv 2) pa_nil)))) pa_nil)))
      (pss_one (ps_ret (pe_tup (pa_cons (pm_ GR TM.cl hr (pv 0) (pa_cons (pv 1) (pa_cons (pv 2) pa_nil))) (pa_cons (pe_fld (pv 0) rfl) pa_nil))))))), ?_⟩
    refine ⟨_, rfl, m, M, dx, _, _, rfl, h1, TM.cl, TM.nL, rfl, A0.a, da, _, rfl, ha, rfl, _, rfl, A0.a, t, w, r, _, "int", rfl, rfl, ⟨da, ha⟩, _, rfl, ?_⟩
    rw [inW_nat, decide_eq_true hth]
    refine iteF ?_
    refine ⟨_, rfl, m, M, dx, _, _, rfl, h1, TM.cl, TM.nL, rfl, _, rfl, A0.a, q, t, w, r, rq, rfl, ⟨da, ha⟩, hq, ok, vals, fun H1 s1 => ⟨_, rfl, iteF ?_⟩⟩
    have D1 := D.same s1
    -- self.count += 1
    refine ⟨_, rfl, m, M, dx, _, _, rfl, s1 _ _ h1, TM.cl, TM.nC, rfl, _, _, rfl, rfl, dx, _, s1 _ _ h1, (by show 7 < 1000; decide), ?_⟩
    have D2 : MemAt C M (upd H1 m (.ins M dx (putF "count" (.int (S.count + 1)) (mf A0 S.count)))) m t w r A0 (S.withCount (S.count + 1)) := D1.setCount (S.count + 1) dx
    have q2 : upd H1 m (.ins M dx (putF "count" (.int (S.count + 1)) (mf A0 S.count))) q = some (.tup rq.vs) := by
      rw [upd_ne (ne_of hq h1 (by intro z; cases z))]
      exact s1 _ _ hq
    have st2 : Step m (t + w + r) A0 H A0 (upd H1 m (.ins M dx (putF "count" (.int (S.count + 1)) (mf A0 S.count)))) := (Step.same s1).trans (Step.up (.inl rfl))
    generalize hH2 : upd H1 m (.ins M dx (putF "count" (.int (S.count + 1)) (mf A0 S.count))) = H2 at D2 q2 st2 ⊢
    obtain ⟨dx2, h2⟩ := D2.ob
    -- self._log.append(..)
    refine ⟨_, rfl, m, M, dx2, _, _, rfl, h2, TM.cl, TM.nG, rfl, .inl ⟨rfl, _, SqL.of D2.gl⟩, _, rfl, m, M, dx2, _, _, rfl, h2, TM.cl, TM.nC, rfl, _, rfl, _, rfl, (by show 3 ≤ sizeLine; decide), fun u hu => ?_⟩
    have s3 : Same H2 (upd H2 u (.tup [.int (S.count + 1), .int (th : Int), .ref q])) := fun b o e => by rw [upd_ne (ne_of_none e hu)]; exact e
    have D3 := D2.same s3
    refine ⟨A0.gl, _, _, rfl, rfl, D3.gl, (by have := so.log; show S.log.length < sizeLine; omega), ?_⟩
    have D4 := D3.setLog (S.log ++ [.ref u])
    have q4 : upd (upd H2 u (.tup [.int (S.count + 1), .int (th : Int), .ref q])) A0.gl (.lst (S.log ++ [.ref u])) q = some (.tup rq.vs) := by
      rw [upd_ne (ne_of (s3 _ _ q2) D3.gl (by intro z; cases z))]
      exact s3 _ _ q2
    have u4 : upd (upd H2 u (.tup [.int (S.count + 1), .int (th : Int), .ref q])) A0.gl (.lst (S.log ++ [.ref u])) u = some (.tup [.int (S.count + 1), .int (th : Int), .ref q]) := by
      rw [upd_ne (ne_of upd_same D3.gl (by intro z; cases z))]
      exact upd_same
    have st4 : Step m (t + w + r) A0 H A0 (upd (upd H2 u (.tup [.int (S.count + 1), .int (th : Int), .ref q])) A0.gl (.lst (S.log ++ [.ref u]))) := (st2.trans (Step.same s3)).trans (Step.up (.inr (.inr (.inr (.inr (.inr (.inl rfl)))))))
    have D4 : MemAt C M (upd (upd H2 u (.tup [.int (S.count + 1), .int (th : Int), .ref q])) A0.gl (.lst (S.log ++ [.ref u]))) m t w r A0 ((S.withCount (S.count + 1)).withLog (S.log ++ [.ref u])) := D4
    have hgoal : ∀ H4, MemAt C M H4 m t w r A0 ((S.withCount (S.count + 1)).withLog (S.log ++ [.ref u])) → H4 q = some (.tup rq.vs) → H4 u = some (.tup [.int (S.count + 1), .int (th : Int), .ref q]) → Step m (t + w + r) A0 H A0 H4 → (tRet (tTup (tCons (tMeth M "_result" (spResult K C M) [] E0 (tVar 0) (tCons (tVar 1) (tCons (tVar 2) tNil))) (tCons (tFld K (tVar 0) "count") tNil)))) { nx := fun _ H' => Q .non H', rt := Q } [some (.ref m), some (.int (th : Int)), some (.ref q)] H4 := fun H4 D4 q4 u4 st4 => by
      obtain ⟨dx4, h4⟩ := D4.ob
      refine ⟨_, rfl, m, dx4, _, rfl, h4, rfl, _, rfl, _, rfl, m, t, w, r, th, B + 1, A0, _, rq, q, rfl, nok, D4, hth, q4, ok, so.logged, by omega, vals_ext vals (st4.ext D), flatAt_ext (flatAt_log hfl) (st4.ext D), fun v A' S' H5 ea R D5 st5 => ?_⟩
      obtain ⟨dx5, h5⟩ := D5.ob
      obtain ⟨hc, hlg⟩ := R.count
      refine ⟨_, rfl, m, M, dx5, _, _, rfl, h5, TM.cl, TM.nC, rfl, (by show 2 ≤ sizeLine; decide), fun p hp => ?_⟩
      have s6 : Same H5 (upd H5 p (.tup [v, .int S'.count])) := fun b o e => by rw [upd_ne (ne_of_none e hp)]; exact e
      refine k v (.ref u) p A' S' _ ea (R.ext ((st5.ext D4).trans (.of s6)) (.of s6)) ?_ ⟨u, q, rfl, ((st5.ext D4).trans (.of s6)).1 _ _ u4, ((st5.ext D4).trans (.of s6)).1 _ _ q4⟩ (R.ok ok hth so.logged) (D5.same s6) ((st4.trans st5).trans (Step.same s6))
      rw [hc]
      exact upd_same
    exact hgoal _ D4 q4 u4 st4
end
end Dk

set_option maxHeartbeats 4000000
/-! a step of the stack, and what the log tells of it -/
namespace Dk
open PySem PySem.Spec PyProof.Rows L2
def spKStL (P : Program) (W : World) (K : PySem.W.Frag) (mg : Str → Option Value) (base : Heap) (ka : Nat) (S C M : Addr) : Sp := fun vs H Q _ => ∃ (k dx ml m : Addr) (ms : List Addr) (v0 : V) (t w r th B : Nat) (A : Adr) (X : MS), vs = [.ref k, .ref m, .int (th : Int)] ∧ StkAt S H k dx ml ms v0 ∧ NOk t w r ∧ MemAt C M H m t w r A X ∧ th < t ∧ SOk X t (t + w + r) B ∧ B + 6 < sizeLine ∧
  ((ms = [] ∧ Q (.bl false) H) ∨
   (∃ (a CM dxm q l fa : Addr) (th' : V) (left : List V) (rest : List (Str × V)) (rq : Rq) (spa : Sp), ms = [a] ∧ Mach P W K mg base CM H a dxm (.ref q) l th' left rest ∧ H q = some (.tup rq.vs) ∧ rq.ok t w r ∧ rq.vals K H ∧ rq.flatAt K H X t ∧ Meth K CM "accept" fa ∧ FnR P W K mg base CX0 ka fa spa ∧
     ∀ (v x : V) (p : Addr) (A' : Adr) (X' : MS) (H1 : Hp), A'.a = A.a → Res K ((X.withCount (X.count + 1)).withLog (X.log ++ [x])) t th H1 H1 rq v X' → H1 p = some (.tup [v, .int (X.count + 1)]) → LogIs H1 x (X.count + 1) th rq → SOk X' t (t + w + r) (B + 2) → MemAt C M H1 m t w r A' X' → Step m (t + w + r) A H A' H1 →
       ∀ Q' : VK, (∀ u H2, Behind P W K mg base S k dx ml a CM dxm v0 H2 Q → Q' u H2) → spa [.ref a, .ref p] H1 Q' E0))
section
variable {P : Program} {w : World} {K : PySem.W.Frag} {mg : Str → Option Value} {base : Heap} {C M NV LE S : Addr}
theorem mo_kstL {ka : Nat} (F : MT K S "step" "Stack.step" sKStep ["self", "memory", "thread"]) (TK : KTx K S) (TM : MTxt K M) (GCk : MO P w K mg base CX0 S 4 "_check_thread" ["self", "memory", "thread"] (spKCheck P w K mg base S C M)) (GSt : MO P w K mg base CX0 S 2 "_settle" ["self"] (spKSettle P w K mg base S))
    (GAc : MO P w K mg base CX0 M 11 "access" ["self", "thread", "request"] (spAccL K C M)) : MO P w K mg base CX0 S (ka + 12) "step" ["self", "memory", "thread"] (spKStL P w K mg base ka S C M) := by
  obtain ⟨f, fd, F, hm, hb⟩ := F
  refine ⟨f, fd, ?_, hm, hb⟩
  refine F.ok scKStep (fun vs H Q E h => ?_) (fun cdv A outer s H vs Q E hr h => ?_)
  · obtain ⟨k, dx, ml, m, ms, v, t, w, r, th, B, A, X, rfl, _⟩ := h
    rfl
  · obtain ⟨k, dx, ml, m, ms, v, t, w, r, th, B, A0, X, rfl, D, nok, DM, hth, so, hB, hc⟩ := h
    have nd := scKStep.nd
    have hrq : Room 1 _ := hr.mono (by omega)
    have hra : Room ka _ := hr.mono (by omega)
    have hrC : Room 4 _ := hr.mono (by omega)
    have hrS : Room 2 _ := hr.mono (by omega)
    have hrM : Room 11 _ := hr.mono (by omega)
    refine ⟨_, (pss_cons (ps_expr (pm_ GCk TK.cl hrC (pv 0) (pa_cons (pv 1) (pa_cons (pv 2) pa_nil))))
  (pss_cons (ps_expr (pm0_ GSt TK.cl hrS (pv 0)))
  (pss_cons (ps_if (pt_not (pt_truth (pe_fld (pv 0) rfl) (by intro _; rfl)))
  (pss_one (ps_ret pe_bl))
  pss_nil)
  (pss_cons (ps_set (i := 3) nd rfl (Or.inl rfl) (pe_ix ix_list (pe_fld (pv 0) rfl) (pe_un un_neg pe_int) (fun _ _ => rfl)))
  (pss_cons (ps_expr (Mr.pe_md (pv 3) hra (pa_cons (pm_ GAc TM.cl hrM (pv 1) (pa_cons (pv 2) (pa_cons (Mr.pe_md0 (pv 3) hrq) pa_nil))) pa_nil)))
  (pss_cons (ps_expr (pm0_ GSt TK.cl hrS (pv 0)))
  (pss_one (ps_ret pe_bl)))))))), ?_⟩
    have hk := D.ob
    rcases hc with ⟨rfl, kQ⟩ | ⟨a, CM, dxm, q, l, fa, th', left, rest, rq, spa, rfl, Mc, hq, ok, vals, fl, hma, FA, kQ⟩
    · refine ⟨_, rfl, k, dx, _, rfl, hk, rfl, _, rfl, _, rfl, k, dx, ml, m, [], v, t, w, r, th, A0, X, rfl, D, DM, hth, .inl rfl, ?_⟩
      refine ⟨_, rfl, k, dx, _, rfl, hk, rfl, k, dx, ml, [], v, rfl, D, .inl ⟨rfl, ?_⟩⟩
      exact ⟨_, rfl, k, S, dx, _, _, rfl, hk, TK.cl, TK.nM, rfl, false, .inl ⟨_, SqL.of D.l, rfl⟩, iteT kQ⟩
    · refine ⟨_, rfl, k, dx, _, rfl, hk, rfl, _, rfl, _, rfl, k, dx, ml, m, [a], v, t, w, r, th, A0, X, rfl, D, DM, hth, .inr ⟨a, CM, dxm, q, l, th', left, rest, rq, rfl, Mc, hq⟩, ?_⟩
      refine ⟨_, rfl, k, dx, _, rfl, hk, rfl, k, dx, ml, [a], v, rfl, D, .inr (.inl ⟨a, CM, dxm, q, l, th', left, rest, rq, rfl, Mc, hq, ?_⟩)⟩
      refine ⟨_, rfl, k, S, dx, _, _, rfl, hk, TK.cl, TK.nM, rfl, true, .inl ⟨_, SqL.of D.l, rfl⟩, iteF ?_⟩
      refine ⟨_, rfl, k, S, dx, _, _, rfl, hk, TK.cl, TK.nM, rfl, _, rfl, ml, _, -1, _, rfl, rfl, SqL.of D.l, at_one, ?_⟩
      obtain ⟨fr, hmr, FR⟩ := Mc.rq
      obtain ⟨dm, hmem⟩ := DM.ob
      refine ⟨_, rfl, a, CM, dxm, _, fa, spa, rfl, Mc.m.ob, Mc.cl, hma, FA, Mc.n2, _, rfl, m, dm, _, rfl, hmem, rfl, _, rfl, _, rfl, a, CM, dxm, _, fr, _, rfl, Mc.m.ob, Mc.cl, hmr, FR, Mc.n1, a, dxm, l, _, th', left, rest, rfl, Mc.m, m, t, w, r, th, B, A0, X, rq, q, rfl, nok, DM, hth, hq, ok, so, hB, vals, fl, fun v1 x p A' X' H1 ea R hp lg so' D' st => ?_⟩
      refine kQ v1 x p A' X' H1 ea R hp lg so' D' st _ fun u H2 hbe => ?_
      obtain ⟨D2, hb2⟩ := hbe
      have hk2 := D2.ob
      rcases hb2 with ⟨q2, l2, th2, left2, rest2, rq2, M2, hq2, kQ2⟩ | ⟨q2, l2, th2, left2, rest2, xe, M2, hq2, kQ2⟩
      · exact ⟨_, rfl, k, dx, _, rfl, hk2, rfl, k, dx, ml, [a], v, rfl, D2, .inr (.inl ⟨a, CM, dxm, q2, l2, th2, left2, rest2, rq2, rfl, M2, hq2, kQ2⟩)⟩
      · exact ⟨_, rfl, k, dx, _, rfl, hk2, rfl, k, dx, ml, [a], v, rfl, D2, .inr (.inr ⟨a, CM, dxm, q2, l2, th2, left2, rest2, xe, rfl, M2, hq2, fun H3 D3 k3 => kQ2 H3 D3 k3⟩)⟩
end
end Dk

set_option maxHeartbeats 4000000
/-! the stores, with what waits -/
namespace Dk
open PySem PySem.Spec PyProof.Rows L2 StX
abbrev sSInit : Stmt := inClass (top 13) 0
abbrev sTake : Stmt := inClass (top 13) 1
abbrev sGiveB : Stmt := inClass (top 13) 2
abbrev sTOut : Stmt := inClass (top 13) 3
abbrev sFreeC : Stmt := inClass (top 13) 4
abbrev sWait : Stmt := inClass (top 13) 5
abbrev sHasOut : Stmt := inClass (top 13) 6
abbrev sHasWait : Stmt := inClass (top 13) 7
abbrev sStamp : Stmt := inClass (top 13) 8
abbrev sFreeUp : Stmt := inClass (top 13) 9
abbrev sDivided : Stmt := top 14
abbrev sfs (la : Addr) (t : Int) (fa wa oa : Addr) : List (Str × V) := [("layout", .ref la), ("thread", .int t), ("_free", .ref fa), ("_waiting", .ref wa), ("_out", .ref oa)]
/-- a row of what waits: its tuple, its list, its stamp, its cells -/
structure Rw where
  p : Addr
  q : Addr
  e : Int
  cs : List Int
def RwOk (H : Hp) (rows : List Rw) : Prop := ∀ r, r ∈ rows → H r.p = some (.tup [.int r.e, .ref r.q]) ∧ H r.q = some (.lst (r.cs.map V.int))
theorem RwOk.same {H H' : Hp} {rows : List Rw} (h : RwOk H rows) (s : Same H H') : RwOk H' rows := fun r hr => ⟨s _ _ (h r hr).1, s _ _ (h r hr).2⟩
theorem RwOk.ins {H : Hp} {rows : List Rw} (h : RwOk H rows) {a C dx : Addr} {fs : List (Str × V)} (ha : H a = some (.ins C dx fs)) {o : HO} : RwOk (upd H a o) rows := fun r hr =>
  ⟨by rw [upd_ne (ne_of (h r hr).1 ha (by intro z; cases z))]; exact (h r hr).1, by rw [upd_ne (ne_of (h r hr).2 ha (by intro z; cases z))]; exact (h r hr).2⟩
structure StAt (S : Addr) (H : Hp) (a la : Addr) (t : Int) (fa wa oa : Addr) (fr out : List Int) (rows : List Rw) : Prop where
  ob : ∃ dx, H a = some (.ins S dx (sfs la t fa wa oa))
  f : H fa = some (.lst (fr.map V.int))
  w : H wa = some (.lst (rows.map fun (r : Rw) => V.ref r.p))
  o : H oa = some (.lst (out.map V.int))
  r : RwOk H rows
  d : wa ≠ fa ∧ wa ≠ oa ∧ ∀ r, r ∈ rows → r.q ≠ wa
theorem StAt.same {S : Addr} {H H' : Hp} {a la : Addr} {t : Int} {fa wa oa : Addr} {fr out : List Int} {rows : List Rw} (R : StAt S H a la t fa wa oa fr out rows) (s : Same H H') : StAt S H' a la t fa wa oa fr out rows :=
  ⟨let ⟨dx, h⟩ := R.ob; ⟨dx, s _ _ h⟩, s _ _ R.f, s _ _ R.w, s _ _ R.o, R.r.same s, R.d⟩
/-- over a list that the block leaves as it is, whatever the block does -/
theorem it_list {K : PySem.W.Frag} {a : Addr} {xs : List V} {Bd : V → Hp → (Hp → Prop) → Prop} {H0 : Hp} {Qd : Hp → Prop} (Pv : Nat → Hp → Prop) (h0 : Pv 0 H0) (hl : ∀ i H, i ≤ xs.length → Pv i H → SqL K H a xs)
    (hs : ∀ i x H, xs[i]? = some x → Pv i H → Bd x H (Pv (i + 1))) (hd : ∀ H, Pv xs.length H → Qd H) :
    ∃ W : Nat → Nat → Hp → Prop, (∃ m, W 0 m H0) ∧ ∀ i m H, W i m H →
      ((Itl K a).stop i H ∧ Qd H) ∨ ((Itl K a).go i H ∧ ∃ Nx : Hp → Prop, (∀ H', Nx H' → ∃ m', m' < m ∧ W (i + 1) m' H') ∧ ∀ x H', (Itl K a).yld i H x H' → Bd x H' Nx) := by
  refine ⟨fun i m H => m = xs.length - i ∧ i ≤ xs.length ∧ Pv i H, ⟨xs.length, by simp, Nat.zero_le _, h0⟩, ?_⟩
  rintro i m H ⟨rfl, hi, p⟩
  have q := hl i H hi p
  by_cases hlt : i < xs.length
  · refine .inr ⟨⟨xs, xs[i], q, by simp [hlt]⟩, Pv (i + 1), fun H' p' => ⟨xs.length - (i + 1), by omega, rfl, hlt, p'⟩, fun x H' y => ?_⟩
    obtain ⟨e, y⟩ := y
    subst e
    exact hs i x _ (y xs q) p
  · have e : i = xs.length := by omega
    subst e
    exact .inl ⟨⟨xs, q, Nat.le_refl _⟩, hd H p⟩
structure STxt (K : PySem.W.Frag) (mg : Str → Option Value) (S : Addr) : Prop where
  cl : Cls K S
  nL : NoAttr K S "layout"
  nT : NoAttr K S "thread"
  nF : NoAttr K S "_free"
  nW : NoAttr K S "_waiting"
  nO : NoAttr K S "_out"
  sorted : mg "sorted" = none
  max : mg "max" = none
  len : mg "len" = none
  list : mg "list" = none
  bool : mg "bool" = none
def Asc (l : List Int) : Prop := l.Pairwise (· ≤ ·)
def spSInit (S : Addr) : Sp := fun vs H Q _ => ∃ (a dx la : Addr) (t : Int) (ca : Addr) (cs : List Int), vs = [.ref a, .ref la, .int t, .ref ca] ∧ H a = some (.ins S dx []) ∧ H ca = some (.lst (cs.map V.int)) ∧
  ∀ H' fa wa oa fr, fr.Perm cs → Asc fr → StAt S H' a la t fa wa oa fr [] [] → H fa = none → H wa = none → H oa = none → Kept a H H' → Q .non H'
def spTake (S : Addr) : Sp := fun vs H Q _ => ∃ (a la : Addr) (t : Int) (fa wa oa : Addr) (fr out : List Int) (rows : List Rw) (n : Nat), vs = [.ref a, .int (n : Int)] ∧ StAt S H a la t fa wa oa fr out rows ∧ fr.length < 1000 ∧
  (fr.length < n → Q .non H) ∧ (n ≤ fr.length → ∀ H' p fa', H p = none → H fa' = none → p ≠ fa' → H' p = some (.lst ((fr.take n).map V.int)) → StAt S H' a la t fa' wa oa (fr.drop n) out rows → Kept a H H' → Q (.ref p) H')
def spGiveB (S : Addr) : Sp := fun vs H Q _ => ∃ (a la : Addr) (t : Int) (fa wa oa : Addr) (fr out : List Int) (rows : List Rw) (ca : Addr) (cs : List Int), vs = [.ref a, .ref ca] ∧ StAt S H a la t fa wa oa fr out rows ∧ H ca = some (.lst (cs.map V.int)) ∧ fr.length + cs.length < 1000 ∧
  ∀ H' fa' fr', fr'.Perm (fr ++ cs) → Asc fr' → H fa' = none → StAt S H' a la t fa' wa oa fr' out rows → Kept a H H' → Q .non H'
def spTOut (S : Addr) : Sp := fun vs H Q _ => ∃ (a la : Addr) (t : Int) (fa wa oa : Addr) (fr out : List Int) (rows : List Rw) (ca : Addr) (cs : List Int), vs = [.ref a, .ref ca] ∧ StAt S H a la t fa wa oa fr out rows ∧ H ca = some (.lst (cs.map V.int)) ∧ out.length + cs.length < 1000 ∧
  ∀ H' oa', H oa' = none → StAt S H' a la t fa wa oa' fr (out ++ cs) rows → Kept a H H' → Q .non H'
def spFreeC (S : Addr) : Sp := fun vs H Q _ => ∃ (a la : Addr) (t : Int) (fa wa oa : Addr) (fr out : List Int) (rows : List Rw), vs = [.ref a] ∧ StAt S H a la t fa wa oa fr out rows ∧
  ∀ H' p, H p = none → H' p = some (.lst (fr.map V.int)) → Same H H' → Q (.ref p) H'
def spHasOut (S : Addr) : Sp := fun vs H Q _ => ∃ (a la : Addr) (t : Int) (fa wa oa : Addr) (fr out : List Int) (rows : List Rw), vs = [.ref a] ∧ StAt S H a la t fa wa oa fr out rows ∧ Q (.bl !out.isEmpty) H
def spHasWait (S : Addr) : Sp := fun vs H Q _ => ∃ (a la : Addr) (t : Int) (fa wa oa : Addr) (fr out : List Int) (rows : List Rw), vs = [.ref a] ∧ StAt S H a la t fa wa oa fr out rows ∧ Q (.bl !rows.isEmpty) H
def spStamp (S : Addr) : Sp := fun vs H Q _ => ∃ (a la : Addr) (t : Int) (fa wa oa : Addr) (fr out : List Int) (rows : List Rw) (e : Int), vs = [.ref a, .int e] ∧ StAt S H a la t fa wa oa fr out rows ∧ rows.length < 1000 ∧
  ∀ H' p oa', H p = none → H oa' = none → StAt S H' a la t fa wa oa' fr [] (rows ++ [⟨p, oa, e, out⟩]) → Kept2 a wa H H' → Q .non H'
/-- all cells of the rows up to a stamp -/
def upTo (last : Int) (rows : List Rw) : List Int := (rows.filter fun r => decide (r.e ≤ last)).flatMap fun r => r.cs
def spFreeUp (S : Addr) : Sp := fun vs H Q _ => ∃ (a la : Addr) (t : Int) (fa wa oa : Addr) (fr out : List Int) (rows : List Rw) (last : Int), vs = [.ref a, .int last] ∧ StAt S H a la t fa wa oa fr out rows ∧ rows.length < 1000 ∧ fr.length + (upTo last rows).length < 1000 ∧
  ∀ H' fa' wa' fr', fr'.Perm (fr ++ upTo last rows) → Asc fr' → H fa' = none → H wa' = none → StAt S H' a la t fa' wa' oa fr' out (rows.filter fun r => decide (last < r.e)) → Kept a H H' → Q .non H'
def rD (r : Rw) : PyData := .tuple [.int r.e, .list (r.cs.map .int)]
def spWait (K : PySem.W.Frag) (S : Addr) : Sp := fun vs H Q _ => ∃ (a la : Addr) (t : Int) (fa wa oa : Addr) (fr : List Int) (rows : List Rw), vs = [.ref a] ∧ StAt S H a la t fa wa oa fr [] rows ∧ rows.length < 1000 ∧
  ∀ H' p, H p = none → Dp K H' (.ref p) (.list (rows.map rD)) → Same H H' → Q (.ref p) H'
def spDivided (C : Addr) : Sp := fun vs H Q _ => ∃ (la : Addr) (t w r : Int) (ca : Addr) (cs : List Int) (th : Int), vs = [.ref la, .ref ca, .int th] ∧ LayAt C H la t w r ∧ 0 < t ∧ H ca = some (.lst (cs.map V.int)) ∧ cs.length < 1000 ∧
  ∀ H' p ds, ds.Perm (cs.filter fun c => decide ((c - (rec0 t w + 0)).fmod t = th)) → Asc ds → H p = none → H' p = some (.lst (ds.map V.int)) → Same H H' → Q (.ref p) H'
theorem fil_t {p : Int → Bool} {cs : List Int} {i : Nat} (h : i < cs.length) (c : p cs[i] = true) : (cs.take (i + 1)).filter p = (cs.take i).filter p ++ [cs[i]] := by
  rw [List.take_succ_eq_append_getElem h, List.filter_append, List.filter_cons, if_pos c]
  rfl
theorem fil_f {p : Int → Bool} {cs : List Int} {i : Nat} (h : i < cs.length) (c : p cs[i] = false) : (cs.take (i + 1)).filter p = (cs.take i).filter p := by
  rw [List.take_succ_eq_append_getElem h, List.filter_append, List.filter_cons, if_neg (by rw [c]; decide)]
  simp
def rLof (K : PySem.W.Frag) : List V → Hp → VK → Prop := fun xs H Q => ∃ p ys, xs = [V.ref p] ∧ (SqL K H p ys ∨ SqT K H p ys) ∧ ∀ (l : Addr), H l = none → Q (V.ref l) (upd H l (HO.lst ys))
theorem cut_to {ns : List Int} {n : Nat} (h : n ≤ ns.length) : cutV (ns.map V.int) none (some (if (n : Int) > 0 then (n : Int) else 0)) = (ns.take n).map V.int := by
  have e : (if (n : Int) > 0 then (n : Int) else 0) = ((n : Nat) : Int) := by split <;> omega
  rw [e]
  unfold cutV
  rw [HT.sIx_none, HT.sIx_nat, List.drop_zero, List.length_map, List.map_take]
  congr 1
  omega
theorem cut_from {ns : List Int} {n : Nat} (h : n ≤ ns.length) : cutV (ns.map V.int) (some (n : Int)) none = (ns.drop n).map V.int := by
  unfold cutV
  rw [HT.sIx_none, HT.sIx_nat, List.length_map, List.map_drop, show min n ns.length = n by omega]
  refine List.take_of_length_le ?_
  rw [List.length_drop, List.length_map]
  exact Nat.le_refl _
section
variable {P : Program} {w : World} {K : PySem.W.Frag} {mg : Str → Option Value} {base : Heap} {C S : Addr}
theorem scSInit : FnScope ["self", "layout", "thread", "cells"] ["self", "layout", "thread", "cells"] (defScope sSInit) := ⟨rfl, rfl, rfl, by decide +kernel, rfl, by decide +kernel, by decide +kernel⟩
theorem ok_sinit {f : Addr} {fd : FuncData} (F : Fun K "__init__" "Store.__init__" sSInit f fd) (T : STxt K mg S) :
    FnOk P w K mg base CX0 1 f fd ["self", "layout", "thread", "cells"] (spSInit S) := by
  refine F.ok scSInit (fun vs H Q E h => ?_) (fun cdv A outer s H vs Q E hr h => ?_)
  · obtain ⟨a, dx, la, t, ca, cs, rfl, _⟩ := h
    rfl
  · obtain ⟨a, dx, la, t, ca, cs, rfl, ha, hc, k⟩ := h
    refine ⟨_, pss_cons (ps_fld (pv 0) (pv 1) rfl) (pss_cons (ps_fld (pv 0) (pv 2) rfl)
      (pss_cons (ps_fld (pv 0) (pe_callB cr_sortedI (by rfl) T.sorted (by decide +kernel) (pa_cons (pv 3) pa_nil)) rfl)
      (pss_cons (ps_fld (pv 0) (pe_lst pa_nil) rfl) (pss_one (ps_fld (pv 0) (pe_lst pa_nil) rfl))))), ?_⟩
    have ca_a : ca ≠ a := ne_of hc ha (by intro z; cases z)
    refine ⟨_, rfl, _, rfl, a, S, dx, [], rfl, ha, T.cl, T.nL, (by show 0 < 1000; decide), _, rfl, _, rfl, a, S, dx, _, rfl, upd_same, T.cl, T.nT, (by show 1 < 1000; decide), ?_⟩
    have kp : Kept a H (upd (upd H a (.ins S dx (putF "layout" (.ref la) []))) a (.ins S dx (putF "thread" (.int t) (putF "layout" (.ref la) [])))) := fun b o e hb => by rw [upd_ne hb, upd_ne hb]; exact e
    have ha1 : upd (upd H a (.ins S dx (putF "layout" (.ref la) []))) a (.ins S dx (putF "thread" (.int t) (putF "layout" (.ref la) []))) a = some (.ins S dx [("layout", .ref la), ("thread", .int t)]) := upd_same
    generalize upd (upd H a (.ins S dx (putF "layout" (.ref la) []))) a (.ins S dx (putF "thread" (.int t) (putF "layout" (.ref la) []))) = H1 at kp ha1 ⊢
    have fr1 : ∀ {p}, H1 p = none → H p = none := fun {p} hp => by
      cases e : H p with
      | none => rfl
      | some o =>
        have := kp p o e (fun z => by rw [z, ha1] at hp; cases hp)
        rw [hp] at this
        cases this
    refine ⟨_, rfl, ca, cs, rfl, SqL.of (kp _ _ hc ca_a), fun fr fa pm asc hfa => ⟨_, rfl, a, S, dx, _, rfl, up1 hfa _ _ ha1, T.cl, T.nF, (by show 2 < 1000; decide), ?_⟩⟩
    have n1 := fr1 hfa
    have fa_a : fa ≠ a := (ne_of_none ha1 hfa).symm
    have kp2 : Kept a H (upd (upd H1 fa (.lst (fr.map V.int))) a (.ins S dx (putF "_free" (.ref fa) [("layout", .ref la), ("thread", .int t)]))) := fun b o e hb => by rw [upd_ne hb]; exact up1 hfa _ _ (kp b o e hb)
    have hf2 : upd (upd H1 fa (.lst (fr.map V.int))) a (.ins S dx (putF "_free" (.ref fa) [("layout", .ref la), ("thread", .int t)])) fa = some (.lst (fr.map V.int)) := by rw [upd_ne fa_a]; exact upd_same
    have ha2 : upd (upd H1 fa (.lst (fr.map V.int))) a (.ins S dx (putF "_free" (.ref fa) [("layout", .ref la), ("thread", .int t)])) a = some (.ins S dx [("layout", .ref la), ("thread", .int t), ("_free", .ref fa)]) := upd_same
    generalize upd (upd H1 fa (.lst (fr.map V.int))) a (.ins S dx (putF "_free" (.ref fa) [("layout", .ref la), ("thread", .int t)])) = H2 at kp2 hf2 ha2 ⊢
    have fr2 : ∀ {p}, H2 p = none → H p = none := fun {p} hp => by
      cases e : H p with
      | none => rfl
      | some o =>
        have := kp2 p o e (fun z => by rw [z, ha2] at hp; cases hp)
        rw [hp] at this
        cases this
    refine ⟨(by show 0 ≤ sizeLine; exact Nat.zero_le _), fun wa hwa => ⟨_, rfl, a, S, dx, _, rfl, up1 hwa _ _ ha2, T.cl, T.nW, (by show 3 < 1000; decide), ?_⟩⟩
    have wa_a : wa ≠ a := (ne_of_none ha2 hwa).symm
    have kp3 : Kept a H (upd (upd H2 wa (.lst [])) a (.ins S dx (putF "_waiting" (.ref wa) [("layout", .ref la), ("thread", .int t), ("_free", .ref fa)]))) := fun b o e hb => by rw [upd_ne hb]; exact up1 hwa _ _ (kp2 b o e hb)
    have hf3 : upd (upd H2 wa (.lst [])) a (.ins S dx (putF "_waiting" (.ref wa) [("layout", .ref la), ("thread", .int t), ("_free", .ref fa)])) fa = some (.lst (fr.map V.int)) := by rw [upd_ne fa_a]; exact up1 hwa _ _ hf2
    have hw3 : upd (upd H2 wa (.lst [])) a (.ins S dx (putF "_waiting" (.ref wa) [("layout", .ref la), ("thread", .int t), ("_free", .ref fa)])) wa = some (.lst []) := by rw [upd_ne wa_a]; exact upd_same
    have ha3 : upd (upd H2 wa (.lst [])) a (.ins S dx (putF "_waiting" (.ref wa) [("layout", .ref la), ("thread", .int t), ("_free", .ref fa)])) a = some (.ins S dx [("layout", .ref la), ("thread", .int t), ("_free", .ref fa), ("_waiting", .ref wa)]) := upd_same
    have n2 := fr2 hwa
    generalize upd (upd H2 wa (.lst [])) a (.ins S dx (putF "_waiting" (.ref wa) [("layout", .ref la), ("thread", .int t), ("_free", .ref fa)])) = H3 at kp3 hf3 hw3 ha3 ⊢
    have fr3 : ∀ {p}, H3 p = none → H p = none := fun {p} hp => by
      cases e : H p with
      | none => rfl
      | some o =>
        have := kp3 p o e (fun z => by rw [z, ha3] at hp; cases hp)
        rw [hp] at this
        cases this
    refine ⟨(by show 0 ≤ sizeLine; exact Nat.zero_le _), fun oa hoa => ⟨_, rfl, a, S, dx, _, rfl, up1 hoa _ _ ha3, T.cl, T.nO, (by show 4 < 1000; decide), ?_⟩⟩
    have oa_a : oa ≠ a := (ne_of_none ha3 hoa).symm
    refine k _ fa wa oa fr pm asc ⟨⟨dx, upd_same⟩, ?_, ?_, ?_, fun r hr => absurd hr (by simp), (ne_of_none hf2 hwa).symm, ne_of_none hw3 hoa, fun r hr => absurd hr (by simp)⟩ n1 n2 (fr3 hoa) fun b o e hb => by rw [upd_ne hb]; exact up1 hoa _ _ (kp3 b o e hb)
    · rw [upd_ne fa_a]; exact up1 hoa _ _ hf3
    · rw [upd_ne wa_a]; exact up1 hoa _ _ hw3
    · rw [upd_ne oa_a]; exact upd_same
theorem scTake : FnScope ["self", "many", "taken"] ["self", "many"] (defScope sTake) := ⟨rfl, rfl, rfl, by decide +kernel, rfl, by decide +kernel, by decide +kernel⟩
theorem mo_take (F : MT K S "take" "Store.take" sTake ["self", "many"]) (T : STxt K mg S) : MO P w K mg base CX0 S 1 "take" ["self", "many"] (spTake S) := by
  obtain ⟨f, fd, F, hm, hb⟩ := F
  refine ⟨f, fd, ?_, hm, hb⟩
  refine F.ok scTake (fun vs H Q E h => ?_) (fun cdv A outer s H vs Q E hr h => ?_)
  · obtain ⟨a, la, t, fa, wa, oa, fr, out, rows, n, rfl, _⟩ := h
    rfl
  · obtain ⟨a, la, t, fa, wa, oa, fr, out, rows, n, rfl, R, hz, k1, k2⟩ := h
    have nd := scTake.nd
    have hsl : sizeLine = 16777216 := sizeLine_eq
    refine ⟨_, pss_cons (ps_if (pt_cmpR op_gt (pv 1) (pe_callB call_len_seq (by rfl) T.len PySem.boot_len (pa_cons (pe_fld (pv 0) rfl) pa_nil)) (nomark _)) (pss_one (ps_ret pe_non)) pss_nil)
      (pss_cons (ps_set (i := 2) nd rfl (Or.inl rfl) (pe_slice sl_list (pe_fld (pv 0) rfl) po_none (po_some (pe_callB (call_max2 rfl) (by rfl) T.max (by decide +kernel) (pa_cons pe_int (pa_cons (pv 1) pa_nil))))))
      (pss_cons (ps_fld (pv 0) (pe_slice sl_list (pe_fld (pv 0) rfl) (po_some (pe_callB call_len_seq (by rfl) T.len PySem.boot_len (pa_cons (pv 2) pa_nil))) po_none) rfl)
      (pss_one (ps_ret (pv 2))))), ?_⟩
    obtain ⟨dx, ha⟩ := R.ob
    refine ⟨_, rfl, _, rfl, a, S, dx, _, _, rfl, ha, T.cl, T.nF, rfl, fa, _, rfl, .inl (SqL.of R.f), _, _, rfl, rfl, _, rfl, ite2 (fun c => ?_) (fun c => ?_)⟩
    · have c := of_decide_eq_true c
      rw [List.length_map] at c
      exact k1 (by omega)
    · have c : n ≤ fr.length := by
        have : ¬ ((n : Int) > (((fr.map V.int).length : Nat) : Int)) := fun z => c (decide_eq_true z)
        rw [List.length_map] at this
        omega
      refine ⟨_, rfl, a, S, dx, _, _, rfl, ha, T.cl, T.nF, rfl, _, rfl, _, _, rfl, _, rfl, fa, _, rfl, SqL.of R.f, fun p hp => ?_⟩
      rw [cut_to c]
      have s1 := up1 (o := HO.lst ((fr.take n).map V.int)) hp
      have e1 : upd H p (HO.lst ((fr.take n).map V.int)) p = _ := upd_same
      generalize upd H p (HO.lst ((fr.take n).map V.int)) = H1 at s1 e1 ⊢
      have R1 := R.same s1
      refine ⟨_, rfl, a, S, dx, _, _, rfl, s1 _ _ ha, T.cl, T.nF, rfl, _, rfl, p, _, rfl, .inl (SqL.of e1), _, rfl, fa, _, rfl, SqL.of R1.f, fun fa' hfa' => ?_⟩
      have el : (((fr.take n).map V.int).length : Int) = ((n : Nat) : Int) := by rw [List.length_map, List.length_take]; omega
      rw [el, cut_from c]
      have s2 := up1 (o := HO.lst ((fr.drop n).map V.int)) hfa'
      have e2 : upd H1 fa' (HO.lst ((fr.drop n).map V.int)) fa' = _ := upd_same
      have p_fa' : p ≠ fa' := ne_of_none e1 hfa'
      have n2 := s1.free hfa'
      generalize upd H1 fa' (HO.lst ((fr.drop n).map V.int)) = H2 at s2 e2 ⊢
      have R2 := R1.same s2
      have ha2 := s2 _ _ (s1 _ _ ha)
      refine ⟨_, rfl, a, S, dx, _, rfl, ha2, T.cl, T.nF, (by show 5 < 1000; decide), _, rfl, ?_⟩
      have na : ∀ {q : Addr} {l : List V}, H2 q = some (.lst l) → q ≠ a := fun {q l} e => ne_of e ha2 (by intro z; cases z)
      refine k2 c _ p fa' hp n2 p_fa' ?_ ⟨⟨dx, upd_same⟩, ?_, ?_, ?_, R2.r.ins ha2, ne_of_none R1.w hfa', R1.d.2.1, R1.d.2.2⟩ fun b o e hb => by rw [upd_ne hb]; exact s2 _ _ (s1 _ _ e)
      · rw [upd_ne (na (s2 _ _ e1))]; exact s2 _ _ e1
      · rw [upd_ne (na e2)]; exact e2
      · rw [upd_ne (na R2.w)]; exact R2.w
      · rw [upd_ne (na R2.o)]; exact R2.o
theorem scGiveB : FnScope ["self", "cells"] ["self", "cells"] (defScope sGiveB) := ⟨rfl, rfl, rfl, by decide +kernel, rfl, by decide +kernel, by decide +kernel⟩
theorem mo_giveB (F : MT K S "give_back" "Store.give_back" sGiveB ["self", "cells"]) (T : STxt K mg S) : MO P w K mg base CX0 S 1 "give_back" ["self", "cells"] (spGiveB S) := by
  obtain ⟨f, fd, F, hm, hb⟩ := F
  refine ⟨f, fd, ?_, hm, hb⟩
  refine F.ok scGiveB (fun vs H Q E h => ?_) (fun cdv A outer s H vs Q E hr h => ?_)
  · obtain ⟨a, la, t, fa, wa, oa, fr, out, rows, ca, cs, rfl, _⟩ := h
    rfl
  · obtain ⟨a, la, t, fa, wa, oa, fr, out, rows, ca, cs, rfl, R, hc, hz, k⟩ := h
    have hsl : sizeLine = 16777216 := sizeLine_eq
    refine ⟨_, pss_one (ps_fld (pv 0) (pe_callB cr_sortedI (by rfl) T.sorted (by decide +kernel) (pa_cons (pe_lst (pa_star (pe_fld (pv 0) rfl) (pa_star (pv 1) pa_nil))) pa_nil)) rfl), ?_⟩
    obtain ⟨dx, ha⟩ := R.ob
    refine ⟨_, rfl, a, S, dx, _, _, rfl, ha, T.cl, T.nF, rfl, fa, _, rfl, .inr (SqL.of R.f), _, rfl, ca, _, rfl, .inr (SqL.of hc), ?_, fun q hq => ?_⟩
    · rw [List.length_append, List.length_append, List.length_map, List.length_map]
      simp only [List.length_nil]
      omega
    · have e0 : List.map V.int fr ++ (List.map V.int cs ++ []) = (fr ++ cs).map V.int := by rw [List.append_nil, List.map_append]
      rw [e0]
      have s1 := up1 (o := HO.lst ((fr ++ cs).map V.int)) hq
      have e1 : upd H q (HO.lst ((fr ++ cs).map V.int)) q = _ := upd_same
      generalize upd H q (HO.lst ((fr ++ cs).map V.int)) = H1 at s1 e1 ⊢
      refine ⟨q, _, rfl, SqL.of e1, fun fr' fa' pm asc hfa' => ?_⟩
      have s2 := up1 (o := HO.lst (fr'.map V.int)) hfa'
      have e2 : upd H1 fa' (HO.lst (fr'.map V.int)) fa' = _ := upd_same
      have n2 := s1.free hfa'
      generalize upd H1 fa' (HO.lst (fr'.map V.int)) = H2 at s2 e2 ⊢
      have R2 := (R.same s1).same s2
      have ha2 := s2 _ _ (s1 _ _ ha)
      refine ⟨_, rfl, a, S, dx, _, rfl, ha2, T.cl, T.nF, (by show 5 < 1000; decide), ?_⟩
      have na : ∀ {q : Addr} {l : List V}, H2 q = some (.lst l) → q ≠ a := fun {q l} e => ne_of e ha2 (by intro z; cases z)
      refine k _ fa' fr' pm asc n2 ⟨⟨dx, upd_same⟩, ?_, ?_, ?_, R2.r.ins ha2, ne_of_none (R.same s1).w hfa', R.d.2.1, R.d.2.2⟩ fun b o e hb => by rw [upd_ne hb]; exact s2 _ _ (s1 _ _ e)
      · rw [upd_ne (na e2)]; exact e2
      · rw [upd_ne (na R2.w)]; exact R2.w
      · rw [upd_ne (na R2.o)]; exact R2.o
theorem scTOut : FnScope ["self", "cells"] ["self", "cells"] (defScope sTOut) := ⟨rfl, rfl, rfl, by decide +kernel, rfl, by decide +kernel, by decide +kernel⟩
theorem mo_tout (F : MT K S "take_out" "Store.take_out" sTOut ["self", "cells"]) (T : STxt K mg S) : MO P w K mg base CX0 S 1 "take_out" ["self", "cells"] (spTOut S) := by
  obtain ⟨f, fd, F, hm, hb⟩ := F
  refine ⟨f, fd, ?_, hm, hb⟩
  refine F.ok scTOut (fun vs H Q E h => ?_) (fun cdv A outer s H vs Q E hr h => ?_)
  · obtain ⟨a, la, t, fa, wa, oa, fr, out, rows, ca, cs, rfl, _⟩ := h
    rfl
  · obtain ⟨a, la, t, fa, wa, oa, fr, out, rows, ca, cs, rfl, R, hc, hz, k⟩ := h
    have hsl : sizeLine = 16777216 := sizeLine_eq
    refine ⟨_, pss_one (ps_fld (pv 0) (pe_lst (pa_star (pe_fld (pv 0) rfl) (pa_star (pv 1) pa_nil))) rfl), ?_⟩
    obtain ⟨dx, ha⟩ := R.ob
    refine ⟨_, rfl, a, S, dx, _, _, rfl, ha, T.cl, T.nO, rfl, oa, _, rfl, .inr (SqL.of R.o), _, rfl, ca, _, rfl, .inr (SqL.of hc), ?_, fun q hq => ?_⟩
    · rw [List.length_append, List.length_append, List.length_map, List.length_map]
      simp only [List.length_nil]
      omega
    · have e0 : List.map V.int out ++ (List.map V.int cs ++ []) = (out ++ cs).map V.int := by rw [List.append_nil, List.map_append]
      rw [e0]
      have s1 := up1 (o := HO.lst ((out ++ cs).map V.int)) hq
      have e1 : upd H q (HO.lst ((out ++ cs).map V.int)) q = _ := upd_same
      generalize upd H q (HO.lst ((out ++ cs).map V.int)) = H2 at s1 e1 ⊢
      have R2 := R.same s1
      have ha2 := s1 _ _ ha
      refine ⟨_, rfl, a, S, dx, _, rfl, ha2, T.cl, T.nO, (by show 5 < 1000; decide), ?_⟩
      have na : ∀ {q : Addr} {l : List V}, H2 q = some (.lst l) → q ≠ a := fun {q l} e => ne_of e ha2 (by intro z; cases z)
      refine k _ q hq ⟨⟨dx, upd_same⟩, ?_, ?_, ?_, R2.r.ins ha2, R.d.1, ne_of_none R.w hq, R.d.2.2⟩ fun b o e hb => by rw [upd_ne hb]; exact s1 _ _ e
      · rw [upd_ne (na R2.f)]; exact R2.f
      · rw [upd_ne (na R2.w)]; exact R2.w
      · rw [upd_ne (na e1)]; exact e1
theorem scFreeC : FnScope ["self"] ["self"] (defScope sFreeC) := ⟨rfl, rfl, rfl, by decide +kernel, rfl, by decide +kernel, by decide +kernel⟩
theorem mo_freeC (F : MT K S "free_cells" "Store.free_cells" sFreeC ["self"]) (T : STxt K mg S) : MO P w K mg base CX0 S 1 "free_cells" ["self"] (spFreeC S) := by
  obtain ⟨f, fd, F, hm, hb⟩ := F
  refine ⟨f, fd, ?_, hm, hb⟩
  refine F.ok scFreeC (fun vs H Q E h => ?_) (fun cdv A outer s H vs Q E hr h => ?_)
  · obtain ⟨a, la, t, fa, wa, oa, fr, out, rows, rfl, _⟩ := h
    rfl
  · obtain ⟨a, la, t, fa, wa, oa, fr, out, rows, rfl, R, k⟩ := h
    obtain ⟨dx, ha⟩ := R.ob
    refine ⟨_, pss_one (ps_ret (pe_callTy call_list_of (by rfl) T.list (by decide +kernel) (pa_cons (pe_fld (pv 0) rfl) pa_nil))), ?_⟩
    exact ⟨_, rfl, a, S, dx, _, _, rfl, ha, T.cl, T.nF, rfl, fa, _, rfl, .inl (SqL.of R.f), fun p hp => k _ p hp upd_same (up1 hp)⟩
theorem scHasOut : FnScope ["self"] ["self"] (defScope sHasOut) := ⟨rfl, rfl, rfl, by decide +kernel, rfl, by decide +kernel, by decide +kernel⟩
theorem mo_hasOut (F : MT K S "has_taken_out" "Store.has_taken_out" sHasOut ["self"]) (T : STxt K mg S) : MO P w K mg base CX0 S 1 "has_taken_out" ["self"] (spHasOut S) := by
  obtain ⟨f, fd, F, hm, hb⟩ := F
  refine ⟨f, fd, ?_, hm, hb⟩
  refine F.ok scHasOut (fun vs H Q E h => ?_) (fun cdv A outer s H vs Q E hr h => ?_)
  · obtain ⟨a, la, t, fa, wa, oa, fr, out, rows, rfl, _⟩ := h
    rfl
  · obtain ⟨a, la, t, fa, wa, oa, fr, out, rows, rfl, R, k⟩ := h
    obtain ⟨dx, ha⟩ := R.ob
    refine ⟨_, (pss_one (ps_ret (pe_callTy call_boolL (by rfl) T.bool (by decide +kernel) (pa_cons (pe_fld (pv 0) rfl) pa_nil)))), ?_⟩
    refine ⟨_, rfl, a, S, dx, _, _, rfl, ha, T.cl, T.nO, rfl, oa, _, rfl, SqL.of R.o, ?_⟩
    have e : (out.map V.int).isEmpty = out.isEmpty := by cases out <;> rfl
    rw [e]
    exact k
theorem scHasWait : FnScope ["self"] ["self"] (defScope sHasWait) := ⟨rfl, rfl, rfl, by decide +kernel, rfl, by decide +kernel, by decide +kernel⟩
theorem mo_hasWait (F : MT K S "has_waiting" "Store.has_waiting" sHasWait ["self"]) (T : STxt K mg S) : MO P w K mg base CX0 S 1 "has_waiting" ["self"] (spHasWait S) := by
  obtain ⟨f, fd, F, hm, hb⟩ := F
  refine ⟨f, fd, ?_, hm, hb⟩
  refine F.ok scHasWait (fun vs H Q E h => ?_) (fun cdv A outer s H vs Q E hr h => ?_)
  · obtain ⟨a, la, t, fa, wa, oa, fr, out, rows, rfl, _⟩ := h
    rfl
  · obtain ⟨a, la, t, fa, wa, oa, fr, out, rows, rfl, R, k⟩ := h
    obtain ⟨dx, ha⟩ := R.ob
    refine ⟨_, (pss_one (ps_ret (pe_callTy call_boolL (by rfl) T.bool (by decide +kernel) (pa_cons (pe_fld (pv 0) rfl) pa_nil)))), ?_⟩
    refine ⟨_, rfl, a, S, dx, _, _, rfl, ha, T.cl, T.nW, rfl, wa, _, rfl, SqL.of R.w, ?_⟩
    have e : (rows.map fun (r : Rw) => V.ref r.p).isEmpty = rows.isEmpty := by cases rows <;> rfl
    rw [e]
    exact k
theorem scStamp : FnScope ["self", "epoch"] ["self", "epoch"] (defScope sStamp) := ⟨rfl, rfl, rfl, by decide +kernel, rfl, by decide +kernel, by decide +kernel⟩
theorem mo_stamp (F : MT K S "stamp" "Store.stamp" sStamp ["self", "epoch"]) (T : STxt K mg S) : MO P w K mg base CX0 S 1 "stamp" ["self", "epoch"] (spStamp S) := by
  obtain ⟨f, fd, F, hm, hb⟩ := F
  refine ⟨f, fd, ?_, hm, hb⟩
  refine F.ok scStamp (fun vs H Q E h => ?_) (fun cdv A outer s H vs Q E hr h => ?_)
  · obtain ⟨a, la, t, fa, wa, oa, fr, out, rows, e, rfl, _⟩ := h
    rfl
  · obtain ⟨a, la, t, fa, wa, oa, fr, out, rows, e, rfl, R, hz, k⟩ := h
    have hsl : sizeLine = 16777216 := sizeLine_eq
    obtain ⟨dx, ha⟩ := R.ob
    refine ⟨_, (pss_cons (ps_expr (pe_bm PySem.F.plainAttrs_list PySem.F.slot_list_append PySem.F.type_list_append mt_append (pe_fld (pv 0) rfl) (pa_cons (pe_tup (pa_cons (pv 1) (pa_cons (pe_fld (pv 0) rfl) pa_nil))) pa_nil)))
  (pss_one (ps_fld (pv 0) (pe_lst pa_nil) rfl))), ?_⟩
    refine ⟨_, rfl, a, S, dx, _, _, rfl, ha, T.cl, T.nW, rfl, .inl ⟨rfl, _, SqL.of R.w⟩, _, rfl, _, rfl, a, S, dx, _, _, rfl, ha, T.cl, T.nO, rfl, (by show 2 ≤ sizeLine; decide), fun p hp => ?_⟩
    have s1 := up1 (o := HO.tup [V.int e, V.ref oa]) hp
    have e1 : upd H p (HO.tup [V.int e, V.ref oa]) p = _ := upd_same
    generalize upd H p (HO.tup [V.int e, V.ref oa]) = H1 at s1 e1 ⊢
    have R1 := R.same s1
    refine ⟨wa, _, _, rfl, rfl, R1.w, (by rw [List.length_map]; omega), ?_⟩
    have ha1 := s1 _ _ ha
    have wa_a : wa ≠ a := ne_of R1.w ha1 (by intro z; cases z)
    have p_wa : p ≠ wa := ne_of e1 R1.w (by intro z; cases z)
    have k2 : ∀ b o, H1 b = some o → b ≠ wa → upd H1 wa (.lst ((rows.map fun (r : Rw) => V.ref r.p) ++ [.ref p])) b = some o := fun b o q n => by rw [upd_ne n]; exact q
    have w2 : upd H1 wa (.lst ((rows.map fun (r : Rw) => V.ref r.p) ++ [.ref p])) wa = some (.lst ((rows ++ [(⟨p, oa, e, out⟩ : Rw)]).map fun (r : Rw) => V.ref r.p)) := by rw [upd_same, List.map_append]; rfl
    generalize upd H1 wa (.lst ((rows.map fun (r : Rw) => V.ref r.p) ++ [.ref p])) = H2 at k2 w2 ⊢
    refine ⟨(by show 0 ≤ sizeLine; exact Nat.zero_le _), fun oa' hoa => ⟨_, rfl, a, S, dx, _, rfl, up1 hoa _ _ (k2 _ _ ha1 wa_a.symm), T.cl, T.nO, (by show 5 < 1000; decide), ?_⟩⟩
    have oa_wa : oa' ≠ wa := (ne_of_none w2 hoa).symm
    have nH : H oa' = none := by
      cases q : H oa' with
      | none => rfl
      | some o =>
        have := k2 _ _ (s1 _ _ q) oa_wa
        rw [hoa] at this
        cases this
    have oa_a : oa' ≠ a := (ne_of_none (k2 _ _ ha1 wa_a.symm) hoa).symm
    have na : ∀ {b : Addr} {o : HO}, H1 b = some o → b ≠ wa → b ≠ a → upd (upd H2 oa' (.lst [])) a (.ins S dx (sfs la t fa wa oa')) b = some o := fun {b o} q n1 n2 => by
      rw [upd_ne n2]; exact up1 hoa _ _ (k2 _ _ q n1)
    have fa_a : fa ≠ a := ne_of R1.f ha1 (by intro z; cases z)
    have oa0_a : oa ≠ a := ne_of R1.o ha1 (by intro z; cases z)
    refine k _ p oa' hp nH ⟨⟨dx, upd_same⟩, na R1.f R.d.1.symm fa_a, ?_, ?_, fun r hr => ?_, R.d.1, oa_wa.symm, fun r hr => ?_⟩ fun b o q n1 n2 => na (s1 _ _ q) n2 n1
    · rw [upd_ne wa_a]; exact up1 hoa _ _ w2
    · rw [upd_ne oa_a]; exact upd_same
    · rcases List.mem_append.mp hr with q | q
      · obtain ⟨q1, q2⟩ := R1.r r q
        exact ⟨na q1 (ne_of q1 R1.w (by intro z; cases z)) (ne_of q1 ha1 (by intro z; cases z)), na q2 (R.d.2.2 r q) (ne_of q2 ha1 (by intro z; cases z))⟩
      · rw [List.mem_singleton.mp q]
        exact ⟨na e1 p_wa (ne_of e1 ha1 (by intro z; cases z)), na R1.o R.d.2.1.symm oa0_a⟩
    · rcases List.mem_append.mp hr with q | q
      · exact R.d.2.2 r q
      · rw [List.mem_singleton.mp q]
        exact R.d.2.1.symm
theorem upTo_succ {last : Int} {rows : List Rw} {i : Nat} (h : i < rows.length) : upTo last (rows.take (i + 1)) = upTo last (rows.take i) ++ (if rows[i].e ≤ last then rows[i].cs else []) := by
  unfold upTo
  rw [List.take_succ_eq_append_getElem h, List.filter_append, List.flatMap_append, List.filter_cons]
  by_cases c : rows[i].e ≤ last
  · rw [if_pos c, if_pos (decide_eq_true c)]; simp
  · rw [if_neg c, if_neg (by simpa using c)]; simp
theorem upTo_le {last : Int} {rows : List Rw} {i : Nat} : (upTo last (rows.take i)).length ≤ (upTo last rows).length := by
  have e : rows = rows.take i ++ rows.drop i := (List.take_append_drop i rows).symm
  have h : upTo last rows = upTo last (rows.take i) ++ upTo last (rows.drop i) := by
    unfold upTo
    rw [← List.flatMap_append, ← List.filter_append, ← e]
  rw [h, List.length_append]
  omega
theorem rows_get {rows : List Rw} {i : Nat} {x : V} (hi : (rows.map fun (r : Rw) => V.ref r.p)[i]? = some x) : ∃ h : i < rows.length, x = .ref rows[i].p := by
  have hil : i < rows.length := by
    have := (List.getElem?_eq_some_iff.mp hi).1
    rwa [List.length_map] at this
  rw [List.getElem?_map, List.getElem?_eq_getElem hil] at hi
  exact ⟨hil, (Option.some.inj hi).symm⟩
theorem fil_map {p : Rw → Bool} {rows : List Rw} {i : Nat} (h : i < rows.length) : ((rows.take (i + 1)).filter p) = (rows.take i).filter p ++ (if p rows[i] then [rows[i]] else []) := by
  rw [List.take_succ_eq_append_getElem h, List.filter_append, List.filter_cons]
  split <;> rfl
theorem scFreeUp : FnScope ["self", "last", "rows", "row", "stamp", "cells", "cell"] ["self", "last"] (defScope sFreeUp) := ⟨rfl, rfl, rfl, by decide +kernel, rfl, by decide +kernel, by decide +kernel⟩
theorem mo_freeUp (F : MT K S "free_up_to" "Store.free_up_to" sFreeUp ["self", "last"]) (T : STxt K mg S) (GG : MO P w K mg base CX0 S 1 "give_back" ["self", "cells"] (spGiveB S)) : MO P w K mg base CX0 S 2 "free_up_to" ["self", "last"] (spFreeUp S) := by
  obtain ⟨f, fd, F, hm, hb⟩ := F
  refine ⟨f, fd, ?_, hm, hb⟩
  refine F.ok scFreeUp (fun vs H Q E h => ?_) (fun cdv A outer s H vs Q E hr h => ?_)
  · obtain ⟨a, la, t, fa, wa, oa, fr, out, rows, last, rfl, _⟩ := h
    rfl
  · obtain ⟨a, la, t, fa, wa, oa, fr, out, rows, last, rfl, R, hz, hz2, k⟩ := h
    have hsl : sizeLine = 16777216 := sizeLine_eq
    have nd := scFreeUp.nd
    have hr1 : Room 1 _ := hr
    obtain ⟨dx, ha⟩ := R.ob
    refine ⟨_, (pss_cons (ps_set (i := 2) nd rfl (Or.inl rfl) (pe_fld (pv 0) rfl))
  (pss_cons (ps_fld (pv 0) (pe_lc (own := [("row", 3)]) (g := (gName 3)) (tt := tTest (tOp (rI0 fun i j => .bl (decide (j < i))) (tOp (rIxT K) (tVar 3) (tC (.int 0))) (tVar 1))) rfl nd (pi_list (pv 2)) (blkOk_by (N := ["self", "last", "rows", "row", "stamp", "cells", "cell"]) (sc := defScope sFreeUp) (by decide +kernel)) (fun _ _ _ _ _ => (pg_name (i := 3) nd rfl (Or.inl rfl))) (fun _ _ _ _ _ => pts_one (pt_cmpR op_gt (pe_ix ix_tup (pv 3) pe_int (fun _ _ => rfl)) (pv 1) (nomark _))) (fun _ _ _ _ _ => (pv 3))) rfl)
  (pss_one (ps_expr (pm_ GG T.cl hr1 (pv 0) (pa_cons (pe_lc2 (own := [("stamp", 4), ("cells", 5), ("cell", 6)]) (vs1 := [6]) (g := gTup K 2 (gCons (gName 4) (gCons (gName 5) gNil))) (g1 := gName 6) (tt := tTest (tOp (rI0 fun i j => .bl (decide (i ≤ j))) (tVar 4) (tVar 1))) (tt1 := tYes) (te := tVar 6) (wi1 := iList K (tVar 5)) rfl nd (pi_list (pv 2)) (blkOk_by (N := ["self", "last", "rows", "row", "stamp", "cells", "cell"]) (sc := defScope sFreeUp) (by decide +kernel)) (by decide) (fun _ _ _ _ _ => pg_tup (by rfl) (pgs_cons (pg_name (i := 4) nd rfl (Or.inl rfl)) (pgs_cons (pg_name (i := 5) nd rfl (Or.inl rfl)) pgs_nil))) (fun _ _ _ _ _ => pts_one (pt_cmpR op_le (pv 4) (pv 1) (nomark _))) (fun _ _ _ _ _ => pi_list (pv 5)) (fun _ _ _ _ _ => pg_name (i := 6) nd rfl (Or.inl rfl)) (fun _ _ _ _ _ => pts_nil) (fun _ _ _ _ _ => pv 6)) pa_nil)))))), ?_⟩
    refine ⟨_, rfl, a, S, dx, _, _, rfl, ha, T.cl, T.nW, rfl, ?_⟩
    refine ⟨_, rfl, wa, rfl, ⟨_, SqL.of R.w⟩, fun D hD => lc_list (K := K) (a := wa) (xs := rows.map fun (r : Rw) => V.ref r.p) (fun i H' => H' D = some (.lst (((rows.take i).filter fun r => decide (last < r.e)).map fun (r : Rw) => V.ref r.p)) ∧ Same H H') ⟨upd_same, up1 hD⟩ (fun i H' _ q => SqL.of (q.2 _ _ R.w)) ?_ ?_⟩
    · rintro i x H' hi ⟨hD', s1⟩
      obtain ⟨hil, rfl⟩ := rows_get hi
      have rr := R.r rows[i] (List.getElem_mem hil)
      refine ⟨rfl, _, rfl, rows[i].p, _, 0, _, rfl, rfl, SqT.of (s1 _ _ rr.1), at_head, _, rfl, _, _, rfl, rfl, ?_⟩
      refine ⟨_, rfl, ?_⟩
      by_cases c : last < rows[i].e
      · rw [decide_eq_true c]
        refine iteT ⟨_, rfl, _, hD', ?_, ?_, fun b o e => by rw [upd_ne (ne_of_none e hD)]; exact s1 b o e⟩
        · rw [List.length_map]
          have := List.length_filter_le (fun r : Rw => decide (last < r.e)) (rows.take i)
          rw [List.length_take] at this
          omega
        · rw [upd_same, fil_map hil, if_pos (decide_eq_true c), List.map_append]
          rfl
      · rw [decide_eq_false c]
        refine iteF ⟨?_, s1⟩
        rw [fil_map hil, if_neg (by simpa using c), List.append_nil]
        exact hD'
    rintro H1 ⟨hD1, s1⟩
    rw [List.length_map, List.take_length] at hD1
    have ha1 := s1 _ _ ha
    refine ⟨_, rfl, a, S, dx, _, rfl, ha1, T.cl, T.nW, (by show 5 < 1000; decide), ?_⟩
    have R1 := R.same s1
    have na : ∀ {q : Addr} {l : List V}, H1 q = some (.lst l) → q ≠ a := fun {q l} e => ne_of e ha1 (by intro z; cases z)
    have rsub : ∀ r, r ∈ rows.filter (fun r => decide (last < r.e)) → r ∈ rows := fun r hr => (List.mem_filter.mp hr).1
    obtain ⟨H2, e2, kp2⟩ : ∃ H2, upd H1 a (.ins S dx (sfs la t fa D oa)) = H2 ∧ ∀ b o, H1 b = some o → b ≠ a → H2 b = some o := ⟨_, rfl, fun b o q n => by rw [upd_ne n]; exact q⟩
    have hw2 : H2 wa = some (.lst (rows.map fun (r : Rw) => V.ref r.p)) := kp2 _ _ R1.w (na R1.w)
    have rw2 : RwOk H2 rows := by rw [← e2]; exact R1.r.ins ha1
    have R2 : StAt S H2 a la t fa D oa fr out (rows.filter fun r => decide (last < r.e)) := by
      refine ⟨⟨dx, by rw [← e2]; exact upd_same⟩, kp2 _ _ R1.f (na R1.f), kp2 _ _ hD1 (na hD1), kp2 _ _ R1.o (na R1.o), fun r hr => rw2 r (rsub r hr), (ne_of_none R.f hD).symm, (ne_of_none R.o hD).symm, fun r hr => ne_of_none (R.r r (rsub r hr)).2 hD⟩
    have kp : Kept a H H2 := fun b o q n => kp2 _ _ (s1 _ _ q) n
    obtain ⟨dx2, ha2⟩ := R2.ob
    have eP : putF ("_waiting" : Str) (.ref D) (sfs la t fa wa oa) = sfs la t fa D oa := rfl
    rw [eP, e2]
    refine ⟨_, rfl, a, dx2, _, rfl, ha2, rfl, _, rfl, wa, rfl, ⟨_, SqL.of hw2⟩, fun D2 hD2 => it_list (K := K) (a := wa) (xs := rows.map fun (r : Rw) => V.ref r.p) (fun i H' => H' D2 = some (.lst ((upTo last (rows.take i)).map V.int)) ∧ Same H2 H') ⟨upd_same, up1 hD2⟩ (fun i H' _ q => SqL.of (q.2 _ _ hw2)) ?_ ?_⟩
    · rintro i x H' hi ⟨hD', s2⟩
      obtain ⟨hil, rfl⟩ := rows_get hi
      have rr := rw2 rows[i] (List.getElem_mem hil)
      have h1 := s2 _ _ rr.1
      have h2 := s2 _ _ rr.2
      refine ⟨rows[i].p, _, rfl, SqT.of h1, rfl, _, _, rfl, _, _, rfl, rfl, rfl, _, rfl, _, rfl, _, _, rfl, rfl, _, rfl, ?_⟩
      have eU := upTo_succ (last := last) hil
      by_cases c : rows[i].e ≤ last
      · rw [decide_eq_true c]
        rw [if_pos c] at eU
        refine iteT ⟨_, rfl, rows[i].q, rfl, ⟨_, SqL.of h2⟩, it_list (K := K) (a := rows[i].q) (xs := rows[i].cs.map V.int) (fun j H' => H' D2 = some (.lst ((upTo last (rows.take i) ++ rows[i].cs.take j).map V.int)) ∧ Same H2 H') ⟨by rw [List.take_zero, List.append_nil]; exact hD', s2⟩ (fun j H' _ q => SqL.of (q.2 _ _ rr.2)) ?_ ?_⟩
        · rintro j x H' hj ⟨hD', s3⟩
          have hjl : j < rows[i].cs.length := by
            have := (List.getElem?_eq_some_iff.mp hj).1
            rwa [List.length_map] at this
          have hx : x = .int rows[i].cs[j] := by
            rw [List.getElem?_map, List.getElem?_eq_getElem hjl] at hj
            exact (Option.some.inj hj).symm
          subst hx
          refine ⟨rfl, _, rfl, _, hD', ?_, ?_, fun b o e => by rw [upd_ne (ne_of_none e hD2)]; exact s3 b o e⟩
          · rw [List.length_map, List.length_append]
            have h5 := upTo_le (last := last) (rows := rows) (i := i + 1)
            rw [eU, List.length_append] at h5
            rw [List.length_take]
            omega
          · rw [upd_same, List.take_succ_eq_append_getElem hjl, ← List.append_assoc, List.map_append (l₂ := [_])]
            rfl
        · rintro H' ⟨hD', s3⟩
          rw [List.length_map, List.take_length, ← eU] at hD'
          exact ⟨hD', s3⟩
      · rw [decide_eq_false c]
        rw [if_neg c, List.append_nil] at eU
        refine iteF ⟨?_, s2⟩
        rw [eU]
        exact hD'
    rintro H3 ⟨hD3, s3⟩
    rw [List.length_map, List.take_length] at hD3
    refine ⟨a, la, t, fa, D, oa, fr, out, _, D2, _, rfl, R2.same s3, hD3, hz2, fun H4 fa' fr' pm asc nfa R4 kp4 => ?_⟩
    have frk : ∀ {q : Addr}, H2 q = none → H q = none := fun {q} e => by
      cases h : H q with
      | none => rfl
      | some o =>
        have := kp q o h (fun z => by rw [z, ha2] at e; cases e)
        rw [e] at this
        cases this
    exact k H4 fa' D fr' pm asc (frk (s3.free nfa)) hD R4 fun b o e n => kp4 b o (s3 _ _ (kp b o e n)) n
theorem dpi {K : PySem.W.Frag} {H : Hp} : ∀ ns : List Int, DpAll K H (ns.map V.int) (ns.map PyData.int)
  | [] => .nil
  | n :: r => .cons (.int n) (dpi r)
theorem dl {K : PySem.W.Frag} {H : Hp} {a : Addr} {ns : List Int} (h : H a = some (.lst (ns.map V.int))) : Dp K H (.ref a) (.list (ns.map .int)) := .lst (SqL.of h) (dpi ns)
theorem dpRows {K : PySem.W.Frag} {H : Hp} : ∀ (ps : List (Addr × Addr)) (rows : List Rw), ps.length = rows.length → (∀ (j : Nat) (p : Addr × Addr) (r : Rw), ps[j]? = some p → rows[j]? = some r → H p.1 = some (.tup [.int r.e, .ref p.2]) ∧ H p.2 = some (.lst (r.cs.map V.int))) → DpAll K H (ps.map fun p => V.ref p.1) (rows.map rD)
  | [], [], _, _ => .nil
  | [], _ :: _, h, _ => by simp at h
  | _ :: _, [], h, _ => by simp at h
  | p :: ps, r :: rows, h, hr => by
    obtain ⟨h1, h2⟩ := hr 0 p r rfl rfl
    exact .cons (.tup (SqT.of h1) (.cons (.int _) (.cons (dl h2) .nil))) (dpRows ps rows (by simpa using h) fun j p' r' e1 e2 => hr (j + 1) p' r' e1 e2)
theorem scWait : FnScope ["self", "rows", "stamp", "cells"] ["self"] (defScope sWait) := ⟨rfl, rfl, rfl, by decide +kernel, rfl, by decide +kernel, by decide +kernel⟩
theorem mo_wait (F : MT K S "waiting" "Store.waiting" sWait ["self"]) (T : STxt K mg S) : MO P w K mg base CX0 S 1 "waiting" ["self"] (spWait K S) := by
  obtain ⟨f, fd, F, hm, hb⟩ := F
  refine ⟨f, fd, ?_, hm, hb⟩
  refine F.ok scWait (fun vs H Q E h => ?_) (fun cdv A outer s H vs Q E hr h => ?_)
  · obtain ⟨a, la, t, fa, wa, oa, fr, rows, rfl, _⟩ := h
    rfl
  · obtain ⟨a, la, t, fa, wa, oa, fr, rows, rfl, R, hz, k⟩ := h
    obtain ⟨dx, ha⟩ := R.ob
    have nd := scWait.nd
    have hsl : sizeLine = 16777216 := sizeLine_eq
    refine ⟨_, (pss_cons (ps_setLc (i := 1) (own := [("stamp", 2), ("cells", 3)]) (g := (gTup K 2 (gCons (gName 2) (gCons (gName 3) gNil)))) (tt := tYes) rfl nd rfl rfl (sw_true rfl rfl rfl (by decide +kernel)) (pi_list (pe_fld (pv 0) rfl)) (blkOk_by (N := ["self", "rows", "stamp", "cells"]) (sc := defScope sWait) (by decide +kernel)) (fun _ _ _ _ _ => (pg_tup (by rfl) (pgs_cons (pg_name (i := 2) nd rfl (Or.inl rfl)) (pgs_cons (pg_name (i := 3) nd rfl (Or.inl rfl)) pgs_nil)))) (fun _ _ _ _ _ => pts_nil) (fun _ _ _ _ _ => (pe_tup (pa_cons (pv 2) (pa_cons (pe_callTy (T := "list") (r := rLof K) call_list_of (by rfl) T.list (by decide +kernel) (pa_cons (pv 3) pa_nil)) pa_nil)))))
  (pss_cons (ps_if (pt_truth (pe_fld (pv 0) rfl) (by intro _; rfl))
  (pss_one (ps_expr (pe_bm PySem.F.plainAttrs_list PySem.F.slot_list_append PySem.F.type_list_append mt_append (pv 1) (pa_cons (pe_tup (pa_cons pe_non (pa_cons (pe_callTy call_list_of (by rfl) T.list (by decide +kernel) (pa_cons (pe_fld (pv 0) rfl) pa_nil)) pa_nil))) pa_nil))))
  pss_nil)
  (pss_one (ps_ret (pv 1))))), ?_⟩
    refine ⟨_, rfl, a, S, dx, _, _, rfl, ha, T.cl, T.nW, rfl, wa, rfl, ⟨_, SqL.of R.w⟩, fun D hD => lc_list (K := K) (a := wa) (xs := rows.map fun (r : Rw) => V.ref r.p) (fun i H' => Same H H' ∧ ∃ ps : List (Addr × Addr), H' D = some (.lst (ps.map fun p => V.ref p.1)) ∧ ps.length = i ∧ ∀ (j : Nat) (p : Addr × Addr) (r : Rw), ps[j]? = some p → rows[j]? = some r → p.2 ≠ D ∧ H' p.1 = some (.tup [.int r.e, .ref p.2]) ∧ H' p.2 = some (.lst (r.cs.map V.int)))
      ⟨up1 hD, [], upd_same, rfl, fun j p r e => by simp at e⟩ (fun i H' _ q => SqL.of (q.1 _ _ R.w)) ?_ ?_⟩
    · rintro i x H' hi ⟨s1, ps, hD', pl, pr⟩
      obtain ⟨hil, rfl⟩ := rows_get hi
      have rr := R.r rows[i] (List.getElem_mem hil)
      have h1 := s1 _ _ rr.1
      have h2 := s1 _ _ rr.2
      refine ⟨rows[i].p, _, rfl, SqT.of h1, rfl, _, _, rfl, _, _, rfl, rfl, rfl, _, rfl, _, rfl, rows[i].q, _, rfl, .inl (SqL.of h2), fun q hq => ⟨(by show 2 ≤ sizeLine; decide), fun p hp => ?_⟩⟩
      have s2 := up1 (o := HO.lst (rows[i].cs.map V.int)) hq
      have e2 : upd H' q (HO.lst (rows[i].cs.map V.int)) q = _ := upd_same
      have q_D : q ≠ D := (ne_of_none hD' hq).symm
      generalize upd H' q (HO.lst (rows[i].cs.map V.int)) = H2 at s2 e2 hp ⊢
      have s3 := up1 (o := HO.tup [V.int rows[i].e, V.ref q]) hp
      have e3 : upd H2 p (HO.tup [V.int rows[i].e, V.ref q]) p = _ := upd_same
      generalize upd H2 p (HO.tup [V.int rows[i].e, V.ref q]) = H3 at s3 e3 ⊢
      have hD3 := s3 _ _ (s2 _ _ hD')
      have kD : ∀ {b : Addr} {o : HO} {l : List V}, H3 b = some o → b ≠ D → upd H3 D (.lst l) b = some o := fun {b o l} e n => by rw [upd_ne n]; exact e
      refine ⟨_, hD3, (by rw [List.length_map]; omega), fun b o e => by rw [upd_ne (ne_of_none e hD)]; exact s3 _ _ (s2 _ _ (s1 _ _ e)), ps ++ [(p, q)], by rw [upd_same, List.map_append]; rfl, by rw [List.length_append, pl]; rfl, fun j p' r' e1 e2' => ?_⟩
      by_cases c : j < ps.length
      · rw [List.getElem?_append_left c] at e1
        obtain ⟨g1, g2, g3⟩ := pr j p' r' e1 e2'
        have g2 := s3 _ _ (s2 _ _ g2)
        exact ⟨g1, kD g2 (ne_of g2 hD3 (by intro z; cases z)), kD (s3 _ _ (s2 _ _ g3)) g1⟩
      · have ej : j = i := by
          have := (List.getElem?_eq_some_iff.mp e1).1
          rw [List.length_append, List.length_singleton] at this
          omega
        subst ej
        rw [List.getElem?_append_right (by omega), pl, Nat.sub_self] at e1
        have e1 := Option.some.inj e1
        subst e1
        rw [List.getElem?_eq_getElem hil] at e2'
        have e2' := Option.some.inj e2'
        subst e2'
        exact ⟨q_D, kD e3 (ne_of e3 hD3 (by intro z; cases z)), kD (s3 _ _ e2) q_D⟩
    · rintro H1 ⟨s1, ps, hD1, pl, pr⟩
      rw [List.length_map] at pl
      refine ⟨_, rfl, a, S, dx, _, _, rfl, s1 _ _ ha, T.cl, T.nO, rfl, false, .inl ⟨_, SqL.of (s1 _ _ R.o), rfl⟩, iteF ⟨_, rfl, k H1 D hD ?_ s1⟩⟩
      exact .lst (SqL.of hD1) (dpRows ps rows pl fun j p r e1 e2 => (pr j p r e1 e2).2)
theorem scDivided : FnScope ["layout", "cells", "thread", "first", "cell"] ["layout", "cells", "thread"] (defScope sDivided) := ⟨rfl, rfl, rfl, by decide +kernel, rfl, by decide +kernel, by decide +kernel⟩
theorem go_divided (F : GT K mg "divided" sDivided ["layout", "cells", "thread"]) (T : LTxt K mg C) (TS : STxt K mg S) (G : MO P w K mg base CX0 C 4 "record" ["self", "index"] (spL1 C fun t w _ i => .int (rec0 t w + i))) :
    GO P w K mg base CX0 5 "divided" ["layout", "cells", "thread"] (spDivided C) := by
  obtain ⟨f, fd, F, hm, hb⟩ := F
  refine ⟨f, fd, ?_, hm, F.kp, hb⟩
  refine F.ok scDivided (fun vs H Q E h => ?_) (fun cdv A outer s H vs Q E hr h => ?_)
  · obtain ⟨la, t, w, r, ca, cs, th, rfl, _⟩ := h
    rfl
  · obtain ⟨la, t, w, r, ca, cs, th, rfl, L, ht, hc, hz, k⟩ := h
    have nd := scDivided.nd
    have hsl : sizeLine = 16777216 := sizeLine_eq
    have hr4 : Room 4 _ := hr.mono (by decide)
    obtain ⟨dx, ha⟩ := id L
    refine ⟨_, pss_cons (ps_set (i := 3) nd rfl (Or.inr rfl) (pm_ G T.cl hr4 (pv 0) (pa_cons pe_int pa_nil)))
      (pss_one (ps_ret (pe_callB cr_sortedI (by rfl) TS.sorted (by decide +kernel) (pa_cons (pe_lc (own := [("cell", 4)]) (g := gName 4) (tt := tTest (tOp rEq (tOp (rI (fun _ j => j ≠ 0) fun i j => .int (i.fmod j)) (tOp (rI0 fun i j => .int (i - j)) (tVar 4) (tVar 3)) (tFld K (tVar 0) "threads")) (tVar 2))) rfl nd (pi_list (pv 1))
        (blkOk_by (N := ["layout", "cells", "thread", "first", "cell"]) (sc := defScope sDivided) (by decide +kernel)) (fun _ _ _ _ _ => pg_name (i := 4) nd rfl (Or.inl rfl))
        (fun _ _ _ _ _ => pts_one (pt_cmpR op_eq (pe_op op_modN (pe_op op_sub (pv 4) (pv 3)) (pe_fld (pv 0) rfl)) (pv 2) (nomark _))) (fun _ _ _ _ _ => pv 4)) pa_nil)))), ?_⟩
    refine ⟨_, rfl, la, dx, _, rfl, ha, rfl, la, t, w, r, 0, rfl, L, ?_⟩
    refine ⟨_, rfl, ca, rfl, ⟨_, SqL.of hc⟩, fun D hD => lc_list (K := K) (a := ca) (xs := cs.map V.int) (fun i H' => H' D = some (.lst (((cs.take i).filter fun c => decide ((c - (rec0 t w + 0)).fmod t = th)).map V.int)) ∧ Same H H') ⟨upd_same, up1 hD⟩ (fun i H' _ q => SqL.of (q.2 _ _ hc)) ?_ ?_⟩
    · rintro i x H' hi ⟨hD', s1⟩
      have hil : i < cs.length := by
        have := (List.getElem?_eq_some_iff.mp hi).1
        rw [List.length_map] at this
        exact this
      have hx : x = V.int cs[i] := by
        rw [List.getElem?_map, List.getElem?_eq_getElem hil] at hi
        exact (Option.some.inj hi).symm
      subst hx
      refine ⟨rfl, _, rfl, _, rfl, _, _, rfl, rfl, _, rfl, la, C, dx, _, _, rfl, s1 _ _ ha, T.cl, T.nT, rfl, _, _, rfl, rfl, (by omega), _, rfl, rfl, _, rfl, ?_⟩
      by_cases c : (cs[i] - (rec0 t w + 0)).fmod t = th
      · rw [decide_eq_true (congrArg V.int c)]
        refine iteT ?_
        refine ⟨_, rfl, _, hD', ?_, ?_, fun b o e => by rw [upd_ne (ne_of_none e hD)]; exact s1 b o e⟩
        · rw [List.length_map]
          have := List.length_filter_le (fun c => decide ((c - (rec0 t w + 0)).fmod t = th)) (cs.take i)
          rw [List.length_take] at this
          omega
        · rw [upd_same, fil_t (p := fun c => decide ((c - (rec0 t w + 0)).fmod t = th)) hil (decide_eq_true c), List.map_append]
          rfl
      · have cn : ¬ (V.int ((cs[i] - (rec0 t w + 0)).fmod t) = V.int th) := fun e => c (V.int.inj e)
        rw [decide_eq_false cn]
        refine iteF ⟨?_, s1⟩
        rw [fil_f (p := fun c => decide ((c - (rec0 t w + 0)).fmod t = th)) hil (decide_eq_false c)]
        exact hD'
    · rintro H' ⟨hD', s1⟩
      rw [List.length_map, List.take_length] at hD'
      refine ⟨D, _, rfl, SqL.of hD', fun ds p pm asc hp => ?_⟩
      exact k _ p ds pm asc (s1.free hp) upd_same (s1.trans (up1 hp))
end
end Dk

set_option maxHeartbeats 4000000
/-! a machine that runs to its end -/
namespace Dk
open PySem PySem.Spec PyProof.Rows L2
/-- outside of a zone all stays; what comes into the zone is new -/
def Zst (Z : Addr → Prop) (H : Hp) (Z' : Addr → Prop) (H' : Hp) : Prop := (∀ b o, H b = some o → ¬ Z b → H' b = some o) ∧ ∀ b, Z' b → Z b ∨ H b = none
theorem Zst.trans {Z Z1 Z2 : Addr → Prop} {H H1 H2 : Hp} (a : Zst Z H Z1 H1) (b : Zst Z1 H1 Z2 H2) : Zst Z H Z2 H2 := by
  have keep : ∀ c o, H c = some o → ¬ Z c → ¬ Z1 c := fun c o e hc h => by
    rcases a.2 c h with q | q
    · exact hc q
    · rw [e] at q; cases q
  refine ⟨fun c o e hc => b.1 c o (a.1 c o e hc) (keep c o e hc), fun c h => ?_⟩
  rcases b.2 c h with q | q
  · exact a.2 c q
  · by_cases hc : Z c
    · exact .inl hc
    · refine .inr ?_
      cases e : H c with
      | none => rfl
      | some o =>
        rw [a.1 c o e hc] at q
        cases q
theorem Zst.out {Z Z' : Addr → Prop} {H H' : Hp} (a : Zst Z H Z' H') {c : Addr} {o : HO} (e : H c = some o) (hc : ¬ Z c) : H' c = some o ∧ ¬ Z' c :=
  ⟨a.1 c o e hc, fun h => (a.2 c h).elim hc fun q => by rw [e] at q; cases q⟩
theorem foot_some {C M : Addr} {H : Hp} {m : Addr} {t w r : Nat} {A : Adr} {S : MS} (D : MemAt C M H m t w r A S) {b : Addr} (hb : Foot m A (t + w + r) b) : ∃ u, H b = some u := by
  obtain ⟨dx, h1⟩ := D.ob
  rcases hb with q | q | q | q | q | q | ⟨j, hj, q⟩ | q
  · exact ⟨_, q ▸ h1⟩
  · exact ⟨_, q ▸ D.ps⟩
  · exact ⟨_, q ▸ D.tr.d⟩
  · exact ⟨_, q ▸ D.ld⟩
  · exact ⟨_, q ▸ D.nl⟩
  · exact ⟨_, q ▸ D.gl⟩
  · exact ⟨_, q ▸ D.tr.l j hj⟩
  · obtain ⟨z, hz⟩ := List.getElem?_of_mem q
    obtain ⟨ns, _, e2⟩ := D.no z b hz
    exact ⟨_, e2⟩
theorem MemAt.on {C M : Addr} {H H' : Hp} {m : Addr} {t w r : Nat} {A : Adr} {S : MS} (D : MemAt C M H m t w r A S) (f : ∀ c o, H c = some o → Foot m A (t + w + r) c → H' c = some o) (g : ∀ o, H A.a = some o → H' A.a = some o) : MemAt C M H' m t w r A S := by
  obtain ⟨dx, ho⟩ := D.ob
  obtain ⟨da, hlay⟩ := D.lay
  exact ⟨⟨dx, f _ _ ho (.inl rfl)⟩, ⟨da, g _ hlay⟩, f _ _ D.ps (.inr (.inl rfl)), ⟨f _ _ D.tr.d (.inr (.inr (.inl rfl))), fun j hj => f _ _ (D.tr.l j hj) (.inr (.inr (.inr (.inr (.inr (.inr (.inl ⟨j, hj, rfl⟩))))))), D.tr.inj⟩, f _ _ D.ld (.inr (.inr (.inr (.inl rfl)))),
    f _ _ D.nl (.inr (.inr (.inr (.inr (.inl rfl))))), D.nn, D.nd, fun i c hc => let ⟨ns, e1, e2⟩ := D.no i c hc; ⟨ns, e1, f _ _ e2 (.inr (.inr (.inr (.inr (.inr (.inr (.inr (List.mem_of_getElem? hc))))))))⟩, f _ _ D.gl (.inr (.inr (.inr (.inr (.inr (.inl rfl)))))), D.d1, D.d2, D.d3, D.d4, D.d5⟩
abbrev QG := V → Hp → Adr → MS → Nat → (Addr → Prop) → Prop
/-- a machine that ends behind at most so many accesses -/
def Go (P : Program) (W : World) (K : PySem.W.Frag) (mg : Str → Option Value) (base : Heap) (ka : Nat) (C M a CM dxm m : Addr) (t w r th : Nat) (Q : QG) : Nat → Hp → Adr → MS → Nat → (Addr → Prop) → Prop
  | 0, _, _, _, _, _ => False
  | n + 1, H, A, X, B, Z => ∃ (q l fa : Addr) (th' : V) (left : List V) (rest : List (Str × V)) (rq : Rq) (spa : Sp), Mach P W K mg base CM H a dxm (.ref q) l th' left rest ∧ H q = some (.tup rq.vs) ∧ rq.ok t w r ∧ rq.vals K H ∧ rq.flatAt K H X t ∧ Meth K CM "accept" fa ∧ FnR P W K mg base CX0 ka fa spa ∧
      MemAt C M H m t w r A X ∧ SOk X t (t + w + r) B ∧ (∀ b, Foot m A (t + w + r) b → Z b) ∧ ¬ Z A.a ∧
      ∀ (v x : V) (p : Addr) (A' : Adr) (X' : MS) (H1 : Hp), A'.a = A.a → Res K ((X.withCount (X.count + 1)).withLog (X.log ++ [x])) t th H1 H1 rq v X' → H1 p = some (.tup [v, .int (X.count + 1)]) → SOk X' t (t + w + r) (B + 2) → MemAt C M H1 m t w r A' X' → Step m (t + w + r) A H A' H1 →
        ∀ Q' : VK, (∀ u H2 Z', Zst Z H Z' H2 → (Go P W K mg base ka C M a CM dxm m t w r th Q n H2 A' X' (B + 2) Z' ∨
            ∃ (q2 l2 : Addr) (th2 : V) (left2 : List V) (rest2 : List (Str × V)) (y : V), Mach P W K mg base CM H2 a dxm (.ref q2) l2 th2 left2 rest2 ∧ H2 q2 = some (.tup [.str "end", y]) ∧ MemAt C M H2 m t w r A' X' ∧ (∀ b, Foot m A' (t + w + r) b → Z' b) ∧ ¬ Z' A'.a ∧ Q y H2 A' X' (B + 2) Z') → Q' u H2) → spa [.ref a, .ref p] H1 Q' E0
end Dk

set_option maxHeartbeats 4000000
/-! entering a call -/
namespace Dk
open PySem PySem.Spec PyProof.Rows L2
abbrev sEnInit : Stmt := inClass (top 15) 0
abbrev sEnReq : Stmt := inClass (top 15) 1
abbrev sEnAcc : Stmt := inClass (top 15) 2
abbrev sEnEp : Stmt := inClass (top 15) 3
abbrev enrest (s : Int) (ent : V) : List (Str × V) := [("_epoch_cell", .int 0), ("_slot", .int s), ("_entered", ent)]
structure ETx (K : PySem.W.Frag) (CE : Addr) : Prop where
  m : MTx K CE
  nE : NoAttr K CE "_epoch_cell"
  nS : NoAttr K CE "_slot"
  nN : NoAttr K CE "_entered"
theorem met_out {C M : Addr} {H : Hp} {m : Addr} {t w r : Nat} {A : Adr} {S : MS} (D : MemAt C M H m t w r A S) {u g a : Addr} (hu : H u = some (.met g a)) : ¬ Foot m A (t + w + r) u := fun hf => by
  obtain ⟨dx, h1⟩ := D.ob
  rcases hf with q | q | q | q | q | q | ⟨j, hj, q⟩ | q
  · exact ne_of hu h1 (by intro z; cases z) q
  · exact ne_of hu D.ps (by intro z; cases z) q
  · exact ne_of hu D.tr.d (by intro z; cases z) q
  · exact ne_of hu D.ld (by intro z; cases z) q
  · exact ne_of hu D.nl (by intro z; cases z) q
  · exact ne_of hu D.gl (by intro z; cases z) q
  · exact ne_of hu (D.tr.l j hj) (by intro z; cases z) q
  · obtain ⟨z, hz⟩ := List.getElem?_of_mem q
    obtain ⟨ns, _, e2⟩ := D.no z u hz
    exact ne_of hu e2 (by intro z; cases z) rfl
theorem FnOk.fnr {P : Program} {w : World} {K : PySem.W.Frag} {mg : Str → Option Value} {base : Heap} {k : Nat} {f : Addr} {fd : FuncData} {ps : List Str} {sp : Sp} (F : FnOk P w K mg base CX0 k f fd ps sp) (hb : Binds K fd ps []) : FnR P w K mg base CX0 k f sp :=
  (F.raw hb .nil).imp fun vs H Q E h => by rw [List.append_nil]; exact h
/-- a fresh address was fresh where less stood -/
theorem Kept.free {a : Addr} {H H' : Hp} (k : Kept a H H') {p : Addr} (hp : H' p = none) (ha : ∃ o, H' a = some o) : H p = none := by
  cases q : H p with
  | none => rfl
  | some o =>
    by_cases c : p = a
    · subst c
      obtain ⟨o', e⟩ := ha
      rw [e] at hp; cases hp
    · have := k p o q c
      rw [hp] at this; cases this
theorem Kept.trans {a : Addr} {H H1 H2 : Hp} (x : Kept a H H1) (y : Kept a H1 H2) : Kept a H H2 := fun b o e n => y b o (x b o e n) n
theorem Kept.of {a : Addr} {H H1 : Hp} (s : Same H H1) : Kept a H H1 := fun b o e _ => s b o e
/-- accepting -/
def spAcc (P : Program) (W : World) (K : PySem.W.Frag) (mg : Str → Option Value) (base : Heap) (k : Nat) (C : Addr) : Sp := fun vs H Q E => (∀ (a dx : Addr) (fs : List (Str × V)), vs.head? = some (.ref a) → H a = some (.ins C dx fs) → fs.lookup ("_go_on" : Str) = none) ∧ spGo P W K mg base k C vs H Q E
def spEnInit (C S CE g : Addr) : Sp := fun vs H Q _ => ∃ (a dx st la : Addr) (t w r : Nat) (th : Nat) (fa wa oa : Addr) (fr out : List Int) (rows : List Rw), vs = [.ref a, .ref st] ∧ H a = some (.ins CE dx []) ∧ StAt S H st la (th : Int) fa wa oa fr out rows ∧ LayAt C H la t w r ∧
  ∀ (H' : Hp) (q l qm : Addr), H q = none → H l = none → H qm = none → MaAt CE H' a dx (.ref q) l (.ref qm) [] (enrest (1 + (th : Int)) .non) → H' q = some (.tup [.str "read", .int 0]) → H' qm = some (.met g a) → Kept a H H' → Q .non H'
def spEnTake (CE g : Addr) : Sp := fun vs H Q _ => ∃ (a dx p l : Addr) (w th : V) (left : List V) (s e c : Int) (ent : V), vs = [.ref a, .ref p] ∧ MaAt CE H a dx w l th left (enrest s ent) ∧ H p = some (.tup [.int e, .int c]) ∧
  ((ent = .int e ∧ ∀ (H' : Hp) (q : Addr), H q = none → H' q = some (.tup [.str "end", .int e]) → MaAt CE H' a dx (.ref q) l th left (enrest s ent) → Kept a H H' → Q .non H') ∨
   ((ent = .non ∨ ∃ ep : Int, ent = .int ep ∧ ep ≠ e) ∧ ∀ (H' : Hp) (q1 q2 l' qm : Addr), H q1 = none → H q2 = none → H l' = none → H qm = none → H' q1 = some (.tup [.str "write", .int s, .int e]) → H' q2 = some (.tup [.str "read", .int 0]) → H' qm = some (.met g a) → MaAt CE H' a dx (.ref q1) l' (.ref qm) [.ref q2] (enrest s (.int e)) → Kept a H H' → Q .non H'))
section
variable {P : Program} {w : World} {K : PySem.W.Frag} {mg : Str → Option Value} {base : Heap} {C M S CE g : Addr}
theorem scEnReq : FnScope ["self"] ["self"] (defScope sEnReq) := ⟨rfl, rfl, rfl, by decide +kernel, rfl, by decide +kernel, by decide +kernel⟩
theorem mo_enreq (F : MT K CE "request" "Entering.request" sEnReq ["self"]) (TC : MTx K CE) : MO P w K mg base CX0 CE 1 "request" ["self"] (spReq CE) := by
  obtain ⟨f, fd, F, hm, hb⟩ := F
  refine ⟨f, fd, ?_, hm, hb⟩
  refine F.ok scEnReq (fun vs H Q E h => ?_) (fun cdv A outer s H vs Q E hr h => ?_)
  · obtain ⟨a, dx, l, w, th, left, rest, rfl, _⟩ := h
    rfl
  · obtain ⟨a, dx, l, w, th, left, rest, rfl, D, k⟩ := h
    refine ⟨_, (pss_one (ps_ret (pe_fld (pv 0) rfl))), ?_⟩
    exact ⟨_, rfl, a, CE, dx, _, _, rfl, D.ob, TC.cl, TC.nW, rfl, k⟩
theorem scEnAcc : FnScope ["self", "result"] ["self", "result"] (defScope sEnAcc) := ⟨rfl, rfl, rfl, by decide +kernel, rfl, by decide +kernel, by decide +kernel⟩
theorem mo_enacc {k : Nat} (F : MT K CE "accept" "Entering.accept" sEnAcc ["self", "result"]) (TC : MTx K CE) (GGo : MO P w K mg base CX0 CE (k + 1) "_go_on" ["self", "result"] (spGo P w K mg base k CE)) : MO P w K mg base CX0 CE (k + 2) "accept" ["self", "result"] (spAcc P w K mg base k CE) := by
  obtain ⟨f, fd, F, hm, hb⟩ := F
  refine ⟨f, fd, ?_, hm, hb⟩
  refine F.ok scEnAcc (fun vs H Q E h => ?_) (fun cdv A outer s H vs Q E hr h => ?_)
  · obtain ⟨_, a, dx, l, w, th, res, left, rest, rfl, _⟩ := h
    rfl
  · obtain ⟨hl, h'⟩ := h
    obtain ⟨a, dx, l, w, th, res, left, rest, rfl, D, hz, hc⟩ := id h'
    have hrG : Room (k + 1) _ := hr
    refine ⟨_, (pss_one (ps_expr (pm_ GGo TC.cl hrG (pv 0) (pa_cons (pv 1) pa_nil)))), ?_⟩
    exact ⟨_, rfl, a, dx, _, rfl, D.ob, hl a dx _ rfl D.ob, _, rfl, h'⟩
theorem scEnInit : FnScope ["self", "store"] ["self", "store"] (defScope sEnInit) := ⟨rfl, rfl, rfl, by decide +kernel, rfl, by decide +kernel, by decide +kernel⟩
theorem ok_eninit {f fMi Ma : Addr} {fd : FuncData} (F : Fun K "__init__" "Entering.__init__" sEnInit f fd) (TE : ETx K CE) (TL : LTxt K mg C) (T : STxt K mg S) (gMa : mg "Machine" = some (.ref Ma)) (cMi : Mr.CFn K Ma "__init__" fMi) (FMi : FnR P w K mg base CX0 1 fMi (spMaInit CE)) (bg : BMeth K CE "_take_epoch" g)
    (GEp : MO P w K mg base CX0 C 1 "epoch" ["self"] (spL0 C fun _ _ _ => .int 0)) (GEs : MO P w K mg base CX0 C 1 "epoch_slot" ["self", "thread"] (spL1 C fun _ _ _ i => .int (1 + i))) (GAs : MO P w K mg base CX0 CE 1 "_ask" ["self", "requests", "then"] (spMaAsk CE)) :
    FnOk P w K mg base CX0 2 f fd ["self", "store"] (spEnInit C S CE g) := by
  refine F.ok scEnInit (fun vs H Q E h => ?_) (fun cdv A outer s H vs Q E hr h => ?_)
  · obtain ⟨a, dx, st, la, t, w, r, th, fa, wa, oa, fr, out, rows, rfl, _⟩ := h
    rfl
  · obtain ⟨a, dx, st, la, t, wd, r, th, fa, wa, oa, fr, out, rows, rfl, ha, R, ⟨da, hla⟩, k⟩ := h
    have hr1 : Room 1 _ := hr
    have TC := TE.m
    have hrA : Room 1 _ := hr
    refine ⟨_, (pss_cons (ps_expr (Mr.pe_cls rfl gMa cMi FMi hr1 (pa_cons (pv 0) pa_nil)))
  (pss_cons (ps_fld (pv 0) (pm0_ GEp TL.cl hr1 (pe_fld (pv 1) rfl)) rfl)
  (pss_cons (ps_fld (pv 0) (pm_ GEs TL.cl hr1 (pe_fld (pv 1) rfl) (pa_cons (pe_fld (pv 1) rfl) pa_nil)) rfl)
  (pss_cons (ps_fld (pv 0) pe_non rfl)
  (pss_one (ps_expr (pm_ GAs TC.cl hrA (pv 0) (pa_cons (pe_lst (pa_cons (pe_tup (pa_cons pe_str (pa_cons (pe_fld (pv 0) rfl) pa_nil))) pa_nil)) (pa_cons (Mr.pe_bm_ (pv 0)) pa_nil))))))))), ?_⟩
    obtain ⟨ds, hst⟩ := R.ob
    have st_a : st ≠ a := ne_of hst ha (by intro z; cases z)
    refine ⟨_, rfl, a, dx, rfl, ha, fun H1 e l he hl h1 D1 kp1 => ?_⟩
    have la_a : la ≠ a := ne_of hla ha (by intro z; cases z)
    have hst1 := kp1 _ _ hst st_a
    have hla1 := kp1 _ _ hla la_a
    have hk : ∀ {b : Addr} {o o' : HO}, H1 b = some o → b ≠ a → upd H1 a o' b = some o := fun {b o o'} q n => by rw [upd_ne n]; exact q
    refine ⟨_, rfl, st, S, ds, _, _, rfl, hst1, T.cl, T.nL, rfl, la, da, _, rfl, hla1, rfl, la, _, _, _, rfl, ⟨da, hla1⟩, _, rfl, a, CE, dx, _, rfl, D1.ob, TC.cl, TE.nE, (by show 3 < 1000; decide), ?_⟩
    refine ⟨_, rfl, st, S, ds, _, _, rfl, hk hst1 st_a, T.cl, T.nL, rfl, la, da, _, rfl, hk hla1 la_a, rfl, _, rfl, st, S, ds, _, _, rfl, hk hst1 st_a, T.cl, T.nT, rfl, la, _, _, _, _, rfl, ⟨da, hk hla1 la_a⟩, _, rfl, a, CE, dx, _, rfl, upd_same, TC.cl, TE.nS, (by show 4 < 1000; decide), ?_⟩
    refine ⟨_, rfl, a, CE, dx, _, rfl, upd_same, TC.cl, TE.nN, (by show 5 < 1000; decide), ?_⟩
    have l_a : l ≠ a := ne_of D1.lf D1.ob (by intro z; cases z)
    generalize hH2 : upd (upd (upd H1 a _) a _) a _ = H2
    have kp2 : Kept a H1 H2 := fun b o q n => by rw [← hH2, upd_ne n, upd_ne n, upd_ne n]; exact q
    have a2 : H2 a = some (.ins CE dx (mfs (.ref e) l .non (enrest (1 + (th : Int)) .non))) := by rw [← hH2]; exact upd_same
    have l2 := kp2 _ _ D1.lf l_a
    refine ⟨_, rfl, a, dx, _, rfl, a2, rfl, _, rfl, a, CE, dx, _, _, rfl, a2, TC.cl, TE.nE, rfl, (by show 2 ≤ sizeLine; decide), fun q hq => ⟨(by show 1 ≤ sizeLine; decide), fun rq hrq => ?_⟩⟩
    have s3 := up1 (o := HO.tup [V.str "read", V.int 0]) hq
    have e3 : upd H2 q (HO.tup [V.str "read", V.int 0]) q = _ := upd_same
    generalize upd H2 q (HO.tup [V.str "read", V.int 0]) = H3 at s3 e3 hrq ⊢
    have s4 := up1 (o := HO.lst [V.ref q]) hrq
    have e4 : upd H3 rq (HO.lst [V.ref q]) rq = _ := upd_same
    generalize upd H3 rq (HO.lst [V.ref q]) = H4 at s4 e4 ⊢
    refine ⟨_, rfl, a, CE, dx, _, g, rfl, s4 _ _ (s3 _ _ a2), TC.cl, bg, rfl, fun qm hqm => ?_⟩
    have s5 := up1 (o := HO.met g a) hqm
    have e5 : upd H4 qm (HO.met g a) qm = _ := upd_same
    generalize upd H4 qm (HO.met g a) = H5 at s5 e5 ⊢
    have s25 := s3.trans (s4.trans s5)
    have a5 := s25 _ _ a2
    refine ⟨a, dx, l, rq, _, _, .ref qm, [], enrest (1 + (th : Int)) .non, .ref q, [], rfl, ⟨a5, s25 _ _ l2⟩, (by show 3 < 900; decide), s5 _ _ e4, fun H6 l' hl' D6 kp6 => ?_⟩
    have k15 : Kept a H H5 := (kp1.trans kp2).trans (Kept.of s25)
    have ex : ∀ {H' : Hp}, Same H2 H' → ∃ o, H' a = some o := fun s => ⟨_, s _ _ a2⟩
    have q_a : q ≠ a := ne_of (s4.trans s5 _ _ e3) a5 (by intro z; cases z)
    have qm_a : qm ≠ a := ne_of e5 a5 (by intro z; cases z)
    refine k H6 q l' qm ((kp1.trans kp2).free hq ⟨_, a2⟩) (k15.free hl' ⟨_, a5⟩) (((kp1.trans kp2).trans (Kept.of (s3.trans s4))).free hqm (ex (s3.trans s4))) D6 (kp6 _ _ (s4.trans s5 _ _ e3) q_a) (kp6 _ _ e5 qm_a) (k15.trans kp6)
theorem scEnEp : FnScope ["self", "result", "epoch"] ["self", "result"] (defScope sEnEp) := ⟨rfl, rfl, rfl, by decide +kernel, rfl, by decide +kernel, by decide +kernel⟩
theorem mo_enep (F : MT K CE "_take_epoch" "Entering._take_epoch" sEnEp ["self", "result"]) (TE : ETx K CE) (bg : BMeth K CE "_take_epoch" g)
    (GAs : MO P w K mg base CX0 CE 1 "_ask" ["self", "requests", "then"] (spMaAsk CE)) (GEd : MO P w K mg base CX0 CE 1 "_end" ["self", "value"] (spMaEnd CE)) : MO P w K mg base CX0 CE 4 "_take_epoch" ["self", "result"] (spEnTake CE g) := by
  obtain ⟨f, fd, F, hm, hb⟩ := F
  refine ⟨f, fd, ?_, hm, hb⟩
  refine F.ok scEnEp (fun vs H Q E h => ?_) (fun cdv A outer s H vs Q E hr h => ?_)
  · obtain ⟨a, dx, p, l, wv, th, left, s0, e, c, ent, rfl, _⟩ := h
    rfl
  · obtain ⟨a, dx, p, l, wv, th, left, s0, e, c, ent, rfl, D, hp, hc⟩ := h
    have nd := scEnEp.nd
    have hrA : Room 1 _ := hr.mono (by decide)
    have TC := TE.m
    refine ⟨_, (pss_cons (ps_set (i := 2) nd rfl (Or.inl rfl) (pe_ix ix_tup (pv 1) pe_int (fun _ _ => rfl)))
  (pss_one (ps_if (pt_cmpR op_eq (pv 2) (pe_fld (pv 0) rfl) (nomark _))
  (pss_one (ps_expr (pm_ GEd TC.cl hrA (pv 0) (pa_cons (pv 2) pa_nil))))
  (pss_cons (ps_fld (pv 0) (pv 2) rfl)
  (pss_one (ps_expr (pm_ GAs TC.cl hrA (pv 0) (pa_cons (pe_lst (pa_cons (pe_tup (pa_cons pe_str (pa_cons (pe_fld (pv 0) rfl) (pa_cons (pv 2) pa_nil)))) (pa_cons (pe_tup (pa_cons pe_str (pa_cons (pe_fld (pv 0) rfl) pa_nil))) pa_nil))) (pa_cons (Mr.pe_bm_ (pv 0)) pa_nil))))))))), ?_⟩
    refine ⟨_, rfl, p, _, 0, _, rfl, rfl, SqT.of hp, at_head, ?_⟩
    rcases hc with ⟨rfl, k⟩ | ⟨hent, k⟩
    · refine ⟨_, rfl, _, rfl, a, CE, dx, _, _, rfl, D.ob, TC.cl, TE.nN, rfl, rfl, _, rfl, ?_⟩
      rw [decide_eq_true (rfl : V.int e = V.int e)]
      refine iteT ⟨_, rfl, a, dx, _, rfl, D.ob, rfl, _, rfl, a, dx, l, wv, th, .int e, left, _, rfl, D, (by show 3 < 900; decide), fun H' q hq e' D' kp' => k H' q hq e' D' kp'⟩
    · have hne : ¬ (V.int e = ent) := fun z => by
        rcases hent with rfl | ⟨ep, rfl, ne⟩
        · cases z
        · exact ne (V.int.inj z).symm
      refine ⟨_, rfl, _, rfl, a, CE, dx, _, _, rfl, D.ob, TC.cl, TE.nN, rfl, (by rcases hent with rfl | ⟨ep, rfl, ne⟩ <;> rfl), _, rfl, ?_⟩
      rw [decide_eq_false hne]
      refine iteF ⟨_, rfl, _, rfl, a, CE, dx, _, rfl, D.ob, TC.cl, TE.nN, (by show 6 < 1000; decide), ?_⟩
      have l_a : l ≠ a := ne_of D.lf D.ob (by intro z; cases z)
      generalize hH2 : upd H a _ = H2
      have kp2 : Kept a H H2 := fun b o q n => by rw [← hH2, upd_ne n]; exact q
      have a2 : H2 a = some (.ins CE dx (mfs wv l th (enrest s0 (.int e)))) := by rw [← hH2]; exact upd_same
      have l2 := kp2 _ _ D.lf l_a
      refine ⟨_, rfl, a, dx, _, rfl, a2, rfl, _, rfl, a, CE, dx, _, _, rfl, a2, TC.cl, TE.nS, rfl, _, rfl, (by show 3 ≤ sizeLine; decide), fun q1 hq1 => ?_⟩
      have s3 := up1 (o := HO.tup [V.str "write", V.int s0, V.int e]) hq1
      have e3 : upd H2 q1 (HO.tup [V.str "write", V.int s0, V.int e]) q1 = _ := upd_same
      generalize upd H2 q1 (HO.tup [V.str "write", V.int s0, V.int e]) = H3 at s3 e3 ⊢
      refine ⟨_, rfl, a, CE, dx, _, _, rfl, s3 _ _ a2, TC.cl, TE.nE, rfl, (by show 2 ≤ sizeLine; decide), fun q2 hq2 => ⟨(by show 2 ≤ sizeLine; decide), fun rq hrq => ?_⟩⟩
      have s4 := up1 (o := HO.tup [V.str "read", V.int 0]) hq2
      have e4 : upd H3 q2 (HO.tup [V.str "read", V.int 0]) q2 = _ := upd_same
      generalize upd H3 q2 (HO.tup [V.str "read", V.int 0]) = H4 at s4 e4 hrq ⊢
      have s5 := up1 (o := HO.lst [V.ref q1, V.ref q2]) hrq
      have e5 : upd H4 rq (HO.lst [V.ref q1, V.ref q2]) rq = _ := upd_same
      generalize upd H4 rq (HO.lst [V.ref q1, V.ref q2]) = H5 at s5 e5 ⊢
      have s25 := s3.trans (s4.trans s5)
      refine ⟨_, rfl, a, CE, dx, _, g, rfl, s25 _ _ a2, TC.cl, bg, rfl, fun qm hqm => ?_⟩
      have s6 := up1 (o := HO.met g a) hqm
      have e6 : upd H5 qm (HO.met g a) qm = _ := upd_same
      generalize upd H5 qm (HO.met g a) = H6 at s6 e6 ⊢
      have s26 := s25.trans s6
      have a6 := s26 _ _ a2
      refine ⟨a, dx, l, rq, _, _, .ref qm, left, enrest s0 (.int e), .ref q1, [.ref q2], rfl, ⟨a6, s26 _ _ l2⟩, (by show 3 < 900; decide), s6 _ _ e5, fun H7 l' hl' D7 kp7 => ?_⟩
      have k6 : Kept a H H6 := kp2.trans (Kept.of s26)
      have q1_6 := s6 _ _ (s5 _ _ (s4 _ _ e3))
      have q2_6 := s6 _ _ (s5 _ _ e4)
      have n1 : q1 ≠ a := ne_of q1_6 a6 (by intro z; cases z)
      have n2 : q2 ≠ a := ne_of q2_6 a6 (by intro z; cases z)
      have n3 : qm ≠ a := ne_of e6 a6 (by intro z; cases z)
      exact k H7 q1 q2 l' qm (kp2.free hq1 ⟨_, a2⟩) ((kp2.trans (Kept.of s3)).free hq2 ⟨_, s3 _ _ a2⟩) (k6.free hl' ⟨_, a6⟩) ((kp2.trans (Kept.of s25)).free hqm ⟨_, s25 _ _ a2⟩) (kp7 _ _ q1_6 n1) (kp7 _ _ q2_6 n2) (kp7 _ _ e6 n3) D7 (k6.trans kp7)
end
end Dk

set_option maxHeartbeats 4000000
/-! a machine on its way: one access after the other -/
namespace Dk
open PySem PySem.Spec PyProof.Rows L2
theorem lay_out {C M : Addr} {H : Hp} {m : Addr} {t w r : Nat} {A : Adr} {S : MS} (D : MemAt C M H m t w r A S) : ¬ Foot m A (t + w + r) A.a := fun hf => by
  obtain ⟨da, hu⟩ := D.lay
  rcases hf with q | q | q | q | q | q | ⟨j, hj, q⟩ | q
  · exact D.d5 q.symm
  · exact ne_of hu D.ps (by intro z; cases z) q
  · exact ne_of hu D.tr.d (by intro z; cases z) q
  · exact ne_of hu D.ld (by intro z; cases z) q
  · exact ne_of hu D.nl (by intro z; cases z) q
  · exact ne_of hu D.gl (by intro z; cases z) q
  · exact ne_of hu (D.tr.l j hj) (by intro z; cases z) q
  · obtain ⟨z, hz⟩ := List.getElem?_of_mem q
    obtain ⟨ns, _, e2⟩ := D.no z A.a hz
    exact ne_of hu e2 (by intro z; cases z) rfl
/-- a machine and the memory, within a zone -/
structure MSt (C M CE : Addr) (H : Hp) (m : Addr) (t w r B : Nat) (A : Adr) (X : MS) (Z : Addr → Prop) (a dx q l : Addr) (th : V) (left : List V) (rest : List (Str × V)) : Prop where
  D : MaAt CE H a dx (.ref q) l th left rest
  DM : MemAt C M H m t w r A X
  so : SOk X t (t + w + r) B
  zf : ∀ b, Foot m A (t + w + r) b → Z b
  za : Z a
  zl : Z l
  nfa : ¬ Foot m A (t + w + r) a
  nfl : ¬ Foot m A (t + w + r) l
  zla : ¬ Z A.a
abbrev Zn (m : Addr) (A' : Adr) (n : Nat) (Z N : Addr → Prop) : Addr → Prop := fun b => Foot m A' n b ∨ Z b ∨ N b
section
variable {C M CE : Addr} {H H1 H2 : Hp} {m : Addr} {t w r B : Nat} {A A' : Adr} {X X' : MS} {Z : Addr → Prop} {a dx q l : Addr} {th : V} {left : List V} {rest : List (Str × V)}
/-- behind the access -/
theorem MSt.acc (s : MSt C M CE H m t w r B A X Z a dx q l th left rest) (st : Step m (t + w + r) A H A' H1) : MaAt CE H1 a dx (.ref q) l th left rest ∧ ¬ Foot m A' (t + w + r) a ∧ ¬ Foot m A' (t + w + r) l :=
  ⟨⟨(st.out s.D.ob s.nfa).1, (st.out s.D.lf s.nfl).1⟩, (st.out s.D.ob s.nfa).2, (st.out s.D.lf s.nfl).2⟩
/-- behind what the machine does with the result -/
theorem MSt.next {q' l' : Addr} {th' : V} {left' : List V} {rest' : List (Str × V)} (s : MSt C M CE H m t w r B A X Z a dx q l th left rest) (st : Step m (t + w + r) A H A' H1) (ea : A'.a = A.a) (D' : MemAt C M H1 m t w r A' X') (so' : SOk X' t (t + w + r) (B + 2)) (Y N : Addr → Prop)
    (kp : ∀ b o, H1 b = some o → ¬ Y b → H2 b = some o) (yz : ∀ b, Y b → Z b) (yf : ∀ b, Y b → ¬ Foot m A' (t + w + r) b) (nn : ∀ b, N b → H1 b = none) (D2 : MaAt CE H2 a dx (.ref q') l' th' left' rest') (hl : l' = l ∨ N l') :
    MSt C M CE H2 m t w r (B + 2) A' X' (Zn m A' (t + w + r) Z N) a dx q' l' th' left' rest' ∧ Zst Z H (Zn m A' (t + w + r) Z N) H2 := by
  obtain ⟨_, fa, fl⟩ := s.acc st
  have zla' : ¬ Z A'.a := by rw [ea]; exact s.zla
  have nf : ∀ b, H1 b = none → ¬ Foot m A' (t + w + r) b := fun b hb hf => by
    obtain ⟨u, hu⟩ := foot_some D' hf
    rw [hb] at hu; cases hu
  obtain ⟨da, hla⟩ := id D'.lay
  refine ⟨⟨D2, D'.on (fun c o e hf => kp c o e fun y => yf c y hf) (fun o e => kp _ o e fun y => zla' (yz _ y)), so', fun b hb => .inl hb, .inr (.inl s.za), ?_, fa, ?_, fun h => ?_⟩, ⟨fun b o e nz => kp b o (st.chg b o e fun h => nz (s.zf b h)) fun y => nz (yz b y), fun b hb => ?_⟩⟩
  · rcases hl with e | e
    · rw [e]; exact .inr (.inl s.zl)
    · exact .inr (.inr e)
  · rcases hl with e | e
    · rw [e]; exact fl
    · exact nf l' (nn l' e)
  · rcases h with h | h | h
    · exact lay_out D' h
    · exact zla' h
    · have := nn _ h
      rw [hla] at this; cases this
  · rcases hb with h | h | h
    · exact (st.foot b h).imp (s.zf b) id
    · exact .inl h
    · by_cases z : Z b
      · exact .inl z
      · refine .inr ?_
        cases e : H b with
        | none => rfl
        | some o =>
          have := st.chg b o e fun h => z (s.zf b h)
          rw [nn b h] at this; cases this
end
/-- what the walk asks of a machine's class -/
structure MCl (P : Program) (W : World) (K : PySem.W.Frag) (mg : Str → Option Value) (base : Heap) (CE fa : Addr) : Prop where
  cl : Cls K CE
  rq : MD P W K mg base 1 CE "request" (spReq CE)
  ma : Meth K CE "accept" fa
  fa : FnR P W K mg base CX0 6 fa (spAcc P W K mg base 4 CE)
structure RsOk (rest : List (Str × V)) : Prop where
  n1 : rest.lookup ("request" : Str) = none
  n2 : rest.lookup ("accept" : Str) = none
  n3 : rest.lookup ("_go_on" : Str) = none
  n : rest.length < 900
section
variable {P : Program} {W : World} {K : PySem.W.Frag} {mg : Str → Option Value} {base : Heap} {C M CE fa : Addr} {H : Hp} {m : Addr} {t w r B th0 : Nat} {A : Adr} {X : MS} {Z : Addr → Prop} {a dx q l : Addr} {th : V} {left : List V} {rest : List (Str × V)} {Qg : QG} {n : Nat}
theorem MSt.mach (s : MSt C M CE H m t w r B A X Z a dx q l th left rest) (mc : MCl P W K mg base CE fa) (ro : RsOk rest) : Mach P W K mg base CE H a dx (.ref q) l th left rest := ⟨s.D, mc.cl, mc.rq, ro.n1, ro.n2, ro.n⟩
theorem go_lk {fs : List (Str × V)} {wv : V} {l' : Addr} {th' : V} (ro : RsOk rest) : (mfs wv l' th' rest).lookup ("_go_on" : Str) = none := by
  show (("_wanted", wv) :: ("_left", V.ref l') :: ("_then", th') :: rest : List (Str × V)).lookup ("_go_on" : Str) = none
  rw [List.lookup_cons, List.lookup_cons, List.lookup_cons]
  exact ro.n3
/-- an access behind which the next request waits -/
theorem go_pop {q' : Addr} {rs : List V} {rq rq' : Rq} (s : MSt C M CE H m t w r B A X Z a dx q l th (.ref q' :: rs) rest) (mc : MCl P W K mg base CE fa) (ro : RsOk rest) (hq : H q = some (.tup rq.vs)) (ok : rq.ok t w r) (vals : rq.vals K H) (fl : rq.flatAt K H X t)
    (nxt : ∀ (v x : V) (A' : Adr) (X' : MS) (H1 H2 : Hp) (Z' : Addr → Prop), Res K ((X.withCount (X.count + 1)).withLog (X.log ++ [x])) t th0 H1 H1 rq v X' → MSt C M CE H2 m t w r (B + 2) A' X' Z' a dx q' l th rs rest → Zst Z H Z' H2 → (∀ b, Z b → Z' b) → A'.a = A.a →
      (∀ b o, H b = some o → b ≠ a → b ≠ l → ¬ Foot m A (t + w + r) b → H2 b = some o ∧ ¬ Foot m A' (t + w + r) b) → Go P W K mg base 6 C M a CE dx m t w r th0 Qg n H2 A' X' (B + 2) Z') : Go P W K mg base 6 C M a CE dx m t w r th0 Qg (n + 1) H A X B Z := by
  refine ⟨q, l, fa, th, _, rest, rq, _, s.mach mc ro, hq, ok, vals, fl, mc.ma, mc.fa, s.DM, s.so, s.zf, s.zla, fun v x p A' X' H1 ea R hp so' D' st Q' hQ' => ?_⟩
  obtain ⟨D1, f1, f2⟩ := s.acc st
  refine ⟨fun a' dx' fs e1 e2 => ?_, a, dx, l, _, th, .ref p, _, rest, rfl, D1, ro.n, .inl ⟨.ref q', rs, rfl, fun H2 D2 kp => ?_⟩⟩
  · cases e1
    rw [D1.ob] at e2
    cases e2
    exact go_lk (fs := []) ro
  · obtain ⟨s2, zs⟩ := s.next st ea D' so' (fun b => b = a ∨ b = l) (fun _ => False) (fun b o e y => kp b o e (fun z => y (.inl z)) fun z => y (.inr z)) (fun b y => y.elim (fun e => e ▸ s.za) fun e => e ▸ s.zl) (fun b y => y.elim (fun e => e ▸ f1) fun e => e ▸ f2) (fun b y => y.elim) D2 (.inl rfl)
    exact hQ' .non H2 _ zs (.inl (nxt v x A' X' H1 H2 _ R s2 zs (fun b h => .inr (.inl h)) ea fun b o e n1 n2 nf => ⟨kp b o (st.chg b o e nf) n1 n2, (st.out e nf).2⟩))
/-- an access whose result goes to a method -/
theorem go_then {qm g : Addr} {rq : Rq} {sp : Sp} (s : MSt C M CE H m t w r B A X Z a dx q l (.ref qm) [] rest) (mc : MCl P W K mg base CE fa) (ro : RsOk rest) (hq : H q = some (.tup rq.vs)) (ok : rq.ok t w r) (vals : rq.vals K H) (fl : rq.flatAt K H X t) (hm : H qm = some (.met g a)) (fi : PySem.W.fnIn K g = true) (FR : FnR P W K mg base CX0 4 g sp)
    (nxt : ∀ (v x : V) (p : Addr) (A' : Adr) (X' : MS) (H1 : Hp), A'.a = A.a → Res K ((X.withCount (X.count + 1)).withLog (X.log ++ [x])) t th0 H1 H1 rq v X' → H1 p = some (.tup [v, .int (X.count + 1)]) → SOk X' t (t + w + r) (B + 2) → MemAt C M H1 m t w r A' X' → Step m (t + w + r) A H A' H1 →
      MaAt CE H1 a dx (.ref q) l (.ref qm) [] rest → ∀ Q' : Hp → Prop, (∀ H2 Z', Zst Z H Z' H2 → (Go P W K mg base 6 C M a CE dx m t w r th0 Qg n H2 A' X' (B + 2) Z' ∨
        ∃ (q2 l2 : Addr) (th2 : V) (left2 : List V) (rest2 : List (Str × V)) (y : V), RsOk rest2 ∧ MSt C M CE H2 m t w r (B + 2) A' X' Z' a dx q2 l2 th2 left2 rest2 ∧ H2 q2 = some (.tup [.str "end", y]) ∧ Qg y H2 A' X' (B + 2) Z') → Q' H2) → sp [.ref a, .ref p] H1 (fun _ H' => Q' H') E0) : Go P W K mg base 6 C M a CE dx m t w r th0 Qg (n + 1) H A X B Z := by
  refine ⟨q, l, fa, _, _, rest, rq, _, s.mach mc ro, hq, ok, vals, fl, mc.ma, mc.fa, s.DM, s.so, s.zf, s.zla, fun v x p A' X' H1 ea R hp so' D' st Q' hQ' => ?_⟩
  obtain ⟨D1, f1, f2⟩ := s.acc st
  refine ⟨fun a' dx' fs e1 e2 => ?_, a, dx, l, _, _, .ref p, [], rest, rfl, D1, ro.n, .inr ⟨rfl, qm, g, sp, rfl, (st.out hm (met_out s.DM hm)).1, fi, FR, ?_⟩⟩
  · cases e1
    rw [D1.ob] at e2
    cases e2
    exact go_lk (fs := []) ro
  · refine nxt v x p A' X' H1 ea R hp so' D' st D1 (fun H' => Q' .non H') fun H2 Z' zs hc => hQ' .non H2 Z' zs ?_
    rcases hc with g' | ⟨q2, l2, th2, left2, rest2, y, ro2, s2, h1, h2⟩
    · exact .inl g'
    · exact .inr ⟨q2, l2, th2, left2, rest2, y, s2.mach mc ro2, h1, s2.DM, s2.zf, s2.zla, h2⟩
end
end Dk

set_option maxHeartbeats 4000000
/-! several stacks beside one memory: every address has a label that says whose it is; one step of a stack -/
namespace Dk
open PySem PySem.Spec PyProof.Rows L2
open Classical in
/-- the labels behind an access (from H to H1): what is new behind it gets nl -/
noncomputable def relab (lab : Addr → Nat) (H H1 : Hp) (nl : Addr → Nat) : Addr → Nat := fun b => if H1 b = none then nl b else if H b = none then 0 else lab b
/-- tuples and bound methods never change -/
def Imm (o : HO) : Prop := (∃ xs, o = .tup xs) ∨ ∃ g a, o = .met g a
theorem Imm.tup {xs : List V} : Imm (.tup xs) := .inl ⟨xs, rfl⟩
theorem Imm.met {g a : Addr} : Imm (.met g a) := .inr ⟨g, a, rfl⟩
theorem nimm_lst {xs : List V} : ¬ Imm (.lst xs) := fun h => by rcases h with ⟨_, z⟩ | ⟨_, _, z⟩ <;> cases z
theorem nimm_ins {C dx : Addr} {fs : List (Str × V)} : ¬ Imm (.ins C dx fs) := fun h => by rcases h with ⟨_, z⟩ | ⟨_, _, z⟩ <;> cases z
abbrev lM (i : Nat) : Nat := 3 * i + 3
abbrev lS (i : Nat) : Nat := 3 * i + 4
theorem lM0 {i : Nat} : lM i ≠ 0 := by show 3 * i + 3 ≠ 0; omega
theorem lM1 {i : Nat} : lM i ≠ 1 := by show 3 * i + 3 ≠ 1; omega
theorem lS0 {i : Nat} : lS i ≠ 0 := by show 3 * i + 4 ≠ 0; omega
theorem lS1 {i : Nat} : lS i ≠ 1 := by show 3 * i + 4 ≠ 1; omega
theorem lMM {i j : Nat} (h : j ≠ i) : lM j ≠ lM i := by show 3 * j + 3 ≠ 3 * i + 3; omega
theorem lSS {i j : Nat} (h : j ≠ i) : lS j ≠ lS i := by show 3 * j + 4 ≠ 3 * i + 4; omega
theorem lMS {i j : Nat} : lM j ≠ lS i := by show 3 * j + 3 ≠ 3 * i + 4; omega
theorem lSM {i j : Nat} : lS j ≠ lM i := by show 3 * j + 4 ≠ 3 * i + 3; omega
/-- the memory in the world -/
structure Wd (C M : Addr) (H : Hp) (m : Addr) (t w r B : Nat) (A : Adr) (X : MS) (lab : Addr → Nat) : Prop where
  D : MemAt C M H m t w r A X
  so : SOk X t (t + w + r) B
  fo : ∀ b, Foot m A (t + w + r) b → lab b = 0
  la : lab A.a = 1
/-- what a step of thread i leaves -/
structure Fr (i : Nat) (lab : Addr → Nat) (H : Hp) (lab' : Addr → Nat) (H' : Hp) : Prop where
  old : ∀ b o, H b = some o → lab b ≠ 0 → lab' b = lab b
  kp : ∀ b o, H b = some o → lab b ≠ 0 → lab b ≠ lM i → lab b ≠ lS i → H' b = some o
  im : ∀ b o, H b = some o → Imm o → H' b = some o
/-- a stack at k with a machine at a -/
structure MSk (S CM : Addr) (H : Hp) (lab : Addr → Nat) (i : Nat) (k dk ml a dx : Addr) (wv : V) (l : Addr) (th : V) (left : List V) (rest : List (Str × V)) : Prop where
  sk : StkAt S H k dk ml [a] .non
  ma : MaAt CM H a dx wv l th left rest
  zk : lab k = lM i
  zm : lab ml = lM i
  za : lab a = lM i
  zl : lab l = lM i
  n1 : ml ≠ l
  n2 : k ≠ a
/-- the stack is empty -/
structure Sk0 (S : Addr) (H : Hp) (lab : Addr → Nat) (i : Nat) (k dk ml : Addr) (v : V) : Prop where
  sk : StkAt S H k dk ml [] v
  zk : lab k = lM i
  zm : lab ml = lM i
theorem relab_new {lab : Addr → Nat} {H H1 : Hp} {nl : Addr → Nat} {b : Addr} (h : H1 b = none) : relab lab H H1 nl b = nl b := by
  unfold relab
  rw [if_pos h]
theorem relab_old {lab : Addr → Nat} {H H1 : Hp} {nl : Addr → Nat} {b : Addr} {o o1 : HO} (h : H b = some o) (h1 : H1 b = some o1) : relab lab H H1 nl b = lab b := by
  unfold relab
  rw [if_neg (by rw [h1]; simp), if_neg (by rw [h]; simp)]
section
variable {C M S CM : Addr} {H H1 H2 H3 : Hp} {m : Addr} {t w r B B' i j : Nat} {A A' : Adr} {X X' : MS} {lab lab' : Addr → Nat} {k dk ml a dx l : Addr} {wv th v : V} {left : List V} {rest : List (Str × V)}
theorem Wd.nf (W : Wd C M H m t w r B A X lab) {b : Addr} (h : lab b ≠ 0) : ¬ Foot m A (t + w + r) b := fun f => h (W.fo b f)
theorem Wd.next (W : Wd C M H m t w r B A X lab) (st : Step m (t + w + r) A H A' H1) (ea : A'.a = A.a) (D' : MemAt C M H1 m t w r A' X') (so' : SOk X' t (t + w + r) B') (Y : Addr → Prop) (kp : ∀ b o, H1 b = some o → ¬ Y b → H2 b = some o) (yl : ∀ b, Y b → (lab b = lM i ∨ lab b = lS i) ∧ ∃ o, H b = some o ∧ ¬ Imm o) (nl : Addr → Nat) :
    Wd C M H2 m t w r B' A' X' (relab lab H H1 nl) ∧ Fr i lab H (relab lab H H1 nl) H2 := by
  have y0 : ∀ b, Y b → lab b ≠ 0 ∧ lab b ≠ 1 := fun b y => by
    rcases (yl b y).1 with h | h <;> rw [h]
    · exact ⟨lM0, lM1⟩
    · exact ⟨lS0, lS1⟩
  have yf : ∀ b, Y b → ¬ Foot m A' (t + w + r) b := fun b y => by
    obtain ⟨_, o, e, _⟩ := yl b y
    exact (st.out e (W.nf (y0 b y).1)).2
  obtain ⟨da, hla⟩ := id W.D.lay
  have na : lab A.a ≠ 0 := by rw [W.la]; omega
  have a1 := (st.out hla (W.nf na)).1
  refine ⟨⟨D'.on (fun c o e hf => kp c o e fun y => yf c y hf) (fun o e => kp _ o e fun y => (y0 _ y).2 (by rw [ea]; exact W.la)), so', fun b hf => ?_, by rw [ea, relab_old hla a1]; exact W.la⟩, ⟨fun b o e n0 => relab_old e (st.out e (W.nf n0)).1, fun b o e n0 n1 n2 => kp b o (st.out e (W.nf n0)).1 fun y => (yl b y).1.elim n1 n2, fun b o e im => ?_⟩⟩
  · obtain ⟨u, hu⟩ := foot_some D' hf
    unfold relab
    rw [if_neg (by rw [hu]; simp)]
    split
    · rfl
    · rename_i hb
      rcases st.foot b hf with q | q
      · exact W.fo b q
      · exact absurd q hb
  · have h1 : H1 b = some o := by
      rcases im with ⟨xs, rfl⟩ | ⟨g, a, rfl⟩
      · exact (st.out e (tup_out W.D e)).1
      · exact (st.out e (met_out W.D e)).1
    refine kp b o h1 fun y => ?_
    obtain ⟨_, o', e', ni⟩ := yl b y
    rw [e] at e'
    cases e'
    exact ni im
/-- and the stack takes its machine off -/
theorem Wd.off (W : Wd C M H2 m t w r B A X lab') (F : Fr i lab H lab' H2) (s : StkAt S H2 k dk ml [a] v) (zk : lab' k = lM i) (zm : lab' ml = lM i) (kp : Kept2 k ml H2 H3) : Wd C M H3 m t w r B A X lab' ∧ Fr i lab H lab' H3 := by
  have nk : ∀ b, lab' b ≠ lM i → b ≠ k ∧ b ≠ ml := fun b n => ⟨fun e => n (e ▸ zk), fun e => n (e ▸ zm)⟩
  refine ⟨⟨W.D.on (fun c o e hf => ?_) (fun o e => ?_), W.so, W.fo, W.la⟩, ⟨F.old, fun b o e n0 n1 n2 => ?_, fun b o e im => ?_⟩⟩
  · obtain ⟨x, y⟩ := nk c (by rw [W.fo c hf]; exact lM0.symm)
    exact kp c o e x y
  · obtain ⟨x, y⟩ := nk _ (by rw [W.la]; exact lM1.symm : lab' A.a ≠ lM i)
    exact kp _ o e x y
  · obtain ⟨x, y⟩ := nk b (by rw [F.old b o e n0]; exact n1)
    exact kp b o (F.kp b o e n0 n1 n2) x y
  · have e2 := F.im b o e im
    refine kp b o e2 (fun z => ?_) fun z => ?_
    · rw [z, s.ob] at e2
      cases e2
      exact nimm_ins im
    · rw [z, s.l] at e2
      cases e2
      exact nimm_lst im
theorem MSk.fr (s : MSk S CM H lab j k dk ml a dx wv l th left rest) (F : Fr i lab H lab' H1) (ne : j ≠ i) : MSk S CM H1 lab' j k dk ml a dx wv l th left rest := by
  have z : ∀ b o, lab b = lM j → H b = some o → H1 b = some o ∧ lab' b = lM j := fun b o h e => ⟨F.kp b o e (by rw [h]; exact lM0) (by rw [h]; exact lMM ne) (by rw [h]; exact lMS), by rw [F.old b o e (by rw [h]; exact lM0)]; exact h⟩
  obtain ⟨a1, b1⟩ := z _ _ s.zk s.sk.ob
  obtain ⟨a2, b2⟩ := z _ _ s.zm s.sk.l
  obtain ⟨a3, b3⟩ := z _ _ s.za s.ma.ob
  obtain ⟨a4, b4⟩ := z _ _ s.zl s.ma.lf
  exact ⟨⟨a1, a2⟩, ⟨a3, a4⟩, b1, b2, b3, b4, s.n1, s.n2⟩
theorem Sk0.fr (s : Sk0 S H lab j k dk ml v) (F : Fr i lab H lab' H1) (ne : j ≠ i) : Sk0 S H1 lab' j k dk ml v := by
  have z : ∀ b o, lab b = lM j → H b = some o → H1 b = some o ∧ lab' b = lM j := fun b o h e => ⟨F.kp b o e (by rw [h]; exact lM0) (by rw [h]; exact lMM ne) (by rw [h]; exact lMS), by rw [F.old b o e (by rw [h]; exact lM0)]; exact h⟩
  obtain ⟨a1, b1⟩ := z _ _ s.zk s.sk.ob
  obtain ⟨a2, b2⟩ := z _ _ s.zm s.sk.l
  exact ⟨⟨a1, a2⟩, b1, b2⟩
end
section
variable {P : Program} {W : World} {K : PySem.W.Frag} {mg : Str → Option Value} {base : Heap} {C M S CE fa : Addr} {H : Hp} {m : Addr} {t w r B i : Nat} {A : Adr} {X : MS} {lab : Addr → Nat} {k dk ml a dx q l : Addr} {th : V} {left : List V} {rest : List (Str × V)} {Q : VK}
theorem MSk.mach {wv : V} (s : MSk S CE H lab i k dk ml a dx (.ref q) l th left rest) (mc : MCl P W K mg base CE fa) (ro : RsOk rest) : Mach P W K mg base CE H a dx (.ref q) l th left rest := ⟨s.ma, mc.cl, mc.rq, ro.n1, ro.n2, ro.n⟩
theorem beh_wait {q2 l2 : Addr} {th2 : V} {left2 : List V} {rest2 : List (Str × V)} {rq2 : Rq} (mc : MCl P W K mg base CE fa) (ro : RsOk rest2) (sk : StkAt S H k dk ml [a] .non) (M2 : MaAt CE H a dx (.ref q2) l2 th2 left2 rest2) (h2 : H q2 = some (.tup rq2.vs)) (hQ : Q (.bl true) H) : Behind P W K mg base S k dk ml a CE dx .non H Q :=
  ⟨sk, .inl ⟨q2, l2, th2, left2, rest2, rq2, ⟨M2, mc.cl, mc.rq, ro.n1, ro.n2, ro.n⟩, h2, hQ⟩⟩
theorem beh_end {q2 l2 : Addr} {th2 y : V} {left2 : List V} {rest2 : List (Str × V)} (mc : MCl P W K mg base CE fa) (ro : RsOk rest2) (sk : StkAt S H k dk ml [a] .non) (M2 : MaAt CE H a dx (.ref q2) l2 th2 left2 rest2) (h2 : H q2 = some (.tup [.str "end", y])) (hQ : ∀ H3, StkAt S H3 k dk ml [] y → Kept2 k ml H H3 → Q (.bl true) H3) : Behind P W K mg base S k dk ml a CE dx .non H Q :=
  ⟨sk, .inr ⟨q2, l2, th2, left2, rest2, y, ⟨M2, mc.cl, mc.rq, ro.n1, ro.n2, ro.n⟩, h2, hQ⟩⟩
/-- an access behind which the next request waits -/
theorem stp_pop {q' : Addr} {rs : List V} {rq rq' : Rq} (s : MSk S CE H lab i k dk ml a dx (.ref q) l th (.ref q' :: rs) rest) (mc : MCl P W K mg base CE fa) (ro : RsOk rest) (nok : NOk t w r) (hth : i < t) (Wm : Wd C M H m t w r B A X lab) (hB : B + 6 < sizeLine)
    (hq : H q = some (.tup rq.vs)) (hq' : H q' = some (.tup rq'.vs)) (ok : rq.ok t w r) (vals : rq.vals K H) (fl : rq.flatAt K H X t)
    (nxt : ∀ (v x : V) (A' : Adr) (X' : MS) (H1 H2 : Hp) (lab' : Addr → Nat), A'.a = A.a → Res K ((X.withCount (X.count + 1)).withLog (X.log ++ [x])) t i H1 H1 rq v X' → LogIs H2 x (X.count + 1) i rq → Wd C M H2 m t w r (B + 2) A' X' lab' → Fr i lab H lab' H2 → MSk S CE H2 lab' i k dk ml a dx (.ref q') l th rs rest → (∀ b o, H b = some o → lab b ≠ 0 → b ≠ a → b ≠ l → H2 b = some o) → Q (.bl true) H2) :
    spKStL P W K mg base 6 S C M [.ref k, .ref m, .int (i : Int)] H Q E0 := by
  refine ⟨k, dk, ml, m, [a], .non, t, w, r, i, B, A, X, rfl, s.sk, nok, Wm.D, hth, Wm.so, hB, .inr ⟨a, CE, dx, q, l, fa, th, _, rest, rq, _, rfl, s.mach (wv := .non) mc ro, hq, ok, vals, fl, mc.ma, mc.fa, fun v x p A' X' H1 ea R hp lg so' D' st Q' hQ' => ?_⟩⟩
  have nz : ∀ b, lab b = lM i → lab b ≠ 0 := fun b h => by rw [h]; exact lM0
  have out : ∀ b o, lab b = lM i → H b = some o → H1 b = some o := fun b o h e => (st.out e (Wm.nf (nz b h))).1
  have M1 : MaAt CE H1 a dx (.ref q) l th (.ref q' :: rs) rest := ⟨out _ _ s.za s.ma.ob, out _ _ s.zl s.ma.lf⟩
  have S1 : StkAt S H1 k dk ml [a] .non := ⟨out _ _ s.zk s.sk.ob, out _ _ s.zm s.sk.l⟩
  refine ⟨fun a' dx' fs e1 e2 => ?_, a, dx, l, _, th, .ref p, _, rest, rfl, M1, ro.n, .inl ⟨.ref q', rs, rfl, fun H2 D2 kp => ?_⟩⟩
  · cases e1
    rw [M1.ob] at e2
    cases e2
    exact go_lk (fs := []) ro
  · have k_l : k ≠ l := ne_of S1.ob M1.lf (by intro z; cases z)
    have ml_a : ml ≠ a := ne_of S1.l M1.ob (by intro z; cases z)
    have S2 : StkAt S H2 k dk ml [a] .non := ⟨kp _ _ S1.ob s.n2 k_l, kp _ _ S1.l ml_a s.n1⟩
    obtain ⟨W2, F2⟩ := Wm.next (H2 := H2) (i := i) st ea D' so' (fun b => b = a ∨ b = l) (fun b o e y => kp b o e (fun z => y (.inl z)) fun z => y (.inr z)) (fun b y => y.elim (fun e => e ▸ ⟨.inl s.za, _, s.ma.ob, nimm_ins⟩) fun e => e ▸ ⟨.inl s.zl, _, s.ma.lf, nimm_lst⟩) (fun _ => 0)
    have ol : ∀ b o, H b = some o → lab b = lM i → relab lab H H1 (fun _ => 0) b = lM i := fun b o e h => by rw [F2.old b o e (nz b h)]; exact h
    have ext2 : ExT H1 H2 := ⟨fun b xs e => kp b _ e (ne_of e M1.ob (by intro z; cases z)) (ne_of e M1.lf (by intro z; cases z)), fun b o xs e => kp b _ e (ne_of e M1.ob (by intro z; cases z)) (ne_of e M1.lf (by intro z; cases z))⟩
    refine hQ' _ H2 (beh_wait mc ro S2 D2 (F2.im _ _ hq' .tup) (nxt v x A' X' H1 H2 _ ea R (lg.ext ext2) W2 F2 ⟨S2, D2, ol _ _ s.sk.ob s.zk, ol _ _ s.sk.l s.zm, ol _ _ s.ma.ob s.za, ol _ _ s.ma.lf s.zl, s.n1, s.n2⟩ fun b o e n0 x y => kp b o (st.out e (Wm.nf n0)).1 x y))
/-- an access whose result goes to a method -/
theorem stp_then {qm g : Addr} {rq : Rq} {sp : Sp} (s : MSk S CE H lab i k dk ml a dx (.ref q) l (.ref qm) [] rest) (mc : MCl P W K mg base CE fa) (ro : RsOk rest) (nok : NOk t w r) (hth : i < t) (Wm : Wd C M H m t w r B A X lab) (hB : B + 6 < sizeLine)
    (hq : H q = some (.tup rq.vs)) (ok : rq.ok t w r) (vals : rq.vals K H) (fl : rq.flatAt K H X t) (hm : H qm = some (.met g a)) (fi : PySem.W.fnIn K g = true) (FR : FnR P W K mg base CX0 4 g sp)
    (nxt : ∀ (v x : V) (p : Addr) (A' : Adr) (X' : MS) (H1 : Hp), A'.a = A.a → Res K ((X.withCount (X.count + 1)).withLog (X.log ++ [x])) t i H1 H1 rq v X' → H1 p = some (.tup [v, .int (X.count + 1)]) → LogIs H1 x (X.count + 1) i rq → SOk X' t (t + w + r) (B + 2) → MemAt C M H1 m t w r A' X' → Step m (t + w + r) A H A' H1 →
      MaAt CE H1 a dx (.ref q) l (.ref qm) [] rest → StkAt S H1 k dk ml [a] .non → ∀ Q' : Hp → Prop, (∀ H2, Behind P W K mg base S k dk ml a CE dx .non H2 Q → Q' H2) → sp [.ref a, .ref p] H1 (fun _ H' => Q' H') E0) :
    spKStL P W K mg base 6 S C M [.ref k, .ref m, .int (i : Int)] H Q E0 := by
  refine ⟨k, dk, ml, m, [a], .non, t, w, r, i, B, A, X, rfl, s.sk, nok, Wm.D, hth, Wm.so, hB, .inr ⟨a, CE, dx, q, l, fa, _, _, rest, rq, _, rfl, s.mach (wv := .non) mc ro, hq, ok, vals, fl, mc.ma, mc.fa, fun v x p A' X' H1 ea R hp lg so' D' st Q' hQ' => ?_⟩⟩
  have nz : ∀ b, lab b = lM i → lab b ≠ 0 := fun b h => by rw [h]; exact lM0
  have out : ∀ b o, lab b = lM i → H b = some o → H1 b = some o := fun b o h e => (st.out e (Wm.nf (nz b h))).1
  have M1 : MaAt CE H1 a dx (.ref q) l (.ref qm) [] rest := ⟨out _ _ s.za s.ma.ob, out _ _ s.zl s.ma.lf⟩
  have S1 : StkAt S H1 k dk ml [a] .non := ⟨out _ _ s.zk s.sk.ob, out _ _ s.zm s.sk.l⟩
  refine ⟨fun a' dx' fs e1 e2 => ?_, a, dx, l, _, _, .ref p, [], rest, rfl, M1, ro.n, .inr ⟨rfl, qm, g, sp, rfl, (st.out hm (met_out Wm.D hm)).1, fi, FR, ?_⟩⟩
  · cases e1
    rw [M1.ob] at e2
    cases e2
    exact go_lk (fs := []) ro
  · exact nxt v x p A' X' H1 ea R hp lg so' D' st M1 S1 (fun H' => Q' .non H') fun H2 hb => hQ' .non H2 hb
end
end Dk

set_option maxHeartbeats 4000000
/-! entering: its three accesses -/
namespace Dk
open PySem PySem.Spec PyProof.Rows L2
/-- kept outside of the memory and two addresses -/
def KF (m : Addr) (A A' : Adr) (n : Nat) (Y : Addr → Prop) (H H' : Hp) : Prop := ∀ b o, H b = some o → ¬ Y b → ¬ Foot m A n b → H' b = some o ∧ ¬ Foot m A' n b
theorem res_read {K : PySem.W.Frag} {X X' : MS} {t th i : Nat} {H H' : Hp} {v x u : V} {c : Int} {l : List V} (R : Res K ((X.withCount c).withLog l) t th H H' (.read i) v X') (hi : i < 1 + t) (hu : X.ps[i]? = some u) : v = u ∧ X'.ps = X.ps ∧ X'.count = c := by
  obtain ⟨h1, rfl⟩ := R
  refine ⟨?_, rfl, rfl⟩
  unfold cellV at h1
  rw [if_pos hi] at h1
  have h1 : X.ps[i]? = some v := h1
  rw [hu] at h1
  exact (Option.some.inj h1).symm
theorem res_write {K : PySem.W.Frag} {X X' : MS} {t th i : Nat} {H H' : Hp} {v y : V} {c : Int} {l : List V} (R : Res K ((X.withCount c).withLog l) t th H H' (.write i y) v X') (hi : i < 1 + t) : v = .non ∧ X'.ps = X.ps.set i y ∧ X'.count = c := by
  obtain ⟨h1, rfl⟩ := R
  refine ⟨h1, ?_, ?_⟩
  · unfold MS.give
    rw [if_pos hi]
    rfl
  · unfold MS.give
    rw [if_pos hi]
    rfl
theorem enrs {s : Int} {v : V} : RsOk (enrest s v) := ⟨rfl, rfl, rfl, by show 3 < 900; decide⟩
section
variable {P : Program} {W : World} {K : PySem.W.Frag} {mg : Str → Option Value} {base : Heap} {C M CE fa g : Addr} {H : Hp} {m : Addr} {t w r B th : Nat} {A : Adr} {X : MS} {Z : Addr → Prop} {a dx q l qm : Addr} {Qg : QG} {e : Int} {sl : List V}
theorem en_go (mc : MCl P W K mg base CE fa) (fi : PySem.W.fnIn K g = true) (FT : FnR P W K mg base CX0 4 g (spEnTake CE g)) (hth : th < t) (s : MSt C M CE H m t w r B A X Z a dx q l (.ref qm) [] (enrest (1 + (th : Int)) .non)) (hq : H q = some (.tup [.str "read", .int 0])) (hm : H qm = some (.met g a)) (hps : X.ps = .int e :: sl)
    (fin : ∀ H2 A' X' Z', A'.a = A.a → MemAt C M H2 m t w r A' X' → SOk X' t (t + w + r) (B + 2 + 2 + 2) → X'.ps = .int e :: sl.set th (.int e) → X'.count = X.count + 3 → (∀ b, Foot m A' (t + w + r) b → Z' b) → Zst Z H Z' H2 → (∀ b, Z b → Z' b) → KF m A A' (t + w + r) (fun b => b = a ∨ b = l) H H2 → Qg (.int e) H2 A' X' (B + 2 + 2 + 2) Z') :
    Go P W K mg base 6 C M a CE dx m t w r th Qg 3 H A X B Z := by
  have h0 : X.ps[0]? = some (.int e) := by rw [hps]; rfl
  refine go_then (rq := .read 0) s mc enrs hq (by show 0 < 1 + t + (t + w + r); omega) trivial trivial hm fi FT fun v x p A1 X1 H1 ea1 R1 hp so1 D1 st1 M1 Q' hQ' => ?_
  obtain ⟨rfl, ps1, c1⟩ := res_read (x := x) R1 (by omega) h0
  refine ⟨a, dx, p, l, _, _, [], _, e, _, .non, rfl, M1, hp, .inr ⟨.inl rfl, fun H2 q1 q2 l' qm' n1 n2 nl' nm' e1 e2 em D2 kp => ?_⟩⟩
  obtain ⟨s2, z2⟩ := s.next st1 ea1 D1 so1 (fun b => b = a) (fun b => b = l') (fun b o q n => kp b o q n) (fun b y => y ▸ s.za) (fun b y => y ▸ (s.acc st1).2.1) (fun b y => y ▸ nl') D2 (.inr rfl)
  refine hQ' H2 _ z2 (.inl ?_)
  have kf2 : KF m A A1 (t + w + r) (fun b => b = a ∨ b = l) H H2 := fun b o q y nf => ⟨kp b o (st1.chg b o q nf) fun z => y (.inl z), (st1.out q nf).2⟩
  have e1' : H2 q1 = some (.tup (Rq.write (1 + th) (.int e)).vs) := by rw [e1]; rfl
  refine go_pop (rq := .write (1 + th) (.int e)) (rq' := .read 0) s2 mc enrs e1' (by show 1 + th < 1 + t + (t + w + r); omega) ⟨_, Dvl.int e⟩ trivial fun v3 x3 A3 X3 H3 H4 Z4 R3 s4 z4 zz4 ea3 kp4 => ?_
  obtain ⟨rfl, ps3, c3⟩ := res_write R3 (by omega)
  have q2_4 : H4 q2 = some (.tup [.str "read", .int 0]) := (kp4 _ _ e2 (ne_of e2 D2.ob (by intro z; cases z)) (ne_of e2 D2.lf (by intro z; cases z)) (tup_out s2.DM e2)).1
  have qm_4 : H4 qm' = some (.met g a) := (kp4 _ _ em (ne_of em D2.ob (by intro z; cases z)) (ne_of em D2.lf (by intro z; cases z)) (met_out s2.DM em)).1
  have ps3' : X3.ps = .int e :: sl.set th (.int e) := by rw [ps3, ps1, hps, show 1 + th = th + 1 by omega]; rfl
  have h0' : X3.ps[0]? = some (.int e) := by rw [ps3']; rfl
  refine go_then (rq := .read 0) s4 mc enrs q2_4 (by show 0 < 1 + t + (t + w + r); omega) trivial trivial qm_4 fi FT fun v5 x5 p5 A5 X5 H5 ea5 R5 hp5 so5 D5 st5 M5 Q5 hQ5 => ?_
  obtain ⟨rfl, ps5, c5⟩ := res_read (x := x5) R5 (by omega) h0'
  refine ⟨a, dx, p5, l', _, _, [], _, e, _, .int e, rfl, M5, hp5, .inl ⟨rfl, fun H6 q6 n6 e6 D6 kp6 => ?_⟩⟩
  obtain ⟨s6, z6⟩ := s4.next st5 ea5 D5 so5 (fun b => b = a) (fun b => False) (fun b o q n => kp6 b o q n) (fun b y => y ▸ s4.za) (fun b y => y ▸ (s4.acc st5).2.1) (fun b y => y.elim) D6 (.inl rfl)
  refine hQ5 H6 _ z6 (.inr ?_)
  refine ⟨q6, l', _, [], _, .int e, enrs, s6, e6, fin H6 A5 X5 _ (ea5.trans (ea3.trans ea1)) s6.DM s6.so (ps5.trans ps3') (by rw [c5, c3, c1]; omega) s6.zf ((z2.trans z4).trans z6) (fun b h => .inr (.inl (zz4 b (.inr (.inl h))))) fun b o q y nf => ?_⟩
  have f1 := (st1.out q nf).2
  have q2' := (kf2 b o q y nf).1
  have bl : b ≠ l' := fun z => by
    have := st1.chg b o q nf
    rw [z, nl'] at this; cases this
  obtain ⟨q4, f4⟩ := kp4 b o q2' (fun z => y (.inl z)) bl f1
  exact ⟨kp6 b o (st5.chg b o q4 f4) fun z => y (.inl z), (st5.out q4 f4).2⟩
end
end Dk

set_option maxHeartbeats 4000000
/-! leaving a call: its methods -/
namespace Dk
open PySem PySem.Spec PyProof.Rows L2 StX
abbrev sLvInit : Stmt := inClass (top 16) 0
abbrev sLvReq : Stmt := inClass (top 16) 1
abbrev sLvAcc : Stmt := inClass (top 16) 2
abbrev sLvSt : Stmt := inClass (top 16) 3
abbrev sLvLv : Stmt := inClass (top 16) 4
abbrev sLvHere : Stmt := inClass (top 16) 5
abbrev sLvEp : Stmt := inClass (top 16) 6
abbrev sLvLook : Stmt := inClass (top 16) 7
abbrev sLvSlot : Stmt := inClass (top 16) 8
abbrev sLvSwap : Stmt := inClass (top 16) 9
abbrev sLvFree : Stmt := inClass (top 16) 10
abbrev sOther : Stmt := top 17
abbrev lvrest (st : Addr) (sl : Addr) (ep : Int) : List (Str × V) := [("_store", .ref st), ("_epoch_cell", .int 0), ("_slots", .ref sl), ("_epoch", .int ep)]
theorem StAt.kept {S : Addr} {H H' : Hp} {st la : Addr} {t : Int} {fa wa oa : Addr} {fr out : List Int} {rows : List Rw} (R : StAt S H st la t fa wa oa fr out rows) {a CE dx : Addr} {fs : List (Str × V)} (ha : H a = some (.ins CE dx fs)) (n : a ≠ st) (k : Kept a H H') : StAt S H' st la t fa wa oa fr out rows :=
  ⟨let ⟨x, h⟩ := R.ob; ⟨x, k _ _ h n.symm⟩, k _ _ R.f (ne_of R.f ha (by intro z; cases z)), k _ _ R.w (ne_of R.w ha (by intro z; cases z)), k _ _ R.o (ne_of R.o ha (by intro z; cases z)), fun r hr => ⟨k _ _ (R.r r hr).1 (ne_of (R.r r hr).1 ha (by intro z; cases z)), k _ _ (R.r r hr).2 (ne_of (R.r r hr).2 ha (by intro z; cases z))⟩, R.d⟩
structure VTx (K : PySem.W.Frag) (CE : Addr) : Prop where
  m : MTx K CE
  nS : NoAttr K CE "_store"
  nE : NoAttr K CE "_epoch_cell"
  nL : NoAttr K CE "_slots"
  nP : NoAttr K CE "_epoch"
def spLvEnd (CE : Addr) : Sp := fun vs H Q _ => ∃ (a dx l st sl : Addr) (ep : Int) (w th r : V) (left : List V), vs = [.ref a, r] ∧ MaAt CE H a dx w l th left (lvrest st sl ep) ∧
  ∀ (H' : Hp) (q : Addr), H q = none → H' q = some (.tup [.str "end", .non]) → MaAt CE H' a dx (.ref q) l th left (lvrest st sl ep) → Kept a H H' → Q .non H'
def spLvFree (S CE : Addr) : Sp := fun vs H Q _ => ∃ (a dx l st sl la : Addr) (w th : V) (left : List V) (ep known t : Int) (fa wa oa : Addr) (fr out : List Int) (rows : List Rw), vs = [.ref a, .int known] ∧ MaAt CE H a dx w l th left (lvrest st sl ep) ∧ st ≠ a ∧ StAt S H st la t fa wa oa fr out rows ∧ rows.length < 1000 ∧ fr.length + (upTo (known - 3) rows).length < 1000 ∧
  ∀ (H' : Hp) (q fa' wa' : Addr) (fr' : List Int), fr'.Perm (fr ++ upTo (known - 3) rows) → Asc fr' → H q = none → H fa' = none → H wa' = none → H' q = some (.tup [.str "end", .non]) → MaAt CE H' a dx (.ref q) l th left (lvrest st sl ep) → StAt S H' st la t fa' wa' oa fr' out (rows.filter fun r => decide (known - 3 < r.e)) → Kept2 a st H H' → Q .non H'
def spLvLook (CE gSl gSw : Addr) : Sp := fun vs H Q _ => ∃ (a dx l st sl : Addr) (w th : V) (left : List V) (ep : Int) (os : List Int), vs = [.ref a] ∧ MaAt CE H a dx w l th left (lvrest st sl ep) ∧ H sl = some (.lst (os.map V.int)) ∧ sl ≠ l ∧
  ((∃ o os', os = o :: os' ∧ ∀ (H' : Hp) (q l' qm : Addr), H q = none → H l' = none → H qm = none → H' q = some (.tup [.str "read", .int o]) → H' qm = some (.met gSl a) → MaAt CE H' a dx (.ref q) l' (.ref qm) [] (lvrest st sl ep) → H' sl = some (.lst (os'.map V.int)) → Kept2 a sl H H' → Q .non H') ∨
   (os = [] ∧ ∀ (H' : Hp) (q l' qm : Addr), H q = none → H l' = none → H qm = none → H' q = some (.tup [.str "swap", .int 0, .int ep, .int (ep + 1)]) → H' qm = some (.met gSw a) → MaAt CE H' a dx (.ref q) l' (.ref qm) [] (lvrest st sl ep) → Kept a H H' → Q .non H'))
def spLvSlot (CE S gSl gSw : Addr) : Sp := fun vs H Q E => ∃ (a dx l st sl p : Addr) (w th : V) (left : List V) (ep c : Int) (held : V), vs = [.ref a, .ref p] ∧ MaAt CE H a dx w l th left (lvrest st sl ep) ∧ H p = some (.tup [held, .int c]) ∧
  ((held = .non ∧ spLvLook CE gSl gSw [.ref a] H Q E0) ∨ ∃ h : Int, held = .int h ∧ ((h = ep ∧ ∀ H', Same H H' → spLvLook CE gSl gSw [.ref a] H' Q E0) ∨ (h ≠ ep ∧ ∀ H', Same H H' → spLvFree S CE [.ref a, .int ep] H' Q E0)))
def spLvSwap (CE S : Addr) : Sp := fun vs H Q E => ∃ (a dx l st sl p : Addr) (w th : V) (left : List V) (ep c : Int) (b : Bool), vs = [.ref a, .ref p] ∧ MaAt CE H a dx w l th left (lvrest st sl ep) ∧ H p = some (.tup [.bl b, .int c]) ∧ spLvFree S CE [.ref a, .int (if b = true then ep + 1 else ep)] H Q E0
def spLvEp (CE gSl gSw : Addr) : Sp := fun vs H Q E => ∃ (a dx l st sl p : Addr) (w th : V) (left : List V) (ep e c : Int), vs = [.ref a, .ref p] ∧ MaAt CE H a dx w l th left (lvrest st sl ep) ∧ H p = some (.tup [.int e, .int c]) ∧ ∀ H', MaAt CE H' a dx w l th left (lvrest st sl e) → Kept a H H' → spLvLook CE gSl gSw [.ref a] H' Q E0
def spLvLeave (C S CE gEp gHe : Addr) : Sp := fun vs H Q _ => ∃ (a dx l st sl la : Addr) (w th : V) (left : List V) (ep : Int) (t wd r : Int) (thr : Nat) (fa wa oa : Addr) (fr out : List Int) (rows : List Rw), vs = [.ref a] ∧ MaAt CE H a dx w l th left (lvrest st sl ep) ∧ StAt S H st la (thr : Int) fa wa oa fr out rows ∧ LayAt C H la t wd r ∧
  ((rows ≠ [] ∧ ∀ (H' : Hp) (q1 q2 l' qm : Addr), H q1 = none → H q2 = none → H l' = none → H qm = none → H' q1 = some (.tup [.str "write", .int (1 + (thr : Int)), .non]) → H' q2 = some (.tup [.str "read", .int 0]) → H' qm = some (.met gEp a) → MaAt CE H' a dx (.ref q1) l' (.ref qm) [.ref q2] (lvrest st sl ep) → Kept a H H' → Q .non H') ∨
   (rows = [] ∧ ∀ (H' : Hp) (q1 l' qm : Addr), H q1 = none → H l' = none → H qm = none → H' q1 = some (.tup [.str "write", .int (1 + (thr : Int)), .non]) → H' qm = some (.met gHe a) → MaAt CE H' a dx (.ref q1) l' (.ref qm) [] (lvrest st sl ep) → Kept a H H' → Q .non H'))
def spLvStamp (C S CE gEp gHe : Addr) : Sp := fun vs H Q _ => ∃ (a dx l st sl la p : Addr) (w th : V) (left : List V) (ep e c : Int) (t : Int) (fa wa oa : Addr) (fr out : List Int) (rows : List Rw), vs = [.ref a, .ref p] ∧ MaAt CE H a dx w l th left (lvrest st sl ep) ∧ st ≠ a ∧ StAt S H st la t fa wa oa fr out rows ∧ rows.length < 1000 ∧ H p = some (.tup [.int e, .int c]) ∧
  ∀ (H' : Hp) (p' oa' : Addr), H p' = none → H oa' = none → StAt S H' st la t fa wa oa' fr [] (rows ++ [⟨p', oa, e, out⟩]) → Kept2 st wa H H' → spLvLeave C S CE gEp gHe [.ref a] H' Q E0
def others (thr t : Nat) : List Int := ((List.range t).filter fun i => decide (i ≠ thr)).map fun (i : Nat) => 1 + (i : Int)
def spOther (C S : Addr) : Sp := fun vs H Q _ => ∃ (st la : Addr) (t thr : Nat) (wd r : Int) (fa wa oa : Addr) (fr out : List Int) (rows : List Rw), vs = [.ref st] ∧ StAt S H st la (thr : Int) fa wa oa fr out rows ∧ LayAt C H la (t : Int) wd r ∧ t < 1000 ∧ ∀ H' p, H p = none → H' p = some (.lst ((others thr t).map V.int)) → Same H H' → Q (.ref p) H'
def spLvInit (C S CE gSt gEp gHe : Addr) : Sp := fun vs H Q _ => ∃ (a dx st la : Addr) (t thr : Nat) (wd r : Int) (fa wa oa : Addr) (fr out : List Int) (rows : List Rw), vs = [.ref a, .ref st] ∧ H a = some (.ins CE dx []) ∧ StAt S H st la (thr : Int) fa wa oa fr out rows ∧ LayAt C H la (t : Int) wd r ∧ t < 1000 ∧
  ((out ≠ [] ∧ ∀ (H' : Hp) (q l' qm sl : Addr), H q = none → H l' = none → H qm = none → H sl = none → sl ≠ l' → H' q = some (.tup [.str "read", .int 0]) → H' qm = some (.met gSt a) → MaAt CE H' a dx (.ref q) l' (.ref qm) [] (lvrest st sl 0) → H' sl = some (.lst ((others thr t).map V.int)) → Kept a H H' → Q .non H') ∨
   (out = [] ∧ ∀ (H' : Hp) (wv th : V) (left : List V) (l sl : Addr), H l = none → H sl = none → sl ≠ l → MaAt CE H' a dx wv l th left (lvrest st sl 0) → H' sl = some (.lst ((others thr t).map V.int)) → Kept a H H' → spLvLeave C S CE gEp gHe [.ref a] H' Q E0))
section
variable {P : Program} {w : World} {K : PySem.W.Frag} {mg : Str → Option Value} {base : Heap} {C M S CE gSl gSw gEp gHe gSt : Addr}
theorem scLvReq : FnScope ["self"] ["self"] (defScope sLvReq) := ⟨rfl, rfl, rfl, by decide +kernel, rfl, by decide +kernel, by decide +kernel⟩
theorem mo_lvreq (F : MT K CE "request" "Leaving.request" sLvReq ["self"]) (TC : MTx K CE) : MO P w K mg base CX0 CE 1 "request" ["self"] (spReq CE) := by
  obtain ⟨f, fd, F, hm, hb⟩ := F
  refine ⟨f, fd, ?_, hm, hb⟩
  refine F.ok scLvReq (fun vs H Q E h => ?_) (fun cdv A outer s H vs Q E hr h => ?_)
  · obtain ⟨a, dx, l, w, th, left, rest, rfl, _⟩ := h
    rfl
  · obtain ⟨a, dx, l, w, th, left, rest, rfl, D, k⟩ := h
    refine ⟨_, (pss_one (ps_ret (pe_fld (pv 0) rfl))), ?_⟩
    exact ⟨_, rfl, a, CE, dx, _, _, rfl, D.ob, TC.cl, TC.nW, rfl, k⟩
theorem scLvAcc : FnScope ["self", "result"] ["self", "result"] (defScope sLvAcc) := ⟨rfl, rfl, rfl, by decide +kernel, rfl, by decide +kernel, by decide +kernel⟩
theorem mo_lvacc {k : Nat} (F : MT K CE "accept" "Leaving.accept" sLvAcc ["self", "result"]) (TC : MTx K CE) (GGo : MO P w K mg base CX0 CE (k + 1) "_go_on" ["self", "result"] (spGo P w K mg base k CE)) : MO P w K mg base CX0 CE (k + 2) "accept" ["self", "result"] (spAcc P w K mg base k CE) := by
  obtain ⟨f, fd, F, hm, hb⟩ := F
  refine ⟨f, fd, ?_, hm, hb⟩
  refine F.ok scLvAcc (fun vs H Q E h => ?_) (fun cdv A outer s H vs Q E hr h => ?_)
  · obtain ⟨_, a, dx, l, w, th, res, left, rest, rfl, _⟩ := h
    rfl
  · obtain ⟨hl, h'⟩ := h
    obtain ⟨a, dx, l, w, th, res, left, rest, rfl, D, hz, hc⟩ := id h'
    have hrG : Room (k + 1) _ := hr
    refine ⟨_, (pss_one (ps_expr (pm_ GGo TC.cl hrG (pv 0) (pa_cons (pv 1) pa_nil)))), ?_⟩
    exact ⟨_, rfl, a, dx, _, rfl, D.ob, hl a dx _ rfl D.ob, _, rfl, h'⟩
theorem scLvHere : FnScope ["self", "result"] ["self", "result"] (defScope sLvHere) := ⟨rfl, rfl, rfl, by decide +kernel, rfl, by decide +kernel, by decide +kernel⟩
theorem mo_lvhere (F : MT K CE "_end_here" "Leaving._end_here" sLvHere ["self", "result"]) (TC : MTx K CE) (GEd : MO P w K mg base CX0 CE 1 "_end" ["self", "value"] (spMaEnd CE)) : MO P w K mg base CX0 CE 4 "_end_here" ["self", "result"] (spLvEnd CE) := by
  obtain ⟨f, fd, F, hm, hb⟩ := F
  refine ⟨f, fd, ?_, hm, hb⟩
  refine F.ok scLvHere (fun vs H Q E h => ?_) (fun cdv A outer s H vs Q E hr h => ?_)
  · obtain ⟨a, dx, l, st, sl, ep, wv, th, r, left, rfl, _⟩ := h
    rfl
  · obtain ⟨a, dx, l, st, sl, ep, wv, th, r, left, rfl, D, k⟩ := h
    have hrA : Room 1 _ := hr.mono (by decide)
    refine ⟨_, (pss_one (ps_expr (pm_ GEd TC.cl hrA (pv 0) (pa_cons pe_non pa_nil)))), ?_⟩
    exact ⟨_, rfl, a, dx, _, rfl, D.ob, rfl, a, dx, l, wv, th, .non, left, _, rfl, D, (by show 4 < 900; decide), fun H' q hq e D' kp => k H' q hq e D' kp⟩
theorem scLvFree : FnScope ["self", "known"] ["self", "known"] (defScope sLvFree) := ⟨rfl, rfl, rfl, by decide +kernel, rfl, by decide +kernel, by decide +kernel⟩
theorem mo_lvfree (F : MT K CE "_free_waiting" "Leaving._free_waiting" sLvFree ["self", "known"]) (TV : VTx K CE) (T : STxt K mg S) (GEd : MO P w K mg base CX0 CE 1 "_end" ["self", "value"] (spMaEnd CE)) (GFu : MO P w K mg base CX0 S 2 "free_up_to" ["self", "last"] (spFreeUp S)) : MO P w K mg base CX0 CE 3 "_free_waiting" ["self", "known"] (spLvFree S CE) := by
  obtain ⟨f, fd, F, hm, hb⟩ := F
  refine ⟨f, fd, ?_, hm, hb⟩
  refine F.ok scLvFree (fun vs H Q E h => ?_) (fun cdv A outer s H vs Q E hr h => ?_)
  · obtain ⟨a, dx, l, st, sl, la, wv, th, left, ep, known, t, fa, wa, oa, fr, out, rows, rfl, _⟩ := h
    rfl
  · obtain ⟨a, dx, l, st, sl, la, wv, th, left, ep, known, t, fa, wa, oa, fr, out, rows, rfl, D, n1, R, z1, z2, k⟩ := h
    have hrA : Room 1 _ := hr.mono (by decide)
    have hr2 : Room 2 _ := hr
    have TC := TV.m
    refine ⟨_, (pss_cons (ps_expr (pm_ GFu T.cl hr2 (pe_fld (pv 0) rfl) (pa_cons (pe_op op_sub (pv 1) pe_int) pa_nil)))
  (pss_one (ps_expr (pm_ GEd TC.cl hrA (pv 0) (pa_cons pe_non pa_nil))))), ?_⟩
    obtain ⟨ds, hst⟩ := R.ob
    refine ⟨_, rfl, a, CE, dx, _, _, rfl, D.ob, TC.cl, TV.nS, rfl, st, ds, _, rfl, hst, rfl, _, rfl, _, _, rfl, rfl, st, la, t, fa, wa, oa, fr, out, rows, _, rfl, R, z1, z2, fun H1 fa' wa' fr' pm asc nfa nwa R1 kp => ?_⟩
    have a1 := kp _ _ D.ob n1.symm
    have l1 := kp _ _ D.lf (ne_of D.lf hst (by intro z; cases z))
    refine ⟨_, rfl, a, dx, _, rfl, a1, rfl, a, dx, l, wv, th, .non, left, _, rfl, ⟨a1, l1⟩, (by show 4 < 900; decide), fun H2 q hq e2 D2 kp2 => ?_⟩
    exact k H2 q fa' wa' fr' pm asc (kp.free hq (let ⟨x, h⟩ := R1.ob; ⟨_, h⟩)) nfa nwa e2 D2 (R1.kept a1 n1.symm kp2) fun b o e n2 n3 => kp2 b o (kp b o e n3) n2
theorem scLvLook : FnScope ["self"] ["self"] (defScope sLvLook) := ⟨rfl, rfl, rfl, by decide +kernel, rfl, by decide +kernel, by decide +kernel⟩
theorem mo_lvlook (F : MT K CE "_look" "Leaving._look" sLvLook ["self"]) (TV : VTx K CE) (b1 : BMeth K CE "_take_slot" gSl) (b2 : BMeth K CE "_take_swap" gSw) (GAs : MO P w K mg base CX0 CE 1 "_ask" ["self", "requests", "then"] (spMaAsk CE)) : MO P w K mg base CX0 CE 2 "_look" ["self"] (spLvLook CE gSl gSw) := by
  obtain ⟨f, fd, F, hm, hb⟩ := F
  refine ⟨f, fd, ?_, hm, hb⟩
  refine F.ok scLvLook (fun vs H Q E h => ?_) (fun cdv A outer s H vs Q E hr h => ?_)
  · obtain ⟨a, dx, l, st, sl, wv, th, left, ep, os, rfl, _⟩ := h
    rfl
  · obtain ⟨a, dx, l, st, sl, wv, th, left, ep, os, rfl, D, hsl, nsl, hc⟩ := h
    have hrA : Room 1 _ := hr
    have TC := TV.m
    refine ⟨_, (pss_one (ps_if (pt_truth (pe_fld (pv 0) rfl) (by intro _; rfl))
  (pss_one (ps_expr (pm_ GAs TC.cl hrA (pv 0) (pa_cons (pe_lst (pa_cons (pe_tup (pa_cons pe_str (pa_cons (pe_bm PySem.F.plainAttrs_list PySem.F.slot_list_pop PySem.F.type_list_pop mt_popAt (pe_fld (pv 0) rfl) (pa_cons pe_int pa_nil)) pa_nil))) pa_nil)) (pa_cons (Mr.pe_bm_ (pv 0)) pa_nil)))))
  (pss_one (ps_expr (pm_ GAs TC.cl hrA (pv 0) (pa_cons (pe_lst (pa_cons (pe_tup (pa_cons pe_str (pa_cons (pe_fld (pv 0) rfl) (pa_cons (pe_fld (pv 0) rfl) (pa_cons (pe_op op_add (pe_fld (pv 0) rfl) pe_int) pa_nil))))) pa_nil)) (pa_cons (Mr.pe_bm_ (pv 0)) pa_nil))))))), ?_⟩
    rcases hc with ⟨o, os', rfl, k⟩ | ⟨rfl, k⟩
    · refine ⟨_, rfl, a, CE, dx, _, _, rfl, D.ob, TC.cl, TV.nL, rfl, true, .inl ⟨_, SqL.of hsl, rfl⟩, iteT ?_⟩
      refine ⟨_, rfl, a, dx, _, rfl, D.ob, rfl, _, rfl, a, CE, dx, _, _, rfl, D.ob, TC.cl, TV.nL, rfl, .inl ⟨rfl, _, SqL.of hsl⟩, sl, _, 0, 0, .int o, rfl, rfl, hsl, by decide, by decide, seq_head, rfl, ?_⟩
      have sl_a : sl ≠ a := ne_of hsl D.ob (by intro z; cases z)
      have k1 : ∀ b o, H b = some o → b ≠ sl → upd H sl (.lst (os'.map V.int)) b = some o := fun b o q n => by rw [upd_ne n]; exact q
      have sl1 : upd H sl (.lst (os'.map V.int)) sl = some (.lst (os'.map V.int)) := upd_same
      have eE : (V.int o :: os'.map V.int).eraseIdx 0 = os'.map V.int := rfl
      show tNil _ (upd H sl (.lst (os'.map V.int))) _
      generalize upd H sl (.lst (os'.map V.int)) = H1 at k1 sl1 ⊢
      have fr1 : ∀ {p}, H1 p = none → H p = none := fun {p} hp => by
        cases e : H p with
        | none => rfl
        | some o =>
          have := k1 p o e (fun z => by rw [z, sl1] at hp; cases hp)
          rw [hp] at this; cases this
      have a1 := k1 _ _ D.ob sl_a.symm
      have l1 := k1 _ _ D.lf nsl.symm
      refine ⟨(by show 2 ≤ sizeLine; decide), fun q hq => ⟨(by show 1 ≤ sizeLine; decide), fun rq hrq => ?_⟩⟩
      have s3 := up1 (o := HO.tup [V.str "read", V.int o]) hq
      have e3 : upd H1 q (HO.tup [V.str "read", V.int o]) q = _ := upd_same
      generalize upd H1 q (HO.tup [V.str "read", V.int o]) = H3 at s3 e3 hrq ⊢
      have s4 := up1 (o := HO.lst [V.ref q]) hrq
      have e4 : upd H3 rq (HO.lst [V.ref q]) rq = _ := upd_same
      generalize upd H3 rq (HO.lst [V.ref q]) = H4 at s4 e4 ⊢
      refine ⟨_, rfl, a, CE, dx, _, gSl, rfl, s4 _ _ (s3 _ _ a1), TC.cl, b1, rfl, fun qm hqm => ?_⟩
      have s5 := up1 (o := HO.met gSl a) hqm
      have e5 : upd H4 qm (HO.met gSl a) qm = _ := upd_same
      generalize upd H4 qm (HO.met gSl a) = H5 at s5 e5 ⊢
      have s15 := s3.trans (s4.trans s5)
      have a5 := s15 _ _ a1
      refine ⟨a, dx, l, rq, _, _, .ref qm, left, lvrest st sl ep, .ref q, [], rfl, ⟨a5, s15 _ _ l1⟩, (by show 4 < 900; decide), s5 _ _ e4, fun H6 l' hl' D6 kp6 => ?_⟩
      have q5 := s5 _ _ (s4 _ _ e3)
      exact k H6 q l' qm (fr1 hq) (fr1 (s15.free hl')) (fr1 ((s3.trans s4).free hqm)) (kp6 _ _ q5 (ne_of q5 a5 (by intro z; cases z))) (kp6 _ _ e5 (ne_of e5 a5 (by intro z; cases z))) D6 (kp6 _ _ (s15 _ _ sl1) sl_a) fun b o e n2 n3 => kp6 b o (s15 _ _ (k1 b o e n3)) n2
    · refine ⟨_, rfl, a, CE, dx, _, _, rfl, D.ob, TC.cl, TV.nL, rfl, false, .inl ⟨_, SqL.of hsl, rfl⟩, iteF ?_⟩
      refine ⟨_, rfl, a, dx, _, rfl, D.ob, rfl, _, rfl, a, CE, dx, _, _, rfl, D.ob, TC.cl, TV.nE, rfl, _, rfl, a, CE, dx, _, _, rfl, D.ob, TC.cl, TV.nP, rfl, _, rfl, a, CE, dx, _, _, rfl, D.ob, TC.cl, TV.nP, rfl, _, _, rfl, rfl, (by show 4 ≤ sizeLine; decide), fun q hq => ⟨(by show 1 ≤ sizeLine; decide), fun rq hrq => ?_⟩⟩
      have s3 := up1 (o := HO.tup [V.str "swap", V.int 0, V.int ep, V.int (ep + 1)]) hq
      have e3 : upd H q (HO.tup [V.str "swap", V.int 0, V.int ep, V.int (ep + 1)]) q = _ := upd_same
      generalize upd H q (HO.tup [V.str "swap", V.int 0, V.int ep, V.int (ep + 1)]) = H3 at s3 e3 hrq ⊢
      have s4 := up1 (o := HO.lst [V.ref q]) hrq
      have e4 : upd H3 rq (HO.lst [V.ref q]) rq = _ := upd_same
      generalize upd H3 rq (HO.lst [V.ref q]) = H4 at s4 e4 ⊢
      refine ⟨_, rfl, a, CE, dx, _, gSw, rfl, s4 _ _ (s3 _ _ D.ob), TC.cl, b2, rfl, fun qm hqm => ?_⟩
      have s5 := up1 (o := HO.met gSw a) hqm
      have e5 : upd H4 qm (HO.met gSw a) qm = _ := upd_same
      generalize upd H4 qm (HO.met gSw a) = H5 at s5 e5 ⊢
      have s15 := s3.trans (s4.trans s5)
      have a5 := s15 _ _ D.ob
      refine ⟨a, dx, l, rq, _, _, .ref qm, left, lvrest st sl ep, .ref q, [], rfl, ⟨a5, s15 _ _ D.lf⟩, (by show 4 < 900; decide), s5 _ _ e4, fun H6 l' hl' D6 kp6 => ?_⟩
      have q5 := s5 _ _ (s4 _ _ e3)
      exact k H6 q l' qm hq (s15.free hl') ((s3.trans s4).free hqm) (kp6 _ _ q5 (ne_of q5 a5 (by intro z; cases z))) (kp6 _ _ e5 (ne_of e5 a5 (by intro z; cases z))) D6 fun b o e n2 => kp6 b o (s15 _ _ e) n2
theorem scLvSlot : FnScope ["self", "result", "held"] ["self", "result"] (defScope sLvSlot) := ⟨rfl, rfl, rfl, by decide +kernel, rfl, by decide +kernel, by decide +kernel⟩
theorem mo_lvslot (F : MT K CE "_take_slot" "Leaving._take_slot" sLvSlot ["self", "result"]) (TV : VTx K CE) (GIs : GO P w K mg base CX0 1 "is_same" ["one", "other"] (spIsSameD K)) (GLk : MO P w K mg base CX0 CE 2 "_look" ["self"] (spLvLook CE gSl gSw)) (GFw : MO P w K mg base CX0 CE 3 "_free_waiting" ["self", "known"] (spLvFree S CE)) : MO P w K mg base CX0 CE 4 "_take_slot" ["self", "result"] (spLvSlot CE S gSl gSw) := by
  obtain ⟨f, fd, F, hm, hb⟩ := F
  refine ⟨f, fd, ?_, hm, hb⟩
  refine F.ok scLvSlot (fun vs H Q E h => ?_) (fun cdv A outer s H vs Q E hr h => ?_)
  · obtain ⟨a, dx, l, st, sl, p, wv, th, left, ep, c, held, rfl, _⟩ := h
    rfl
  · obtain ⟨a, dx, l, st, sl, p, wv, th, left, ep, c, held, rfl, D, hp, hc⟩ := h
    have nd := scLvSlot.nd
    have hr1 : Room 1 _ := hr.mono (by decide)
    have hr2 : Room 2 _ := hr.mono (by decide)
    have hr3 : Room 3 _ := hr
    have TC := TV.m
    refine ⟨_, (pss_cons (ps_set (i := 2) nd rfl (Or.inl rfl) (pe_ix ix_tup (pv 1) pe_int (fun _ _ => rfl)))
  (pss_one (ps_if (PW.pt (pw_or (pt_cmpR op_isN (pv 2) pe_non (nomark _)) (pw_or1 (pt_val (pc_ GIs hr1 (pa_cons (pv 2) (pa_cons (pe_fld (pv 0) rfl) pa_nil)))))))
  (pss_one (ps_expr (pm0_ GLk TC.cl hr2 (pv 0))))
  (pss_one (ps_expr (pm_ GFw TC.cl hr3 (pv 0) (pa_cons (pe_fld (pv 0) rfl) pa_nil))))))), ?_⟩
    refine ⟨_, rfl, p, _, 0, _, rfl, rfl, SqT.of hp, at_head, ?_⟩
    rcases hc with ⟨rfl, k⟩ | ⟨h, rfl, hc⟩
    · refine ⟨_, rfl, rfl, _, rfl, iteT ?_⟩
      exact ⟨_, rfl, a, dx, _, rfl, D.ob, rfl, k⟩
    · refine ⟨_, rfl, rfl, _, rfl, iteF ?_⟩
      have hd : DV K H (.int h) (.sc (.int h)) := (Dvl.int h).d
      refine ⟨_, rfl, _, rfl, a, CE, dx, _, _, rfl, D.ob, TC.cl, TV.nP, rfl, .int h, .int ep, .sc (.int h), .sc (.int ep), rfl, hd, (Dvl.int ep).d, (Dvl.int (K := K) (H := H) h).o, (Dvl.int (K := K) (H := H) ep).o, (by show 1 < sizeLine; decide), fun b H1 s1 hb => ⟨_, rfl, ?_⟩⟩
      rcases hc with ⟨rfl, k⟩ | ⟨ne, k⟩
      · rw [hb.mpr rfl]
        exact iteT ⟨_, rfl, a, dx, _, rfl, s1 _ _ D.ob, rfl, k H1 s1⟩
      · have eb : b = false := by
          cases b with
          | false => rfl
          | true =>
            have := hb.mp rfl
            injection this with z
            injection z with z
            exact absurd z ne
        rw [eb]
        exact iteF ⟨_, rfl, a, dx, _, rfl, s1 _ _ D.ob, rfl, _, rfl, a, CE, dx, _, _, rfl, s1 _ _ D.ob, TC.cl, TV.nP, rfl, k H1 s1⟩
theorem scLvSwap : FnScope ["self", "result"] ["self", "result"] (defScope sLvSwap) := ⟨rfl, rfl, rfl, by decide +kernel, rfl, by decide +kernel, by decide +kernel⟩
theorem mo_lvswap (F : MT K CE "_take_swap" "Leaving._take_swap" sLvSwap ["self", "result"]) (TV : VTx K CE) (GFw : MO P w K mg base CX0 CE 3 "_free_waiting" ["self", "known"] (spLvFree S CE)) : MO P w K mg base CX0 CE 4 "_take_swap" ["self", "result"] (spLvSwap CE S) := by
  obtain ⟨f, fd, F, hm, hb⟩ := F
  refine ⟨f, fd, ?_, hm, hb⟩
  refine F.ok scLvSwap (fun vs H Q E h => ?_) (fun cdv A outer s H vs Q E hr h => ?_)
  · obtain ⟨a, dx, l, st, sl, p, wv, th, left, ep, c, b, rfl, _⟩ := h
    rfl
  · obtain ⟨a, dx, l, st, sl, p, wv, th, left, ep, c, b, rfl, D, hp, k⟩ := h
    have hr3 : Room 3 _ := hr
    have TC := TV.m
    refine ⟨_, (pss_one (ps_expr (pm_ GFw TC.cl hr3 (pv 0) (pa_cons (pe_ifExp (pt_truth (pe_ix ix_tup (pv 1) pe_int (fun _ _ => rfl)) (by intro _; rfl)) (pe_op op_add (pe_fld (pv 0) rfl) pe_int) (pe_fld (pv 0) rfl)) pa_nil)))), ?_⟩
    refine ⟨_, rfl, a, dx, _, rfl, D.ob, rfl, _, rfl, p, _, 0, _, rfl, rfl, SqT.of hp, at_head, b, rfl, ?_⟩
    cases b with
    | true => exact iteT ⟨_, rfl, a, CE, dx, _, _, rfl, D.ob, TC.cl, TV.nP, rfl, _, _, rfl, rfl, k⟩
    | false => exact iteF ⟨_, rfl, a, CE, dx, _, _, rfl, D.ob, TC.cl, TV.nP, rfl, k⟩
theorem scLvEp : FnScope ["self", "result"] ["self", "result"] (defScope sLvEp) := ⟨rfl, rfl, rfl, by decide +kernel, rfl, by decide +kernel, by decide +kernel⟩
theorem mo_lvep (F : MT K CE "_take_epoch" "Leaving._take_epoch" sLvEp ["self", "result"]) (TV : VTx K CE) (GLk : MO P w K mg base CX0 CE 2 "_look" ["self"] (spLvLook CE gSl gSw)) : MO P w K mg base CX0 CE 4 "_take_epoch" ["self", "result"] (spLvEp CE gSl gSw) := by
  obtain ⟨f, fd, F, hm, hb⟩ := F
  refine ⟨f, fd, ?_, hm, hb⟩
  refine F.ok scLvEp (fun vs H Q E h => ?_) (fun cdv A outer s H vs Q E hr h => ?_)
  · obtain ⟨a, dx, l, st, sl, p, wv, th, left, ep, e, c, rfl, _⟩ := h
    rfl
  · obtain ⟨a, dx, l, st, sl, p, wv, th, left, ep, e, c, rfl, D, hp, k⟩ := h
    have hr2 : Room 2 _ := hr.mono (by decide)
    have TC := TV.m
    refine ⟨_, (pss_cons (ps_fld (pv 0) (pe_ix ix_tup (pv 1) pe_int (fun _ _ => rfl)) rfl)
  (pss_one (ps_expr (pm0_ GLk TC.cl hr2 (pv 0))))), ?_⟩
    refine ⟨_, rfl, p, _, 0, _, rfl, rfl, SqT.of hp, at_head, _, rfl, a, CE, dx, _, rfl, D.ob, TC.cl, TV.nP, (by show 7 < 1000; decide), ?_⟩
    have l_a : l ≠ a := ne_of D.lf D.ob (by intro z; cases z)
    exact ⟨_, rfl, a, dx, _, rfl, upd_same, rfl, k _ ⟨upd_same, by rw [upd_ne l_a]; exact D.lf⟩ fun b o q n => by rw [upd_ne n]; exact q⟩
theorem scLvLv : FnScope ["self", "slot", "requests"] ["self"] (defScope sLvLv) := ⟨rfl, rfl, rfl, by decide +kernel, rfl, by decide +kernel, by decide +kernel⟩
theorem mo_lvleave (F : MT K CE "_leave" "Leaving._leave" sLvLv ["self"]) (TV : VTx K CE) (TL : LTxt K mg C) (T : STxt K mg S) (b1 : BMeth K CE "_take_epoch" gEp) (b2 : BMeth K CE "_end_here" gHe) (GAs : MO P w K mg base CX0 CE 1 "_ask" ["self", "requests", "then"] (spMaAsk CE))
    (GEs : MO P w K mg base CX0 C 1 "epoch_slot" ["self", "thread"] (spL1 C fun _ _ _ i => .int (1 + i))) (GHw : MO P w K mg base CX0 S 1 "has_waiting" ["self"] (spHasWait S)) : MO P w K mg base CX0 CE 2 "_leave" ["self"] (spLvLeave C S CE gEp gHe) := by
  obtain ⟨f, fd, F, hm, hb⟩ := F
  refine ⟨f, fd, ?_, hm, hb⟩
  refine F.ok scLvLv (fun vs H Q E h => ?_) (fun cdv A outer s H vs Q E hr h => ?_)
  · obtain ⟨a, dx, l, st, sl, la, wv, th, left, ep, t, wd, r, thr, fa, wa, oa, fr, out, rows, rfl, _⟩ := h
    rfl
  · obtain ⟨a, dx, l, st, sl, la, wv, th, left, ep, t, wd, r, thr, fa, wa, oa, fr, out, rows, rfl, D, R, ⟨da, hla⟩, hc⟩ := h
    have nd := scLvLv.nd
    have hr1 : Room 1 _ := hr
    have hrA : Room 1 _ := hr
    have TC := TV.m
    obtain ⟨ds, hst⟩ := id R.ob
    refine ⟨_, (pss_cons (ps_set (i := 1) nd rfl (Or.inl rfl) (pm_ GEs TL.cl hr1 (pe_fld (pe_fld (pv 0) rfl) rfl) (pa_cons (pe_fld (pe_fld (pv 0) rfl) rfl) pa_nil)))
  (pss_cons (ps_set (i := 2) nd rfl (Or.inl rfl) (pe_lst (pa_cons (pe_tup (pa_cons pe_str (pa_cons (pv 1) (pa_cons pe_non pa_nil)))) pa_nil)))
  (pss_one (ps_if (pt_val (pm0_ GHw T.cl hr1 (pe_fld (pv 0) rfl)))
  (pss_one (ps_expr (pm_ GAs TC.cl hrA (pv 0) (pa_cons (pe_lst (pa_star (pv 2) (pa_cons (pe_tup (pa_cons pe_str (pa_cons (pe_fld (pv 0) rfl) pa_nil))) pa_nil))) (pa_cons (Mr.pe_bm_ (pv 0)) pa_nil)))))
  (pss_one (ps_expr (pm_ GAs TC.cl hrA (pv 0) (pa_cons (pv 2) (pa_cons (Mr.pe_bm_ (pv 0)) pa_nil))))))))), ?_⟩
    refine ⟨_, rfl, a, CE, dx, _, _, rfl, D.ob, TC.cl, TV.nS, rfl, st, S, ds, _, _, rfl, hst, T.cl, T.nL, rfl, la, da, _, rfl, hla, rfl, _, rfl, a, CE, dx, _, _, rfl, D.ob, TC.cl, TV.nS, rfl, st, S, ds, _, _, rfl, hst, T.cl, T.nT, rfl, la, _, _, _, _, rfl, ⟨da, hla⟩, ?_⟩
    refine ⟨_, rfl, (by show 3 ≤ sizeLine; decide), fun q1 hq1 => ⟨(by show 1 ≤ sizeLine; decide), fun l1 hl1 => ?_⟩⟩
    have s1 := up1 (o := HO.tup [V.str "write", V.int (1 + (thr : Int)), V.non]) hq1
    have e1 : upd H q1 (HO.tup [V.str "write", V.int (1 + (thr : Int)), V.non]) q1 = _ := upd_same
    generalize upd H q1 (HO.tup [V.str "write", V.int (1 + (thr : Int)), V.non]) = H1 at s1 e1 hl1 ⊢
    have s2 := up1 (o := HO.lst [V.ref q1]) hl1
    have e2 : upd H1 l1 (HO.lst [V.ref q1]) l1 = _ := upd_same
    generalize upd H1 l1 (HO.lst [V.ref q1]) = H2 at s2 e2 ⊢
    have s02 := s1.trans s2
    have D2 : MaAt CE H2 a dx wv l th left (lvrest st sl ep) := D.same s02
    refine ⟨_, rfl, a, CE, dx, _, _, rfl, D2.ob, TC.cl, TV.nS, rfl, st, ds, _, rfl, s02 _ _ hst, rfl, st, la, _, fa, wa, oa, fr, out, rows, rfl, R.same s02, _, rfl, ?_⟩
    rcases hc with ⟨ne, k⟩ | ⟨rfl, k⟩
    · have eb : (!rows.isEmpty) = true := by cases rows with
        | nil => exact absurd rfl ne
        | cons _ _ => rfl
      rw [eb]
      refine iteT ⟨_, rfl, a, dx, _, rfl, D2.ob, rfl, _, rfl, l1, _, rfl, .inr (SqL.of e2), ?_⟩
      refine ⟨_, rfl, a, CE, dx, _, _, rfl, D2.ob, TC.cl, TV.nE, rfl, (by show 2 ≤ sizeLine; decide), fun q2 hq2 => ⟨(by show 2 ≤ sizeLine; decide), fun rq hrq => ?_⟩⟩
      have s3 := up1 (o := HO.tup [V.str "read", V.int 0]) hq2
      have e3 : upd H2 q2 (HO.tup [V.str "read", V.int 0]) q2 = _ := upd_same
      generalize upd H2 q2 (HO.tup [V.str "read", V.int 0]) = H3 at s3 e3 hrq ⊢
      have s4 := up1 (o := HO.lst [V.ref q1, V.ref q2]) hrq
      have e4 : upd H3 rq (HO.lst [V.ref q1, V.ref q2]) rq = some (HO.lst [V.ref q1, V.ref q2]) := upd_same
      obtain ⟨H4, hH4⟩ : ∃ H4, H4 = upd H3 rq (HO.lst [V.ref q1, V.ref q2]) := ⟨_, rfl⟩
      rw [← hH4] at s4 e4
      have s24 := s3.trans s4
      have D4 := D2.same s24
      refine ⟨_, rfl, a, CE, dx, _, gEp, rfl, (by rw [hH4] at D4; exact D4.ob), TC.cl, b1, rfl, fun qm hqm => ?_⟩
      have hqm' : H4 qm = none := by rw [hH4]; exact hqm
      have s5 := up1 (o := HO.met gEp a) hqm'
      have e5 : upd H4 qm (HO.met gEp a) qm = _ := upd_same
      have D5 := D4.same s5
      have s05 := s02.trans (s24.trans s5)
      subst hH4
      refine ⟨a, dx, l, rq, _, _, .ref qm, left, lvrest st sl ep, .ref q1, [.ref q2], rfl, D5, (by show 4 < 900; decide), s5 _ _ e4, fun H6 l' hl' D6 kp6 => ?_⟩
      have q1_5 := s5 _ _ (s24 _ _ (s2 _ _ e1))
      have q2_5 := s5 _ _ (s4 _ _ e3)
      exact k H6 q1 q2 l' qm hq1 (s02.free hq2) (s05.free hl') ((s02.trans s24).free hqm') (kp6 _ _ q1_5 (ne_of q1_5 D5.ob (by intro z; cases z))) (kp6 _ _ q2_5 (ne_of q2_5 D5.ob (by intro z; cases z))) (kp6 _ _ e5 (ne_of e5 D5.ob (by intro z; cases z))) D6 fun b o e n2 => kp6 b o (s05 _ _ e) n2
    · refine iteF ⟨_, rfl, a, dx, _, rfl, D2.ob, rfl, _, rfl, ?_⟩
      refine ⟨_, rfl, a, CE, dx, _, gHe, rfl, D2.ob, TC.cl, b2, rfl, fun qm hqm => ?_⟩
      have s5 := up1 (o := HO.met gHe a) hqm
      have e5 : upd H2 qm (HO.met gHe a) qm = _ := upd_same
      generalize upd H2 qm (HO.met gHe a) = H5 at s5 e5 ⊢
      have D5 := D2.same s5
      refine ⟨a, dx, l, l1, _, _, .ref qm, left, lvrest st sl ep, .ref q1, [], rfl, D5, (by show 4 < 900; decide), s5 _ _ e2, fun H6 l' hl' D6 kp6 => ?_⟩
      have q5 := s5 _ _ (s2 _ _ e1)
      exact k H6 q1 l' qm hq1 ((s02.trans s5).free hl') (s02.free hqm) (kp6 _ _ q5 (ne_of q5 D5.ob (by intro z; cases z))) (kp6 _ _ e5 (ne_of e5 D5.ob (by intro z; cases z))) D6 fun b o e n2 => kp6 b o ((s02.trans s5) _ _ e) n2
theorem scLvSt : FnScope ["self", "result"] ["self", "result"] (defScope sLvSt) := ⟨rfl, rfl, rfl, by decide +kernel, rfl, by decide +kernel, by decide +kernel⟩
theorem mo_lvstamp (F : MT K CE "_take_stamp" "Leaving._take_stamp" sLvSt ["self", "result"]) (TV : VTx K CE) (T : STxt K mg S) (GSm : MO P w K mg base CX0 S 1 "stamp" ["self", "epoch"] (spStamp S)) (GLv : MO P w K mg base CX0 CE 2 "_leave" ["self"] (spLvLeave C S CE gEp gHe)) : MO P w K mg base CX0 CE 4 "_take_stamp" ["self", "result"] (spLvStamp C S CE gEp gHe) := by
  obtain ⟨f, fd, F, hm, hb⟩ := F
  refine ⟨f, fd, ?_, hm, hb⟩
  refine F.ok scLvSt (fun vs H Q E h => ?_) (fun cdv A outer s H vs Q E hr h => ?_)
  · obtain ⟨a, dx, l, st, sl, la, p, wv, th, left, ep, e, c, t, fa, wa, oa, fr, out, rows, rfl, _⟩ := h
    rfl
  · obtain ⟨a, dx, l, st, sl, la, p, wv, th, left, ep, e, c, t, fa, wa, oa, fr, out, rows, rfl, D, n1, R, hz, hp, k⟩ := h
    have hr1 : Room 1 _ := hr.mono (by decide)
    have hr2 : Room 2 _ := hr.mono (by decide)
    have TC := TV.m
    obtain ⟨ds, hst⟩ := id R.ob
    refine ⟨_, (pss_cons (ps_expr (pm_ GSm T.cl hr1 (pe_fld (pv 0) rfl) (pa_cons (pe_ix ix_tup (pv 1) pe_int (fun _ _ => rfl)) pa_nil)))
  (pss_one (ps_expr (pm0_ GLv TC.cl hr2 (pv 0))))), ?_⟩
    refine ⟨_, rfl, a, CE, dx, _, _, rfl, D.ob, TC.cl, TV.nS, rfl, st, ds, _, rfl, hst, rfl, _, rfl, p, _, 0, _, rfl, rfl, SqT.of hp, at_head, st, la, t, fa, wa, oa, fr, out, rows, e, rfl, R, hz, fun H1 p' oa' np no R1 kp => ?_⟩
    exact ⟨_, rfl, a, dx, _, rfl, kp _ _ D.ob n1.symm (fun z => by have h := D.ob; rw [z, R.w] at h; cases h), rfl, k H1 p' oa' np no R1 kp⟩
theorem scOther : FnScope ["store", "layout", "thread"] ["store"] (defScope sOther) := ⟨rfl, rfl, rfl, by decide +kernel, rfl, by decide +kernel, by decide +kernel⟩
theorem go_other (F : GT K mg "other_slots" sOther ["store"]) (B0 : Bn mg) (TL : LTxt K mg C) (T : STxt K mg S) (GEs : MO P w K mg base CX0 C 1 "epoch_slot" ["self", "thread"] (spL1 C fun _ _ _ i => .int (1 + i))) : GO P w K mg base CX0 2 "other_slots" ["store"] (spOther C S) := by
  obtain ⟨f, fd, F, hm, hb⟩ := F
  refine ⟨f, fd, ?_, hm, F.kp, hb⟩
  refine F.ok scOther (fun vs H Q E h => ?_) (fun cdv A outer s H vs Q E hr h => ?_)
  · obtain ⟨st, la, t, thr, wd, r, fa, wa, oa, fr, out, rows, rfl, _⟩ := h
    rfl
  · obtain ⟨st, la, t, thr, wd, r, fa, wa, oa, fr, out, rows, rfl, R, ⟨da, hla⟩, hz, k⟩ := h
    have nd := scOther.nd
    have hr1 : Room 1 _ := hr
    have hsl : sizeLine = 16777216 := sizeLine_eq
    obtain ⟨ds, hst⟩ := R.ob
    refine ⟨_, (pss_cons (ps_set (i := 1) nd rfl (Or.inr rfl) (pe_fld (pv 0) rfl))
  (pss_one (ps_ret (pe_lc (own := [("thread", 2)]) (g := (gName 2)) (tt := tTest (tOp rNe (tVar 2) (tFld K (tVar 0) "thread"))) rfl nd (pi_range1 (by rfl) B0.range (pa_cons (pe_fld (pv 1) rfl) pa_nil)) (blkOk_by (N := ["store", "layout", "thread"]) (sc := defScope sOther) (by decide +kernel)) (fun _ _ _ _ _ => (pg_name (i := 2) nd rfl (Or.inl rfl))) (fun _ _ _ _ _ => pts_one (pt_cmpR op_ne (pv 2) (pe_fld (pv 0) rfl) (nomark _))) (fun _ _ _ _ _ => (pm_ GEs TL.cl hr1 (pv 1) (pa_cons (pv 2) pa_nil))))))), ?_⟩
    refine ⟨_, rfl, st, S, ds, _, _, rfl, hst, T.cl, T.nL, rfl, ?_⟩
    refine ⟨_, rfl, la, C, da, _, _, rfl, hla, TL.cl, TL.nT, rfl, _, rfl, (by omega), (by omega), fun D hD => lc_range (lo := 0) (n := (t : Int).toNat) (fun i H' => H' D = some (.lst ((others thr i).map V.int)) ∧ Same H H') ⟨upd_same, up1 hD⟩ ?_ ?_⟩
    · rintro i H' hi ⟨hD', s1⟩
      have eo : others thr (i + 1) = others thr i ++ (if i ≠ thr then [1 + (i : Int)] else []) := by
        unfold others
        rw [List.range_succ, List.filter_append, List.map_append, List.filter_cons]
        by_cases c : i = thr
        · rw [if_neg (by simpa using c), if_neg (by simpa using c)]; rfl
        · rw [if_pos (by simpa using c), if_pos c]; rfl
      refine ⟨rfl, _, rfl, _, rfl, st, S, ds, _, _, rfl, s1 _ _ hst, T.cl, T.nT, rfl, rfl, _, rfl, ?_⟩
      by_cases c : i = thr
      · rw [decide_eq_true (show V.int (0 + (i : Int)) = V.int (thr : Int) from congrArg V.int (by omega))]
        refine iteF ⟨?_, s1⟩
        rw [eo, if_neg (by simpa using c), List.append_nil]
        exact hD'
      · rw [decide_eq_false (show ¬ (V.int (0 + (i : Int)) = V.int (thr : Int)) from fun z => c (by have := V.int.inj z; omega))]
        refine iteT ⟨_, rfl, la, da, _, rfl, s1 _ _ hla, rfl, _, rfl, la, _, _, _, _, rfl, ⟨da, s1 _ _ hla⟩, _, hD', ?_, ?_, fun b o e => by rw [upd_ne (ne_of_none e hD)]; exact s1 b o e⟩
        · rw [List.length_map]
          unfold others
          rw [List.length_map]
          have := List.length_filter_le (fun i => decide (i ≠ thr)) (List.range i)
          rw [List.length_range] at this
          have : i < (t : Int).toNat := hi
          omega
        · rw [upd_same, eo, if_pos c, List.map_append, show (0 : Int) + (i : Int) = (i : Int) by omega]
          rfl
    · rintro H' ⟨hD', s1⟩
      exact k H' D hD hD' s1
theorem scLvInit : FnScope ["self", "store"] ["self", "store"] (defScope sLvInit) := ⟨rfl, rfl, rfl, by decide +kernel, rfl, by decide +kernel, by decide +kernel⟩
theorem ok_lvinit {f fMi Ma : Addr} {fd : FuncData} (F : Fun K "__init__" "Leaving.__init__" sLvInit f fd) (TV : VTx K CE) (TL : LTxt K mg C) (T : STxt K mg S) (gMa : mg "Machine" = some (.ref Ma)) (cMi : Mr.CFn K Ma "__init__" fMi) (FMi : FnR P w K mg base CX0 1 fMi (spMaInit CE)) (bs : BMeth K CE "_take_stamp" gSt)
    (GEp : MO P w K mg base CX0 C 1 "epoch" ["self"] (spL0 C fun _ _ _ => .int 0)) (GOs : GO P w K mg base CX0 2 "other_slots" ["store"] (spOther C S)) (GHo : MO P w K mg base CX0 S 1 "has_taken_out" ["self"] (spHasOut S)) (GLv : MO P w K mg base CX0 CE 2 "_leave" ["self"] (spLvLeave C S CE gEp gHe)) (GAs : MO P w K mg base CX0 CE 1 "_ask" ["self", "requests", "then"] (spMaAsk CE)) :
    FnOk P w K mg base CX0 3 f fd ["self", "store"] (spLvInit C S CE gSt gEp gHe) := by
  refine F.ok scLvInit (fun vs H Q E h => ?_) (fun cdv A outer s H vs Q E hr h => ?_)
  · obtain ⟨a, dx, st, la, t, thr, wd, r, fa, wa, oa, fr, out, rows, rfl, _⟩ := h
    rfl
  · obtain ⟨a, dx, st, la, t, thr, wd, r, fa, wa, oa, fr, out, rows, rfl, ha, R, ⟨da, hla⟩, hz, hc⟩ := h
    have hr1 : Room 1 _ := hr.mono (by decide)
    have hr2 : Room 2 _ := hr
    have TC := TV.m
    have hrA : Room 1 _ := hr.mono (by decide)
    refine ⟨_, (pss_cons (ps_expr (Mr.pe_cls rfl gMa cMi FMi hr1 (pa_cons (pv 0) pa_nil)))
  (pss_cons (ps_fld (pv 0) (pv 1) rfl)
  (pss_cons (ps_fld (pv 0) (pm0_ GEp TL.cl hr1 (pe_fld (pv 1) rfl)) rfl)
  (pss_cons (ps_fld (pv 0) (pc_ GOs hr2 (pa_cons (pv 1) pa_nil)) rfl)
  (pss_cons (ps_fld (pv 0) pe_int rfl)
  (pss_one (ps_if (pt_val (pm0_ GHo T.cl hr1 (pv 1)))
  (pss_one (ps_expr (pm_ GAs TC.cl hrA (pv 0) (pa_cons (pe_lst (pa_cons (pe_tup (pa_cons pe_str (pa_cons (pe_fld (pv 0) rfl) pa_nil))) pa_nil)) (pa_cons (Mr.pe_bm_ (pv 0)) pa_nil)))))
  (pss_one (ps_expr (pm0_ GLv TC.cl hr2 (pv 0))))))))))), ?_⟩
    obtain ⟨ds, hst⟩ := id R.ob
    have st_a : st ≠ a := ne_of hst ha (by intro z; cases z)
    refine ⟨_, rfl, a, dx, rfl, ha, fun H1 e l he hl h1 D1 kp1 => ?_⟩
    have la_a : la ≠ a := ne_of hla ha (by intro z; cases z)
    have hst1 := kp1 _ _ hst st_a
    have hla1 := kp1 _ _ hla la_a
    have R1 := R.kept ha st_a.symm kp1
    have hk : ∀ {b : Addr} {o o' : HO}, H1 b = some o → b ≠ a → upd H1 a o' b = some o := fun {b o o'} q n => by rw [upd_ne n]; exact q
    have l_a : l ≠ a := ne_of D1.lf D1.ob (by intro z; cases z)
    refine ⟨_, rfl, _, rfl, a, CE, dx, _, rfl, D1.ob, TC.cl, TV.nS, (by show 3 < 1000; decide), ?_⟩
    refine ⟨_, rfl, st, S, ds, _, _, rfl, hk hst1 st_a, T.cl, T.nL, rfl, la, da, _, rfl, hk hla1 la_a, rfl, la, _, _, _, rfl, ⟨da, hk hla1 la_a⟩, _, rfl, a, CE, dx, _, rfl, upd_same, TC.cl, TV.nE, (by show 4 < 1000; decide), ?_⟩
    generalize hH2 : upd (upd H1 a _) a _ = H2
    have kp2 : Kept a H1 H2 := fun b o q n => by rw [← hH2, upd_ne n, upd_ne n]; exact q
    have a2 : H2 a = some (.ins CE dx (mfs (.ref e) l .non [("_store", .ref st), ("_epoch_cell", .int 0)])) := by rw [← hH2]; exact upd_same
    have R2 := R1.kept D1.ob st_a.symm kp2
    have hla2 := kp2 _ _ hla1 la_a
    refine ⟨_, rfl, st, la, t, thr, wd, r, fa, wa, oa, fr, out, rows, rfl, R2, ⟨da, hla2⟩, hz, fun H3 sl nsl esl s3 => ⟨_, rfl, a, CE, dx, _, rfl, s3 _ _ a2, TC.cl, TV.nL, (by show 5 < 1000; decide), ?_⟩⟩
    refine ⟨_, rfl, a, CE, dx, _, rfl, upd_same, TC.cl, TV.nP, (by show 6 < 1000; decide), ?_⟩
    generalize hH4 : upd (upd H3 a _) a _ = H4
    have kp4 : Kept a H3 H4 := fun b o q n => by rw [← hH4, upd_ne n, upd_ne n]; exact q
    have a4 : H4 a = some (.ins CE dx (mfs (.ref e) l .non (lvrest st sl 0))) := by rw [← hH4]; exact upd_same
    have R4 := (R2.same s3).kept (s3 _ _ a2) st_a.symm kp4
    have l4 := kp4 _ _ (s3 _ _ (kp2 _ _ D1.lf l_a)) l_a
    have sl_a : sl ≠ a := ne_of esl (s3 _ _ a2) (by intro z; cases z)
    have sl4 := kp4 _ _ esl sl_a
    have k04 : Kept a H H4 := ((kp1.trans kp2).trans (Kept.of s3)).trans kp4
    have nsl0 : H sl = none := (kp1.trans kp2).free nsl ⟨_, a2⟩
    have sl_l : sl ≠ l := fun z => by
      have h := kp2 _ _ D1.lf l_a
      rw [z, h] at nsl; cases nsl
    obtain ⟨ds4, hst4⟩ := id R4.ob
    refine ⟨_, rfl, st, ds4, _, rfl, hst4, rfl, st, la, _, fa, wa, oa, fr, out, rows, rfl, R4, _, rfl, ?_⟩
    rcases hc with ⟨ne, k⟩ | ⟨rfl, k⟩
    · have eb : (!out.isEmpty) = true := by cases out with
        | nil => exact absurd rfl ne
        | cons _ _ => rfl
      rw [eb]
      refine iteT ⟨_, rfl, a, dx, _, rfl, a4, rfl, _, rfl, a, CE, dx, _, _, rfl, a4, TC.cl, TV.nE, rfl, (by show 2 ≤ sizeLine; decide), fun q hq => ⟨(by show 1 ≤ sizeLine; decide), fun rq hrq => ?_⟩⟩
      have s5 := up1 (o := HO.tup [V.str "read", V.int 0]) hq
      have e5 : upd H4 q (HO.tup [V.str "read", V.int 0]) q = _ := upd_same
      generalize upd H4 q (HO.tup [V.str "read", V.int 0]) = H5 at s5 e5 hrq ⊢
      have s6 := up1 (o := HO.lst [V.ref q]) hrq
      have e6 : upd H5 rq (HO.lst [V.ref q]) rq = _ := upd_same
      generalize upd H5 rq (HO.lst [V.ref q]) = H6 at s6 e6 ⊢
      refine ⟨_, rfl, a, CE, dx, _, gSt, rfl, s6 _ _ (s5 _ _ a4), TC.cl, bs, rfl, fun qm hqm => ?_⟩
      have s7 := up1 (o := HO.met gSt a) hqm
      have e7 : upd H6 qm (HO.met gSt a) qm = _ := upd_same
      generalize upd H6 qm (HO.met gSt a) = H7 at s7 e7 ⊢
      have s47 := s5.trans (s6.trans s7)
      have a7 := s47 _ _ a4
      refine ⟨a, dx, l, rq, _, _, .ref qm, [], lvrest st sl 0, .ref q, [], rfl, ⟨a7, s47 _ _ l4⟩, (by show 4 < 900; decide), s7 _ _ e6, fun H8 l' hl' D8 kp8 => ?_⟩
      have q7 := s7 _ _ (s6 _ _ e5)
      have k07 : Kept a H H7 := k04.trans (Kept.of s47)
      exact k H8 q l' qm sl (k04.free hq ⟨_, a4⟩) (k07.free hl' ⟨_, a7⟩) ((k04.trans (Kept.of (s5.trans s6))).free hqm ⟨_, (s5.trans s6) _ _ a4⟩) nsl0 (ne_of_none (s47 _ _ sl4) hl') (kp8 _ _ q7 (ne_of q7 a7 (by intro z; cases z))) (kp8 _ _ e7 (ne_of e7 a7 (by intro z; cases z))) D8 (kp8 _ _ (s47 _ _ sl4) sl_a) (k07.trans kp8)
    · refine iteF ⟨_, rfl, a, dx, _, rfl, a4, rfl, k H4 _ _ _ l sl (hl) nsl0 sl_l ⟨a4, l4⟩ sl4 k04⟩
end
end Dk

set_option maxHeartbeats 4000000
/-! leaving: its accesses -/
namespace Dk
open PySem PySem.Spec PyProof.Rows L2
abbrev Ow (st fa wa oa : Addr) (rows : List Rw) : Addr → Prop := fun b => b = st ∨ b = fa ∨ b = wa ∨ b = oa ∨ ∃ r, r ∈ rows ∧ (b = r.p ∨ b = r.q)
theorem StAt.on {S : Addr} {H H' : Hp} {st la : Addr} {t : Int} {fa wa oa : Addr} {fr out : List Int} {rows : List Rw} (R : StAt S H st la t fa wa oa fr out rows) (k : ∀ b o, Ow st fa wa oa rows b → H b = some o → H' b = some o) : StAt S H' st la t fa wa oa fr out rows :=
  ⟨let ⟨x, h⟩ := R.ob; ⟨x, k _ _ (.inl rfl) h⟩, k _ _ (.inr (.inl rfl)) R.f, k _ _ (.inr (.inr (.inl rfl))) R.w, k _ _ (.inr (.inr (.inr (.inl rfl)))) R.o, fun r hr => ⟨k _ _ (.inr (.inr (.inr (.inr ⟨r, hr, .inl rfl⟩)))) (R.r r hr).1, k _ _ (.inr (.inr (.inr (.inr ⟨r, hr, .inr rfl⟩)))) (R.r r hr).2⟩, R.d⟩
/-- what the epoch becomes known to be, and the accesses it takes -/
def lvR (ps : List V) (ep : Int) : List Nat → Int × Nat
  | [] => (ep + 1, 1)
  | i :: os => if (ps[i]?).getD .non = .non ∨ (ps[i]?).getD .non = .int ep then ((lvR ps ep os).1, (lvR ps ep os).2 + 1) else (ep, 1)
structure LvS (C M S CE : Addr) (H : Hp) (m : Addr) (t w r B : Nat) (A : Adr) (X : MS) (Z : Addr → Prop) (a dx q l : Addr) (th : V) (left : List V) (st sl : Addr) (ep : Int) (la : Addr) (thr : Int) (fa wa oa : Addr) (fr out : List Int) (rows : List Rw) (os : List Nat) : Prop where
  s : MSt C M CE H m t w r B A X Z a dx q l th left (lvrest st sl ep)
  R : StAt S H st la thr fa wa oa fr out rows
  oz : ∀ b, Ow st fa wa oa rows b → Z b ∧ ¬ Foot m A (t + w + r) b ∧ b ≠ a ∧ b ≠ l ∧ b ≠ sl
  hs : H sl = some (.lst (os.map fun (i : Nat) => V.int (i : Int)))
  zs : Z sl
  fs : ¬ Foot m A (t + w + r) sl
  nl : sl ≠ l
/-- what is to be shown behind leaving -/
def FinP (C M S m : Addr) (t w r Bm : Nat) (st la : Addr) (thr : Int) (oa : Addr) (out fr : List Int) (rows : List Rw) (ps : List V) (cnt : Int) (known : Int) (k : Nat) (Qg : QG) (Z : Addr → Prop) (H : Hp) : Prop :=
  ∀ (H2 : Hp) (A' : Adr) (X' : MS) (B' : Nat) (Z' : Addr → Prop) (fa' wa' : Addr) (fr' : List Int), A'.a = la → MemAt C M H2 m t w r A' X' → SOk X' t (t + w + r) B' → B' ≤ Bm → X'.ps = ps.set 0 (.int known) → X'.count = cnt + (k : Int) → (∀ b, Foot m A' (t + w + r) b → Z' b) → Zst Z H Z' H2 →
    StAt S H2 st la thr fa' wa' oa fr' out (rows.filter fun r => decide (known - 3 < r.e)) → fr'.Perm (fr ++ upTo (known - 3) rows) → Asc fr' → (∀ b, Ow st fa' wa' oa (rows.filter fun r => decide (known - 3 < r.e)) b → Z' b ∧ ¬ Foot m A' (t + w + r) b) → Qg .non H2 A' X' B' Z'
theorem FinP.next {C M S m : Addr} {t w r Bm : Nat} {st la : Addr} {thr : Int} {oa : Addr} {out fr : List Int} {rows : List Rw} {ps : List V} {cnt : Int} {known : Int} {k : Nat} {Qg : QG} {Z Z1 : Addr → Prop} {H H1 : Hp} (f : FinP C M S m t w r Bm st la thr oa out fr rows ps cnt known (k + 1) Qg Z H) (z : Zst Z H Z1 H1) : FinP C M S m t w r Bm st la thr oa out fr rows ps (cnt + 1) known k Qg Z1 H1 :=
  fun H2 A' X' B' Z' fa' wa' fr' h1 h2 h3 h4 h5 h6 h7 h8 => f H2 A' X' B' Z' fa' wa' fr' h1 h2 h3 h4 h5 (by rw [h6]; omega) h7 (z.trans h8)
theorem lvrs {st sl : Addr} {ep : Int} : RsOk (lvrest st sl ep) := ⟨rfl, rfl, rfl, by show 4 < 900; decide⟩
section
variable {P : Program} {W : World} {K : PySem.W.Frag} {mg : Str → Option Value} {base : Heap} {C M S CE fac gSl gSw : Addr} {m : Addr} {t w r Bm th0 : Nat} {a dx : Addr} {st sl la : Addr} {ep : Int} {thr : Int} {oa : Addr} {fr out : List Int} {rows : List Rw} {Qg : QG}
/-- freeing what waits, and the end -/
theorem free_step {H H1 H1' : Hp} {B : Nat} {A A1 : Adr} {X X1 : MS} {Z : Addr → Prop} {q l : Addr} {th : V} {left : List V} {fa wa : Addr} {os : List Nat} {known cnt : Int} {ps : List V} {n : Nat} {ep0 : Int} (L : LvS C M S CE H m t w r B A X Z a dx q l th left st sl ep0 la thr fa wa oa fr out rows os) (ea : A1.a = A.a) (hla : A.a = la) (D1 : MemAt C M H1 m t w r A1 X1) (so1 : SOk X1 t (t + w + r) (B + 2)) (st1 : Step m (t + w + r) A H A1 H1)
    (kp1 : Same H1 H1') (hBm : B + 2 ≤ Bm) (hr : rows.length < 1000) (hf : fr.length + (upTo (known - 3) rows).length < 1000) (hps : X1.ps = ps.set 0 (.int known)) (hc : X1.count = cnt + 1) (fin : FinP C M S m t w r Bm st la thr oa out fr rows ps cnt known 1 Qg Z H)
    (Q' : Hp → Prop) (hQ' : ∀ H2 Z', Zst Z H Z' H2 → (Go P W K mg base 6 C M a CE dx m t w r th0 Qg n H2 A1 X1 (B + 2) Z' ∨ ∃ (q2 l2 : Addr) (th2 : V) (left2 : List V) (rest2 : List (Str × V)) (y : V), RsOk rest2 ∧ MSt C M CE H2 m t w r (B + 2) A1 X1 Z' a dx q2 l2 th2 left2 rest2 ∧ H2 q2 = some (.tup [.str "end", y]) ∧ Qg y H2 A1 X1 (B + 2) Z') → Q' H2) :
    spLvFree S CE [.ref a, .int known] H1' (fun _ H' => Q' H') E0 := by
  obtain ⟨M1, f1, f2⟩ := L.s.acc st1
  have own : ∀ b o, Ow st fa wa oa rows b → H b = some o → H1' b = some o := fun b o hb e => kp1 _ _ (st1.chg b o e (L.oz b hb).2.1)
  have R1 := L.R.on own
  have oal : ∀ b, Ow st fa wa oa rows b → ∃ o, H b = some o := fun b hb => by
    rcases hb with e | e | e | e | ⟨r, hr, e | e⟩
    · obtain ⟨x, h⟩ := L.R.ob; exact ⟨_, e ▸ h⟩
    · exact ⟨_, e ▸ L.R.f⟩
    · exact ⟨_, e ▸ L.R.w⟩
    · exact ⟨_, e ▸ L.R.o⟩
    · exact ⟨_, e ▸ (L.R.r r hr).1⟩
    · exact ⟨_, e ▸ (L.R.r r hr).2⟩
  have o1 : ∀ b, Ow st fa wa oa rows b → ¬ Foot m A1 (t + w + r) b := fun b hb => let ⟨o, e⟩ := oal b hb; (st1.out e (L.oz b hb).2.1).2
  refine ⟨a, dx, l, st, sl, la, _, th, left, ep0, known, thr, fa, wa, oa, fr, out, rows, rfl, M1.same kp1, (L.oz st (.inl rfl)).2.2.1, R1, hr, hf, fun H2 q' fa' wa' fr' pm asc nq nfa nwa e2 D2 R2 kp2 => ?_⟩
  obtain ⟨s2, z2⟩ := L.s.next (H2 := H2) st1 ea D1 so1 (fun b => b = a ∨ b = st) (fun b => b = fa' ∨ b = wa') (fun b o e y => kp2 b o (kp1 _ _ e) (fun z => y (.inl z)) fun z => y (.inr z)) (fun b y => y.elim (fun e => e ▸ L.s.za) fun e => e ▸ (L.oz st (.inl rfl)).1) (fun b y => y.elim (fun e => e ▸ f1) fun e => e ▸ o1 st (.inl rfl))
    (fun b y => y.elim (fun e => e ▸ kp1.free nfa) fun e => e ▸ kp1.free nwa) D2 (.inl rfl)
  have nf : ∀ b, H1 b = none → ¬ Foot m A1 (t + w + r) b := fun b hb hf => by
    obtain ⟨u, hu⟩ := foot_some D1 hf
    rw [hb] at hu; cases hu
  refine hQ' H2 _ z2 (.inr ⟨q', l, th, left, _, .non, lvrs, s2, e2, fin H2 A1 X1 _ _ fa' wa' fr' (ea.trans hla) s2.DM s2.so hBm hps hc s2.zf z2 R2 pm asc fun b hb => ?_⟩)
  rcases hb with e | e | e | e | ⟨r', hr', e⟩
  · rw [e]; exact ⟨.inr (.inl (L.oz st (.inl rfl)).1), o1 _ (.inl rfl)⟩
  · rw [e]; exact ⟨.inr (.inr (.inl rfl)), nf _ (kp1.free nfa)⟩
  · rw [e]; exact ⟨.inr (.inr (.inr rfl)), nf _ (kp1.free nwa)⟩
  · rw [e]; exact ⟨.inr (.inl (L.oz oa (.inr (.inr (.inr (.inl rfl))))).1), o1 _ (.inr (.inr (.inr (.inl rfl))))⟩
  · have hm := (List.mem_filter.mp hr').1
    have ho : Ow st fa wa oa rows b := .inr (.inr (.inr (.inr ⟨r', hm, e⟩)))
    exact ⟨.inr (.inl (L.oz b ho).1), o1 b ho⟩
/-- what stays through leaving -/
structure Lc (P : Program) (W : World) (K : PySem.W.Frag) (mg : Str → Option Value) (base : Heap) (S CE fac gSl gSw : Addr) : Prop where
  mc : MCl P W K mg base CE fac
  i1 : PySem.W.fnIn K gSl = true
  i2 : PySem.W.fnIn K gSw = true
  F1 : FnR P W K mg base CX0 4 gSl (spLvSlot CE S gSl gSw)
  F2 : FnR P W K mg base CX0 4 gSw (spLvSwap CE S)
/-- the values of the slots -/
def SlOk (t : Nat) (ps : List V) (os : List Nat) : Prop := ∀ i, i ∈ os → i < 1 + t ∧ (ps[i]? = some .non ∨ ∃ h : Int, ps[i]? = some (.int h))
theorem dvl_int {K : PySem.W.Frag} {H : Hp} {i : Int} {u : Tr} (d : Dvl K H (.int i) u) : u = .sc (.int i) := by
  have d := d.d
  cases d; rfl
theorem ow_some {S : Addr} {H : Hp} {st la : Addr} {t : Int} {fa wa oa : Addr} {fr out : List Int} {rows : List Rw} (R : StAt S H st la t fa wa oa fr out rows) : ∀ b, Ow st fa wa oa rows b → ∃ o, H b = some o := fun b hb => by
  rcases hb with e | e | e | e | ⟨r, hr, e | e⟩
  · obtain ⟨x, h⟩ := R.ob; exact ⟨_, e ▸ h⟩
  · exact ⟨_, e ▸ R.f⟩
  · exact ⟨_, e ▸ R.w⟩
  · exact ⟨_, e ▸ R.o⟩
  · exact ⟨_, e ▸ (R.r r hr).1⟩
  · exact ⟨_, e ▸ (R.r r hr).2⟩
def upOk (fr : List Int) (rows : List Rw) : Prop := rows.length < 1000 ∧ ∀ k, fr.length + (upTo k rows).length < 1000
theorem swap_go {H : Hp} {B : Nat} {A : Adr} {X : MS} {Z : Addr → Prop} {q l qm : Addr} {fa wa : Addr} {tl : List V} (lc : Lc P W K mg base S CE fac gSl gSw) (L : LvS C M S CE H m t w r B A X Z a dx q l (.ref qm) [] st sl ep la thr fa wa oa fr out rows []) (hla : A.a = la) (hBm : B + 2 ≤ Bm) (uk : upOk fr rows)
    (hq : H q = some (.tup [.str "swap", .int 0, .int ep, .int (ep + 1)])) (hm : H qm = some (.met gSw a)) (hps : X.ps = .int ep :: tl) (fin : FinP C M S m t w r Bm st la thr oa out fr rows X.ps X.count (ep + 1) 1 Qg Z H) : Go P W K mg base 6 C M a CE dx m t w r th0 Qg 1 H A X B Z := by
  have h0 : cellV X t 0 = some (.int ep) := by
    unfold cellV
    rw [if_pos (by omega), hps]
    rfl
  refine go_then (rq := .swap 0 (.int ep) (.int (ep + 1))) L.s lc.mc lvrs hq (by show 0 < 1 + t + (t + w + r); omega) ⟨⟨_, Dvl.int ep⟩, _, Dvl.int (ep + 1)⟩ ⟨.int ep, _, h0, Dvl.int ep⟩ hm lc.i2 lc.F2 fun v x p A1 X1 H1 ea1 R1 hp so1 D1 st1 M1 Q' hQ' => ?_
  obtain ⟨p0, tp, to, g0, d1, d2, g⟩ := R1
  have g0 : cellV X t 0 = some p0 := g0
  rw [h0] at g0
  have g0 := Option.some.inj g0
  subst g0
  have e1 := dvl_int d1
  have e2 := dvl_int d2
  rcases g with ⟨_, rfl, rfl⟩ | ⟨ne, _, _⟩
  · refine ⟨a, dx, l, st, sl, p, _, _, [], ep, _, true, rfl, M1, hp, ?_⟩
    refine free_step L ea1 hla D1 so1 st1 (Same.refl H1) hBm uk.1 (uk.2 _) (ps := X.ps) (cnt := X.count) ?_ ?_ fin Q' hQ'
    · unfold MS.give
      rw [if_pos (by omega)]
      rfl
    · unfold MS.give
      rw [if_pos (by omega)]
      rfl
  · exact absurd (e1.trans e2.symm) ne
/-- a slot is read -/
def SGo (P : Program) (W : World) (K : PySem.W.Frag) (mg : Str → Option Value) (base : Heap) (C M S CE gSl : Addr) (m : Addr) (t w r Bm th0 : Nat) (a dx st sl la : Addr) (ep thr : Int) (oa : Addr) (fr out : List Int) (rows : List Rw) (Qg : QG) (os : List Nat) : Prop :=
  ∀ (H : Hp) (B : Nat) (A : Adr) (X : MS) (Z : Addr → Prop) (q l qm fa wa : Addr) (i : Nat) (tl : List V), LvS C M S CE H m t w r B A X Z a dx q l (.ref qm) [] st sl ep la thr fa wa oa fr out rows os → A.a = la → B + 2 * (os.length + 2) ≤ Bm → H q = some (.tup [.str "read", .int (i : Int)]) → H qm = some (.met gSl a) → X.ps = .int ep :: tl → SlOk t X.ps (i :: os) →
    FinP C M S m t w r Bm st la thr oa out fr rows X.ps X.count (lvR X.ps ep (i :: os)).1 (lvR X.ps ep (i :: os)).2 Qg Z H → Go P W K mg base 6 C M a CE dx m t w r th0 Qg (os.length + 2) H A X B Z
theorem look_step {os : List Nat} {H H1 H1' : Hp} {B : Nat} {A A1 : Adr} {X X1 : MS} {Z : Addr → Prop} {q l : Addr} {th : V} {left : List V} {fa wa : Addr} {wv : V} {ep0 : Int} {tl : List V} {cnt : Int} (lc : Lc P W K mg base S CE fac gSl gSw) (uk : upOk fr rows) (IH : ∀ os', os'.length < os.length → SGo P W K mg base C M S CE gSl m t w r Bm th0 a dx st sl la ep thr oa fr out rows Qg os')
    (L : LvS C M S CE H m t w r B A X Z a dx q l th left st sl ep0 la thr fa wa oa fr out rows os) (ea : A1.a = A.a) (hla : A.a = la) (D1 : MemAt C M H1 m t w r A1 X1) (so1 : SOk X1 t (t + w + r) (B + 2)) (st1 : Step m (t + w + r) A H A1 H1) (kp1 : ∀ b o, H1 b = some o → b ≠ a → H1' b = some o) (M1' : MaAt CE H1' a dx wv l th left (lvrest st sl ep))
    (hBm : B + 2 * (os.length + 2) ≤ Bm) (hps : X1.ps = .int ep :: tl) (hc : X1.count = cnt + 1) (so : SlOk t X1.ps os) (fin : FinP C M S m t w r Bm st la thr oa out fr rows X1.ps cnt (lvR X1.ps ep os).1 ((lvR X1.ps ep os).2 + 1) Qg Z H)
    (Q' : Hp → Prop) (hQ' : ∀ H2 Z', Zst Z H Z' H2 → (Go P W K mg base 6 C M a CE dx m t w r th0 Qg (os.length + 1) H2 A1 X1 (B + 2) Z' ∨ ∃ (q2 l2 : Addr) (th2 : V) (left2 : List V) (rest2 : List (Str × V)) (y : V), RsOk rest2 ∧ MSt C M CE H2 m t w r (B + 2) A1 X1 Z' a dx q2 l2 th2 left2 rest2 ∧ H2 q2 = some (.tup [.str "end", y]) ∧ Qg y H2 A1 X1 (B + 2) Z') → Q' H2) :
    spLvLook CE gSl gSw [.ref a] H1' (fun _ H' => Q' H') E0 := by
  obtain ⟨M1, f1, f2⟩ := L.s.acc st1
  have sl1 := (st1.out L.hs L.fs).1
  have sl_a : sl ≠ a := ne_of L.hs L.s.D.ob (by intro z; cases z)
  have sl1' := kp1 _ _ sl1 sl_a
  have slf := (st1.out L.hs L.fs).2
  have oal := ow_some L.R
  have own : ∀ b o, Ow st fa wa oa rows b → H b = some o → H1 b = some o ∧ ¬ Foot m A1 (t + w + r) b := fun b o hb e => st1.out e (L.oz b hb).2.1
  have al : ∀ {p : Addr}, H1' p = none → H1 p = none := fun {p} hp => by
    cases e : H1 p with
    | none => rfl
    | some o =>
      have h := M1'.ob
      have := kp1 p o e (fun z => by rw [z, h] at hp; cases hp)
      rw [hp] at this; cases this
  have bnew : ∀ {l' : Addr}, H1 l' = none → ∀ b, Ow st fa wa oa rows b → b ≠ l' := fun {l'} h b hb z => by
    obtain ⟨o, e⟩ := oal b hb
    have := (own b o hb e).1
    rw [z, h] at this; cases this
  refine ⟨a, dx, l, st, sl, wv, th, left, ep, os.map fun (i : Nat) => (i : Int), rfl, M1', by rw [List.map_map]; exact sl1', L.nl, ?_⟩
  cases os with
  | nil =>
    refine .inr ⟨rfl, fun H2 q' l' qm' nq nl' nm eq em D2 kp => ?_⟩
    obtain ⟨s2, z2⟩ := L.s.next (H2 := H2) st1 ea D1 so1 (fun b => b = a) (fun b => b = l') (fun b o e y => kp b o (kp1 b o e y) y) (fun b y => y ▸ L.s.za) (fun b y => y ▸ f1) (fun b y => y ▸ al nl') D2 (.inr rfl)
    refine hQ' H2 _ z2 (.inl (swap_go (tl := tl) lc ⟨s2, L.R.on fun b o hb e => kp b o (kp1 b o (own b o hb e).1 (L.oz b hb).2.2.1) (L.oz b hb).2.2.1, fun b hb => ?_, kp _ _ sl1' sl_a, .inr (.inl L.zs), slf, ?_⟩ (ea.trans hla) (by simp at hBm; omega) uk eq em hps ?_))
    · obtain ⟨o, e⟩ := oal b hb
      obtain ⟨h1, h2, h3, h4, h5⟩ := L.oz b hb
      exact ⟨.inr (.inl h1), (own b o hb e).2, h3, bnew (al nl') b hb, h5⟩
    · intro z
      rw [z, nl'] at sl1'; cases sl1'
    · have f3 := fin.next z2
      rw [← hc] at f3
      exact f3
  | cons i os' =>
    refine .inl ⟨(i : Int), os'.map fun (i : Nat) => (i : Int), rfl, fun H2 q' l' qm' nq nl' nm eq em D2 es kp => ?_⟩
    obtain ⟨s2, z2⟩ := L.s.next (H2 := H2) st1 ea D1 so1 (fun b => b = a ∨ b = sl) (fun b => b = l') (fun b o e y => kp b o (kp1 b o e fun z => y (.inl z)) (fun z => y (.inl z)) fun z => y (.inr z)) (fun b y => y.elim (fun e => e ▸ L.s.za) fun e => e ▸ L.zs) (fun b y => y.elim (fun e => e ▸ f1) fun e => e ▸ slf) (fun b y => y ▸ al nl') D2 (.inr rfl)
    rw [List.map_map] at es
    refine hQ' H2 _ z2 (.inl (IH os' (by simp) H2 (B + 2) A1 X1 _ q' l' qm' fa wa i tl ⟨s2, L.R.on fun b o hb e => kp b o (kp1 b o (own b o hb e).1 (L.oz b hb).2.2.1) (L.oz b hb).2.2.1 (L.oz b hb).2.2.2.2, fun b hb => ?_, es, .inr (.inl L.zs), slf, ?_⟩ (ea.trans hla) (by simp at hBm; omega) eq em hps so ?_))
    · obtain ⟨o, e⟩ := oal b hb
      obtain ⟨h1, h2, h3, h4, h5⟩ := L.oz b hb
      exact ⟨.inr (.inl h1), (own b o hb e).2, h3, bnew (al nl') b hb, h5⟩
    · intro z
      rw [z, nl'] at sl1'; cases sl1'
    · have f3 := fin.next z2
      rw [← hc] at f3
      exact f3
end
end Dk

set_option maxHeartbeats 4000000
/-! leaving: from its first access to its end -/
namespace Dk
open PySem PySem.Spec PyProof.Rows L2
section
variable {P : Program} {W : World} {K : PySem.W.Frag} {mg : Str → Option Value} {base : Heap} {C M S CE fac gSl gSw gEp gHe gSt : Addr} {m : Addr} {t w r Bm th0 : Nat} {a dx : Addr} {st sl la : Addr} {ep : Int} {thr : Int} {oa : Addr} {fr out : List Int} {rows : List Rw} {Qg : QG}
theorem slot_go (lc : Lc P W K mg base S CE fac gSl gSw) (uk : upOk fr rows) : ∀ (n : Nat) (os : List Nat), os.length < n → SGo P W K mg base C M S CE gSl m t w r Bm th0 a dx st sl la ep thr oa fr out rows Qg os
  | 0, os, h => by omega
  | n + 1, os, hn => by
    intro H B A X Z q l qm fa wa i tl L hla hBm hq hm hps so fin
    obtain ⟨hi, hv⟩ := so i List.mem_cons_self
    have so' : SlOk t X.ps os := fun j hj => so j (List.mem_cons_of_mem _ hj)
    refine go_then (n := os.length + 1) (rq := .read i) L.s lc.mc lvrs hq (by show i < 1 + t + (t + w + r); omega) trivial trivial hm lc.i1 lc.F1 fun v x p A1 X1 H1 ea1 R1 hp so1 D1 st1 M1 Q' hQ' => ?_
    have IH := fun os' (h' : os'.length < os.length) => slot_go lc uk n os' (by omega)
    rcases hv with h0 | ⟨h, h0⟩
    · obtain ⟨rfl, ps1, c1⟩ := res_read (x := x) R1 hi h0
      have el : lvR X.ps ep (i :: os) = ((lvR X.ps ep os).1, (lvR X.ps ep os).2 + 1) := by
        show (if (X.ps[i]?).getD .non = .non ∨ (X.ps[i]?).getD .non = .int ep then ((lvR X.ps ep os).1, (lvR X.ps ep os).2 + 1) else (ep, 1)) = _
        rw [h0, if_pos (.inl rfl)]
      rw [el, ← ps1] at fin
      exact ⟨a, dx, l, st, sl, p, _, _, [], ep, _, .non, rfl, M1, hp, .inl ⟨rfl, look_step (cnt := X.count) lc uk IH L ea1 hla D1 so1 st1 (fun b o e _ => e) M1 hBm (ps1.trans hps) c1 (by rw [ps1]; exact so') fin Q' hQ'⟩⟩
    · obtain ⟨rfl, ps1, c1⟩ := res_read (x := x) R1 hi h0
      by_cases c : h = ep
      · have el : lvR X.ps ep (i :: os) = ((lvR X.ps ep os).1, (lvR X.ps ep os).2 + 1) := by
          show (if (X.ps[i]?).getD .non = .non ∨ (X.ps[i]?).getD .non = .int ep then ((lvR X.ps ep os).1, (lvR X.ps ep os).2 + 1) else (ep, 1)) = _
          rw [h0, if_pos (.inr (congrArg V.int c))]
        rw [el, ← ps1] at fin
        exact ⟨a, dx, l, st, sl, p, _, _, [], ep, _, .int h, rfl, M1, hp, .inr ⟨h, rfl, .inl ⟨c, fun H' s => look_step (cnt := X.count) lc uk IH L ea1 hla D1 so1 st1 (fun b o e _ => s b o e) (M1.same s) hBm (ps1.trans hps) c1 (by rw [ps1]; exact so') fin Q' hQ'⟩⟩⟩
      · have el : lvR X.ps ep (i :: os) = (ep, 1) := by
          show (if (X.ps[i]?).getD .non = .non ∨ (X.ps[i]?).getD .non = .int ep then ((lvR X.ps ep os).1, (lvR X.ps ep os).2 + 1) else (ep, 1)) = _
          rw [h0, if_neg]
          rintro (z | z)
          · cases z
          · exact c (V.int.inj z)
        rw [el] at fin
        have e0 : X1.ps = X.ps.set 0 (.int ep) := by rw [ps1, hps]; rfl
        exact ⟨a, dx, l, st, sl, p, _, _, [], ep, _, .int h, rfl, M1, hp, .inr ⟨h, rfl, .inr ⟨c, fun H' s => free_step L ea1 hla D1 so1 st1 s (by omega) uk.1 (uk.2 _) e0 c1 fin Q' hQ'⟩⟩⟩
/-- the epoch is read -/
theorem ep_go {os : List Nat} {H : Hp} {B : Nat} {A : Adr} {X : MS} {Z : Addr → Prop} {q l qm fa wa : Addr} {e : Int} {tl : List V} (lc : Lc P W K mg base S CE fac gSl gSw) (uk : upOk fr rows) (fi : PySem.W.fnIn K gEp = true) (FE : FnR P W K mg base CX0 4 gEp (spLvEp CE gSl gSw)) (L : LvS C M S CE H m t w r B A X Z a dx q l (.ref qm) [] st sl ep la thr fa wa oa fr out rows os) (hla : A.a = la) (hBm : B + 2 * (os.length + 2) ≤ Bm)
    (hq : H q = some (.tup [.str "read", .int 0])) (hm : H qm = some (.met gEp a)) (hps : X.ps = .int e :: tl) (so : SlOk t X.ps os) (fin : FinP C M S m t w r Bm st la thr oa out fr rows X.ps X.count (lvR X.ps e os).1 ((lvR X.ps e os).2 + 1) Qg Z H) : Go P W K mg base 6 C M a CE dx m t w r th0 Qg (os.length + 2) H A X B Z := by
  have h0 : X.ps[0]? = some (.int e) := by rw [hps]; rfl
  refine go_then (n := os.length + 1) (rq := .read 0) L.s lc.mc lvrs hq (by show 0 < 1 + t + (t + w + r); omega) trivial trivial hm fi FE fun v x p A1 X1 H1 ea1 R1 hp so1 D1 st1 M1 Q' hQ' => ?_
  obtain ⟨rfl, ps1, c1⟩ := res_read (x := x) R1 (by omega) h0
  rw [← ps1] at fin
  exact ⟨a, dx, l, st, sl, p, _, _, [], ep, e, _, rfl, M1, hp, fun H' M' kp => look_step (cnt := X.count) lc uk (fun os' h' => slot_go lc uk os.length os' h') L ea1 hla D1 so1 st1 kp M' hBm (ps1.trans hps) c1 (by rw [ps1]; exact so) fin Q' hQ'⟩
/-- the accesses and the epoch of leaving behind its own slot's write -/
def lvRes (ps : List V) (e : Int) (os : List Nat) (rows : List Rw) : Int × Nat := if rows = [] then (e, 1) else ((lvR ps e os).1, (lvR ps e os).2 + 2)
theorem leave_go {os : List Nat} {H : Hp} {B thN : Nat} {A : Adr} {X : MS} {Z : Addr → Prop} {q1 l qm fa wa : Addr} {e : Int} {tl : List V} {left : List V} (lc : Lc P W K mg base S CE fac gSl gSw) (uk : upOk fr rows) (fi : PySem.W.fnIn K gEp = true) (FE : FnR P W K mg base CX0 4 gEp (spLvEp CE gSl gSw)) (fi2 : PySem.W.fnIn K gHe = true) (FH : FnR P W K mg base CX0 4 gHe (spLvEnd CE))
    (L : LvS C M S CE H m t w r B A X Z a dx q1 l (.ref qm) left st sl ep la thr fa wa oa fr out rows os) (hla : A.a = la) (hBm : B + 2 * (os.length + 3) ≤ Bm) (hq : H q1 = some (.tup [.str "write", .int (1 + (thN : Int)), .non])) (hth : thN < t) (hps : X.ps = .int e :: tl) (so : SlOk t (X.ps.set (1 + thN) .non) os) (asc : Asc fr)
    (cs : (rows ≠ [] ∧ ∃ q2, left = [.ref q2] ∧ H q2 = some (.tup [.str "read", .int 0]) ∧ H qm = some (.met gEp a)) ∨ (rows = [] ∧ left = [] ∧ H qm = some (.met gHe a)))
    (fin : FinP C M S m t w r Bm st la thr oa out fr rows (X.ps.set (1 + thN) .non) X.count (lvRes (X.ps.set (1 + thN) .non) e os rows).1 (lvRes (X.ps.set (1 + thN) .non) e os rows).2 Qg Z H) : Go P W K mg base 6 C M a CE dx m t w r th0 Qg (os.length + 3) H A X B Z := by
  have hq' : H q1 = some (.tup (Rq.write (1 + thN) .non).vs) := by
    rw [hq, show (1 : Int) + (thN : Int) = ((1 + thN : Nat) : Int) by omega]
    rfl
  have ok : (Rq.write (1 + thN) .non).ok t w r := by show 1 + thN < 1 + t + (t + w + r); omega
  have hps' : X.ps.set (1 + thN) .non = .int e :: tl.set thN .non := by rw [hps, show 1 + thN = thN + 1 by omega]; rfl
  rcases cs with ⟨ne, q2, rfl, e2, em⟩ | ⟨rfl, rfl, em⟩
  · unfold lvRes at fin
    rw [if_neg ne] at fin
    refine go_pop (n := os.length + 2) (rq := .write (1 + thN) .non) (rq' := .read 0) L.s lc.mc lvrs hq' ok ⟨_, Dvl.non⟩ trivial fun v x A1 X1 H1 H2 Z1 R1 s2 z2 zz ea1 kp => ?_
    obtain ⟨rfl, ps1, c1⟩ := res_write R1 (by omega)
    have own : ∀ b o, Ow st fa wa oa rows b → H b = some o → H2 b = some o ∧ ¬ Foot m A1 (t + w + r) b := fun b o hb e' => kp b o e' (L.oz b hb).2.2.1 (L.oz b hb).2.2.2.1 (L.oz b hb).2.1
    have sl_a : sl ≠ a := ne_of L.hs L.s.D.ob (by intro z; cases z)
    have sk := kp _ _ L.hs sl_a L.nl L.fs
    refine ep_go (Bm := Bm) (os := os) (B := B + 2) (tl := tl.set thN .non) lc uk fi FE ⟨s2, L.R.on fun b o hb e' => (own b o hb e').1, fun b hb => ?_, sk.1, zz _ L.zs, sk.2, L.nl⟩ (ea1.trans hla) (by omega) (kp _ _ e2 (ne_of e2 L.s.D.ob (by intro z; cases z)) (ne_of e2 L.s.D.lf (by intro z; cases z)) (tup_out L.s.DM e2)).1 (kp _ _ em (ne_of em L.s.D.ob (by intro z; cases z)) (ne_of em L.s.D.lf (by intro z; cases z)) (met_out L.s.DM em)).1 (ps1.trans hps') (by rw [ps1]; exact so) ?_
    · obtain ⟨o, e'⟩ := ow_some L.R b hb
      obtain ⟨h1, h2, h3, h4, h5⟩ := L.oz b hb
      exact ⟨zz _ h1, (own b o hb e').2, h3, h4, h5⟩
    · have f3 := fin.next z2
      rw [ps1, c1]
      exact f3
  · unfold lvRes at fin
    rw [if_pos rfl] at fin
    refine go_then (n := os.length + 2) (rq := .write (1 + thN) .non) L.s lc.mc lvrs hq' ok ⟨_, Dvl.non⟩ trivial em fi2 FH fun v x p A1 X1 H1 ea1 R1 hp so1 D1 st1 M1 Q' hQ' => ?_
    obtain ⟨rfl, ps1, c1⟩ := res_write R1 (by omega)
    refine ⟨a, dx, l, st, sl, ep, _, _, _, [], rfl, M1, fun H2 q' nq e2 D2 kp => ?_⟩
    have own : ∀ b o, Ow st fa wa oa [] b → H b = some o → H2 b = some o ∧ ¬ Foot m A1 (t + w + r) b := fun b o hb e' => ⟨kp b o (st1.out e' (L.oz b hb).2.1).1 (L.oz b hb).2.2.1, (st1.out e' (L.oz b hb).2.1).2⟩
    obtain ⟨s2, z2⟩ := L.s.next (H2 := H2) st1 ea1 D1 so1 (fun b => b = a) (fun b => False) (fun b o e y => kp b o e y) (fun b y => y ▸ L.s.za) (fun b y => y ▸ (L.s.acc st1).2.1) (fun b y => y.elim) D2 (.inl rfl)
    refine hQ' H2 _ z2 (.inr ⟨q', l, _, [], _, .non, lvrs, s2, e2, fin H2 A1 X1 (B + 2) _ fa wa fr (ea1.trans hla) s2.DM s2.so (by omega) (by rw [ps1, hps']; rfl) c1 s2.zf z2 (L.R.on fun b o hb e' => (own b o hb e').1) (by show fr.Perm (fr ++ []); rw [List.append_nil]) asc fun b hb => ?_⟩)
    obtain ⟨o, e'⟩ := ow_some L.R b hb
    exact ⟨.inr (.inl (L.oz b hb).1), (own b o hb e').2⟩
/-- what was taken out gets its stamp -/
theorem stamp_go {os : List Nat} {H : Hp} {B thN : Nat} {A : Adr} {X : MS} {Z : Addr → Prop} {q l qm fa wa : Addr} {e : Int} {tl : List V} (lc : Lc P W K mg base S CE fac gSl gSw) (fi : PySem.W.fnIn K gEp = true) (FE : FnR P W K mg base CX0 4 gEp (spLvEp CE gSl gSw)) (fi2 : PySem.W.fnIn K gHe = true) (FH : FnR P W K mg base CX0 4 gHe (spLvEnd CE))
    (fi3 : PySem.W.fnIn K gSt = true) (FS : FnR P W K mg base CX0 4 gSt (spLvStamp C S CE gEp gHe))
    (L : LvS C M S CE H m t w r B A X Z a dx q l (.ref qm) [] st sl ep la (thN : Int) fa wa oa fr out rows os) (hla : A.a = la) (hBm : B + 2 * (os.length + 4) ≤ Bm) (hq : H q = some (.tup [.str "read", .int 0])) (hm : H qm = some (.met gSt a)) (hth : thN < t) (hps : X.ps = .int e :: tl) (so : SlOk t (X.ps.set (1 + thN) .non) os) (asc : Asc fr) (hz : rows.length < 1000)
    (uk : ∀ p' oa' : Addr, upOk fr (rows ++ [⟨p', oa, e, out⟩]))
    (fin : ∀ p' oa' : Addr, FinP C M S m t w r Bm st la (thN : Int) oa' [] fr (rows ++ [⟨p', oa, e, out⟩]) (X.ps.set (1 + thN) .non) X.count (lvRes (X.ps.set (1 + thN) .non) e os (rows ++ [⟨p', oa, e, out⟩])).1 ((lvRes (X.ps.set (1 + thN) .non) e os (rows ++ [⟨p', oa, e, out⟩])).2 + 1) Qg Z H) : Go P W K mg base 6 C M a CE dx m t w r th0 Qg (os.length + 4) H A X B Z := by
  have h0 : X.ps[0]? = some (.int e) := by rw [hps]; rfl
  refine go_then (n := os.length + 3) (rq := .read 0) L.s lc.mc lvrs hq (by show 0 < 1 + t + (t + w + r); omega) trivial trivial hm fi3 FS fun v x p A1 X1 H1 ea1 R1 hp so1 D1 st1 M1 Q' hQ' => ?_
  obtain ⟨rfl, ps1, c1⟩ := res_read (x := x) R1 (by omega) h0
  have own : ∀ b o, Ow st fa wa oa rows b → H b = some o → H1 b = some o ∧ ¬ Foot m A1 (t + w + r) b := fun b o hb e' => st1.out e' (L.oz b hb).2.1
  have oal := ow_some L.R
  have st_a := (L.oz st (.inl rfl)).2.2.1
  have wa_a := (L.oz wa (.inr (.inr (.inl rfl)))).2.2.1
  refine ⟨a, dx, l, st, sl, la, p, _, _, [], ep, e, _, (thN : Int), fa, wa, oa, fr, out, rows, rfl, M1, st_a, L.R.on fun b o hb e' => (own b o hb e').1, hz, hp, fun H2 p' oa' np no R2 kp => ?_⟩
  obtain ⟨da, hly⟩ := id D1.lay
  have zla' : ¬ Z A1.a := by rw [ea1]; exact L.s.zla
  have hl2 := kp _ _ hly (fun z => zla' (by rw [z]; exact (L.oz st (.inl rfl)).1)) (fun z => zla' (by rw [z]; exact (L.oz wa (.inr (.inr (.inl rfl)))).1))
  rw [ea1, hla] at hl2
  have M2 : MaAt CE H2 a dx (.ref q) l (.ref qm) [] (lvrest st sl ep) := ⟨kp _ _ M1.ob st_a.symm wa_a.symm, kp _ _ M1.lf (L.oz st (.inl rfl)).2.2.2.1.symm (L.oz wa (.inr (.inr (.inl rfl)))).2.2.2.1.symm⟩
  have al : ∀ {b : Addr}, H2 b = none → H1 b = none := fun {b} hb => by
    cases e' : H1 b with
    | none => rfl
    | some o =>
      by_cases c1 : b = st
      · obtain ⟨x, h⟩ := R2.ob
        rw [c1, h] at hb; cases hb
      · by_cases c2 : b = wa
        · rw [c2, R2.w] at hb; cases hb
        · have := kp b o e' c1 c2
          rw [hb] at this; cases this
  refine ⟨a, dx, l, st, sl, la, _, _, [], ep, _, _, _, thN, fa, wa, oa', fr, [], rows ++ [⟨p', oa, e, out⟩], rfl, M2, R2, ⟨da, hl2⟩, .inl ⟨by simp, fun H3 q1 q2 l' qm' n1 n2 nl' nm e1 e2 em D3 kp3 => ?_⟩⟩
  obtain ⟨s3, z3⟩ := L.s.next (H2 := H3) st1 ea1 D1 so1 (fun b => b = a ∨ b = st ∨ b = wa) (fun b => b = l' ∨ b = p' ∨ b = oa') (fun b o e' y => kp3 b o (kp b o e' (fun z => y (.inr (.inl z))) fun z => y (.inr (.inr z))) fun z => y (.inl z))
    (fun b y => by
      rcases y with y | y | y
      · exact y ▸ L.s.za
      · exact y ▸ (L.oz st (.inl rfl)).1
      · exact y ▸ (L.oz wa (.inr (.inr (.inl rfl)))).1)
    (fun b y => by
      rcases y with y | y | y
      · exact y ▸ (L.s.acc st1).2.1
      · obtain ⟨o, e'⟩ := oal st (.inl rfl)
        exact y ▸ (own st o (.inl rfl) e').2
      · obtain ⟨o, e'⟩ := oal wa (.inr (.inr (.inl rfl)))
        exact y ▸ (own wa o (.inr (.inr (.inl rfl))) e').2)
    (fun b y => by
      rcases y with y | y | y
      · exact y ▸ al nl'
      · exact y ▸ np
      · exact y ▸ no) D3 (.inr (.inl rfl))
  have nf : ∀ b, H1 b = none → ¬ Foot m A1 (t + w + r) b := fun b hb hf => by
    obtain ⟨u, hu⟩ := foot_some D1 hf
    rw [hb] at hu; cases hu
  have sl_a : sl ≠ a := ne_of L.hs L.s.D.ob (by intro z; cases z)
  have sl1 := st1.out L.hs L.fs
  have st_sl := (L.oz st (.inl rfl)).2.2.2.2
  have wa_sl := (L.oz wa (.inr (.inr (.inl rfl)))).2.2.2.2
  have sl2 := kp _ _ sl1.1 st_sl.symm wa_sl.symm
  have sl3 := kp3 _ _ sl2 sl_a
  have a1al := M1.ob
  have l1al := M1.lf
  have ne1 : ∀ {b c : Addr} {o : HO}, H1 b = none → H1 c = some o → b ≠ c := fun {b c o} hb hc z => by rw [z, hc] at hb; cases hb
  have old : ∀ b, Ow st fa wa oa rows b → Zn m A1 (t + w + r) Z (fun b => b = l' ∨ b = p' ∨ b = oa') b ∧ ¬ Foot m A1 (t + w + r) b ∧ b ≠ a ∧ b ≠ l' ∧ b ≠ sl := fun b hb => by
    obtain ⟨o, e'⟩ := oal b hb
    obtain ⟨h1, h2, h3, h4, h5⟩ := L.oz b hb
    exact ⟨.inr (.inl h1), (own b o hb e').2, h3, (ne1 (al nl') (own b o hb e').1).symm, h5⟩
  have R3 : StAt S H3 st la (thN : Int) fa wa oa' fr [] (rows ++ [⟨p', oa, e, out⟩]) := R2.kept M2.ob st_a.symm kp3
  have ps1' : X1.ps.set (1 + thN) .non = X.ps.set (1 + thN) .non := by rw [ps1]
  refine hQ' H3 _ z3 (.inl (leave_go (Bm := Bm) (os := os) (B := B + 2) (tl := tl) (e := e) lc (uk p' oa') fi FE fi2 FH ⟨s3, R3, fun b hb => ?_, sl3, .inr (.inl L.zs), sl1.2, ?_⟩ (ea1.trans hla) (by omega) e1 hth (ps1.trans hps) (by rw [ps1']; exact so) asc (.inl ⟨by simp, q2, rfl, e2, em⟩) ?_))
  · have newb : ∀ c : Addr, H1 c = none → H2 c ≠ none → (c = p' ∨ c = oa') → Zn m A1 (t + w + r) Z (fun b => b = l' ∨ b = p' ∨ b = oa') c ∧ ¬ Foot m A1 (t + w + r) c ∧ c ≠ a ∧ c ≠ l' ∧ c ≠ sl := fun c hc h2c hcc =>
      ⟨.inr (.inr (.inr hcc)), nf c hc, ne1 hc a1al, fun z => h2c (by rw [z]; exact nl'), ne1 hc sl1.1⟩
    have pal : H2 p' ≠ none := by
      have := (R2.r ⟨p', oa, e, out⟩ (by simp)).1
      intro z
      rw [show H2 p' = _ from this] at z; cases z
    have oal2 : H2 oa' ≠ none := by rw [R2.o]; simp
    rcases hb with h | h | h | h | ⟨r', hr', h⟩
    · exact old b (.inl h)
    · exact old b (.inr (.inl h))
    · exact old b (.inr (.inr (.inl h)))
    · rw [h]; exact newb oa' no oal2 (.inr rfl)
    · rcases List.mem_append.mp hr' with g | g
      · exact old b (.inr (.inr (.inr (.inr ⟨r', g, h⟩))))
      · have g := List.mem_singleton.mp g
        subst g
        rcases h with h | h
        · rw [h]; exact newb p' np pal (.inl rfl)
        · exact old b (.inr (.inr (.inr (.inl h))))
  · intro z
    rw [z, nl'] at sl2; cases sl2
  · have f3 := (fin p' oa').next z3
    rw [ps1', c1]
    exact f3
end
end Dk

set_option maxHeartbeats 4000000
/-! the stages of a thread; entering's steps -/
namespace Dk
open PySem PySem.Spec PyProof.Rows L2
abbrev Rp := List (Int × List Int)
def rwP (rw : List Rw) : Rp := rw.map fun r => (r.e, r.cs)
def upP (last : Int) (rows : Rp) : List Int := (rows.filter fun r => decide (r.1 ≤ last)).flatMap fun r => r.2
theorem upTo_P (last : Int) (rw : List Rw) : upTo last rw = upP last (rwP rw) := by
  unfold upTo upP rwP
  rw [List.filter_map, List.flatMap_map]
  rfl
theorem fil_P (last : Int) (rw : List Rw) : rwP (rw.filter fun r => decide (last < r.e)) = (rwP rw).filter fun r => decide (last < r.1) := by
  unfold rwP
  rw [List.filter_map]
  rfl
/-- a store in the world -/
def Sto (S : Addr) (H : Hp) (lab : Addr → Nat) (i : Nat) (st la : Addr) (fr out : List Int) (rows : Rp) : Prop :=
  ∃ fa wa oa rw, StAt S H st la (i : Int) fa wa oa fr out rw ∧ rwP rw = rows ∧ ∀ b, Ow st fa wa oa rw b → lab b = lS i
theorem Sto.on {S : Addr} {H H' : Hp} {lab lab' : Addr → Nat} {i : Nat} {st la : Addr} {fr out : List Int} {rows : Rp} (R : Sto S H lab i st la fr out rows) (kp : ∀ b o, H b = some o → lab b = lS i → H' b = some o ∧ lab' b = lS i) : Sto S H' lab' i st la fr out rows := by
  obtain ⟨fa, wa, oa, rw, R, e, z⟩ := R
  exact ⟨fa, wa, oa, rw, R.on fun b o hb h => (kp b o h (z b hb)).1, e, fun b hb => let ⟨o, h⟩ := ow_some R b hb; (kp b o h (z b hb)).2⟩
theorem Sto.fr {S : Addr} {H H' : Hp} {lab lab' : Addr → Nat} {i j : Nat} {st la : Addr} {fr out : List Int} {rows : Rp} (R : Sto S H lab j st la fr out rows) (F : Fr i lab H lab' H') (ne : j ≠ i) : Sto S H' lab' j st la fr out rows :=
  R.on fun b o e h => ⟨F.kp b o e (by rw [h]; exact lS0) (by rw [h]; exact lSM) (by rw [h]; exact lSS ne), by rw [F.old b o e (by rw [h]; exact lS0)]; exact h⟩
/-- where a thread stands in its entering or leaving: what its machine asks next -/
inductive Stg
  | e0 | e1 (ep : Int) | e2 (ep : Int) | l0 | l1 (wt : Bool) | l2 | l3 (ep : Int) (j : Nat) (os : List Nat) | l4 (ep : Int) | dn
/-- the classes and methods -/
structure Cv where
  S : Addr
  St : Addr
  CE : Addr
  CL : Addr
  gE : Addr
  gSt : Addr
  gEp : Addr
  gHe : Addr
  gSl : Addr
  gSw : Addr
def oth (i t : Nat) : List Nat := ((List.range t).filter fun j => decide (j ≠ i)).map fun j => 1 + j
def SlL (H : Hp) (lab : Addr → Nat) (i : Nat) (sl l ml : Addr) (os : List Nat) : Prop := H sl = some (.lst (os.map fun (j : Nat) => V.int (j : Int))) ∧ lab sl = lM i ∧ sl ≠ l ∧ sl ≠ ml
def LvAt (c : Cv) (H : Hp) (lab : Addr → Nat) (i : Nat) (st k : Addr) (g : Addr) (rq : Rq) (nx : Bool) (ep : Int) (os : List Nat) : Prop :=
  ∃ dk ml a dx q l qm sl left, MSk c.S c.CL H lab i k dk ml a dx (.ref q) l (.ref qm) left (lvrest st sl ep) ∧ H q = some (.tup rq.vs) ∧ H qm = some (.met g a) ∧ SlL H lab i sl l ml os ∧ ((nx = false ∧ left = []) ∨ (nx = true ∧ ∃ q2, left = [.ref q2] ∧ H q2 = some (.tup (Rq.read 0).vs)))
def StgAt (c : Cv) (H : Hp) (lab : Addr → Nat) (t i : Nat) (st k : Addr) : Stg → Prop
  | .e0 => ∃ dk ml a dx q l qm, MSk c.S c.CE H lab i k dk ml a dx (.ref q) l (.ref qm) [] (enrest (1 + (i : Int)) .non) ∧ H q = some (.tup (Rq.read 0).vs) ∧ H qm = some (.met c.gE a)
  | .e1 ep => ∃ dk ml a dx q l qm q2, MSk c.S c.CE H lab i k dk ml a dx (.ref q) l (.ref qm) [.ref q2] (enrest (1 + (i : Int)) (.int ep)) ∧ H q = some (.tup (Rq.write (1 + i) (.int ep)).vs) ∧ H q2 = some (.tup (Rq.read 0).vs) ∧ H qm = some (.met c.gE a)
  | .e2 ep => ∃ dk ml a dx q l qm, MSk c.S c.CE H lab i k dk ml a dx (.ref q) l (.ref qm) [] (enrest (1 + (i : Int)) (.int ep)) ∧ H q = some (.tup (Rq.read 0).vs) ∧ H qm = some (.met c.gE a)
  | .l0 => ∃ ep, LvAt c H lab i st k c.gSt (.read 0) false ep (oth i t)
  | .l1 wt => ∃ ep, LvAt c H lab i st k (if wt then c.gEp else c.gHe) (.write (1 + i) .non) wt ep (oth i t)
  | .l2 => ∃ ep, LvAt c H lab i st k c.gEp (.read 0) false ep (oth i t)
  | .l3 ep j os => LvAt c H lab i st k c.gSl (.read j) false ep os
  | .l4 ep => LvAt c H lab i st k c.gSw (.swap 0 (.int ep) (.int (ep + 1))) false ep []
  | .dn => ∃ dk ml v, Sk0 c.S H lab i k dk ml v
theorem SlL.fr {H H1 : Hp} {lab lab' : Addr → Nat} {i j : Nat} {sl l ml : Addr} {os : List Nat} (s : SlL H lab j sl l ml os) (F : Fr i lab H lab' H1) (ne : j ≠ i) : SlL H1 lab' j sl l ml os :=
  ⟨F.kp _ _ s.1 (by rw [s.2.1]; exact lM0) (by rw [s.2.1]; exact lMM ne) (by rw [s.2.1]; exact lMS), by rw [F.old _ _ s.1 (by rw [s.2.1]; exact lM0)]; exact s.2.1, s.2.2⟩
theorem LvAt.fr {c : Cv} {H H1 : Hp} {lab lab' : Addr → Nat} {i j : Nat} {st k g : Addr} {rq : Rq} {nx : Bool} {ep : Int} {os : List Nat} (G : LvAt c H lab j st k g rq nx ep os) (F : Fr i lab H lab' H1) (ne : j ≠ i) : LvAt c H1 lab' j st k g rq nx ep os := by
  obtain ⟨dk, ml, a, dx, q, l, qm, sl, left, s, hq, hm, hs, hl⟩ := G
  exact ⟨dk, ml, a, dx, q, l, qm, sl, left, s.fr F ne, F.im _ _ hq .tup, F.im _ _ hm .met, hs.fr F ne, hl.imp id fun ⟨x, q2, y, z⟩ => ⟨x, q2, y, F.im _ _ z .tup⟩⟩
theorem StgAt.fr {c : Cv} {H H1 : Hp} {lab lab' : Addr → Nat} {t i j : Nat} {st k : Addr} {g : Stg} (G : StgAt c H lab t j st k g) (F : Fr i lab H lab' H1) (ne : j ≠ i) : StgAt c H1 lab' t j st k g := by
  cases g with
  | e0 => obtain ⟨dk, ml, a, dx, q, l, qm, s, hq, hm⟩ := G; exact ⟨dk, ml, a, dx, q, l, qm, s.fr F ne, F.im _ _ hq .tup, F.im _ _ hm .met⟩
  | e1 ep => obtain ⟨dk, ml, a, dx, q, l, qm, q2, s, hq, hq2, hm⟩ := G; exact ⟨dk, ml, a, dx, q, l, qm, q2, s.fr F ne, F.im _ _ hq .tup, F.im _ _ hq2 .tup, F.im _ _ hm .met⟩
  | e2 ep => obtain ⟨dk, ml, a, dx, q, l, qm, s, hq, hm⟩ := G; exact ⟨dk, ml, a, dx, q, l, qm, s.fr F ne, F.im _ _ hq .tup, F.im _ _ hm .met⟩
  | l0 => obtain ⟨ep, G⟩ := G; exact ⟨ep, LvAt.fr G F ne⟩
  | l1 wt => obtain ⟨ep, G⟩ := G; exact ⟨ep, LvAt.fr G F ne⟩
  | l2 => obtain ⟨ep, G⟩ := G; exact ⟨ep, LvAt.fr G F ne⟩
  | l3 ep j os => exact LvAt.fr G F ne
  | l4 ep => exact LvAt.fr G F ne
  | dn => obtain ⟨dk, ml, v, s⟩ := G; exact ⟨dk, ml, v, s.fr F ne⟩
/-- what a step of thread i must lead to -/
def Af (K : PySem.W.Frag) (c : Cv) (C M : Addr) (m : Addr) (t w r B i : Nat) (st la k : Addr) (H : Hp) (lab : Addr → Nat) (A : Adr) (X : MS) (rq : Rq) (Q : VK) (ps' : List V) (g' : Stg) (fr' out' : List Int) (rows' : Rp) : Prop :=
  ∀ (x : V) (A' : Adr) (X' : MS) (H2 : Hp) (lab' : Addr → Nat), A'.a = A.a → X'.ps = ps' → X'.log = X.log ++ [x] → LogIs H2 x (X.count + 1) i rq → Wd C M H2 m t w r (B + 2) A' X' lab' → Fr i lab H lab' H2 → StgAt c H2 lab' t i st k g' → Sto c.St H2 lab' i st la fr' out' rows' → Q (.bl true) H2
structure KT (P : Program) (W : World) (K : PySem.W.Frag) (mg : Str → Option Value) (base : Heap) (c : Cv) (C fE fL : Addr) : Prop where
  mcE : MCl P W K mg base c.CE fE
  mcL : MCl P W K mg base c.CL fL
  iE : PySem.W.fnIn K c.gE = true
  FE : FnR P W K mg base CX0 4 c.gE (spEnTake c.CE c.gE)
  iSt : PySem.W.fnIn K c.gSt = true
  FSt : FnR P W K mg base CX0 4 c.gSt (spLvStamp C c.St c.CL c.gEp c.gHe)
  iEp : PySem.W.fnIn K c.gEp = true
  FEp : FnR P W K mg base CX0 4 c.gEp (spLvEp c.CL c.gSl c.gSw)
  iHe : PySem.W.fnIn K c.gHe = true
  FHe : FnR P W K mg base CX0 4 c.gHe (spLvEnd c.CL)
  iSl : PySem.W.fnIn K c.gSl = true
  FSl : FnR P W K mg base CX0 4 c.gSl (spLvSlot c.CL c.St c.gSl c.gSw)
  iSw : PySem.W.fnIn K c.gSw = true
  FSw : FnR P W K mg base CX0 4 c.gSw (spLvSwap c.CL c.St)
theorem LogIs.on {H H' : Hp} {x : V} {n : Int} {th : Nat} {rq : Rq} (h : LogIs H x n th rq) (s : ∀ b xs, H b = some (.tup xs) → H' b = some (.tup xs)) : LogIs H' x n th rq := let ⟨u, q, a, b, c⟩ := h; ⟨u, q, a, s _ _ b, s _ _ c⟩
section
variable {P : Program} {W : World} {K : PySem.W.Frag} {mg : Str → Option Value} {base : Heap} {C M S CM : Addr} {H H1 H2 : Hp} {m : Addr} {t w r B i : Nat} {A A1 : Adr} {X X1 : MS} {lab : Addr → Nat} {k dk ml a dx q l st la : Addr} {wv th : V} {left : List V} {rest : List (Str × V)} {fr out : List Int} {rows : Rp} {SS : Addr}
/-- behind an accept that changes the machine's own things alone -/
theorem nextM (s : MSk S CM H lab i k dk ml a dx wv l th left rest) (Wm : Wd C M H m t w r B A X lab) (R : Sto SS H lab i st la fr out rows) (st1 : Step m (t + w + r) A H A1 H1) (ea : A1.a = A.a) (D1 : MemAt C M H1 m t w r A1 X1) (so1 : SOk X1 t (t + w + r) (B + 2)) (Y : Addr → Prop) (kp : ∀ b o, H1 b = some o → ¬ Y b → H2 b = some o)
    (yl : ∀ b, Y b → lab b = lM i ∧ b ≠ k ∧ b ≠ ml ∧ ∃ o, H b = some o ∧ ¬ Imm o) :
    Wd C M H2 m t w r (B + 2) A1 X1 (relab lab H H1 fun _ => lM i) ∧ Fr i lab H (relab lab H H1 fun _ => lM i) H2 ∧ StkAt S H2 k dk ml [a] .non ∧ (∀ b o, H b = some o → lab b = lM i → relab lab H H1 (fun _ => lM i) b = lM i ∧ H1 b = some o) ∧ Sto SS H2 (relab lab H H1 fun _ => lM i) i st la fr out rows ∧ (∀ b xs, H1 b = some (.tup xs) → H2 b = some (.tup xs)) := by
  obtain ⟨W2, F2⟩ := Wm.next (H2 := H2) (i := i) st1 ea D1 so1 Y kp (fun b y => ⟨.inl (yl b y).1, (yl b y).2.2.2⟩) (fun _ => lM i)
  have nz : ∀ b, lab b = lM i → lab b ≠ 0 := fun b h => by rw [h]; exact lM0
  have ol : ∀ b o, H b = some o → lab b = lM i → relab lab H H1 (fun _ => lM i) b = lM i ∧ H1 b = some o := fun b o e h => ⟨by rw [F2.old b o e (nz b h)]; exact h, (st1.out e (Wm.nf (nz b h))).1⟩
  refine ⟨W2, F2, ⟨kp _ _ (ol _ _ s.sk.ob s.zk).2 fun y => (yl _ y).2.1 rfl, kp _ _ (ol _ _ s.sk.l s.zm).2 fun y => (yl _ y).2.2.1 rfl⟩, ol, R.on fun b o e h => ?_, fun b xs e => kp _ _ e fun y => ?_⟩
  · have n0 : lab b ≠ 0 := by rw [h]; exact lS0
    exact ⟨kp _ _ (st1.out e (Wm.nf n0)).1 fun y => lSM (i := i) (j := i) (by rw [← h]; exact (yl b y).1), by rw [F2.old b o e n0]; exact h⟩
  · obtain ⟨h, _, _, o, e', ni⟩ := yl b y
    have := (ol b o e' h).2
    rw [e] at this
    cases this
    exact ni .tup
theorem res_log_read {X' : MS} {j : Nat} {v x : V} {n : Int} (R : Res K ((X.withCount n).withLog (X.log ++ [x])) t i H H1 (.read j) v X') : X'.log = X.log ++ [x] := by
  obtain ⟨_, rfl⟩ := R
  rfl
theorem res_log_write {X' : MS} {j : Nat} {v x y : V} {n : Int} (hj : j < 1 + t) (R : Res K ((X.withCount n).withLog (X.log ++ [x])) t i H H1 (.write j y) v X') : X'.log = X.log ++ [x] := by
  obtain ⟨_, rfl⟩ := R
  unfold MS.give
  rw [if_pos hj]
  rfl
variable {c : Cv} {fE fL : Addr} {Q : VK} {e ep : Int} {sl : List V}
theorem ps0_lt (so : SOk X t (t + w + r) B) : 0 < 1 + t := by omega
theorem st_e0 (T : KT P W K mg base c C fE fL) (nok : NOk t w r) (hth : i < t) (Wm : Wd C M H m t w r B A X lab) (hB : B + 6 < sizeLine) (G : StgAt c H lab t i st k .e0) (R : Sto c.St H lab i st la fr out rows) (hps : X.ps = .int e :: sl)
    (nxt : Af K c C M m t w r B i st la k H lab A X (.read 0) Q X.ps (.e1 e) fr out rows) : spKStL P W K mg base 6 c.S C M [.ref k, .ref m, .int (i : Int)] H Q E0 := by
  have h0 : X.ps[0]? = some (.int e) := by rw [hps]; rfl
  obtain ⟨dk, ml, a, dx, q, l, qm, s, hq, hm⟩ := G
  refine stp_then (rq := .read 0) s T.mcE enrs nok hth Wm hB hq (by show 0 < 1 + t + (t + w + r); omega) trivial trivial hm T.iE T.FE fun v x p A1 X1 H1 ea1 R1 hp lg so1 D1 st1 M1 S1 Q' hQ' => ?_
  have lo := res_log_read R1
  obtain ⟨rfl, ps1, c1⟩ := res_read (x := x) R1 (by omega) h0
  refine ⟨a, dx, p, l, _, _, [], _, e, _, .non, rfl, M1, hp, .inr ⟨.inl rfl, fun H2 q1 q2 l' qm' n1 n2 nl' nm' e1 e2 em D2 kp => ?_⟩⟩
  obtain ⟨W2, F2, S2, ol, R2, tp⟩ := nextM (H2 := H2) s Wm R st1 ea1 D1 so1 (fun b => b = a) (fun b o e y => kp b o e y) (fun b y => y ▸ ⟨s.za, s.n2.symm, ne_of s.ma.ob s.sk.l (by intro z; cases z), _, s.ma.ob, nimm_ins⟩)
  have e1' : H2 q1 = some (.tup (Rq.write (1 + i) (.int e)).vs) := by rw [e1, show (1 : Int) + (i : Int) = ((1 + i : Nat) : Int) by omega]; rfl
  refine hQ' H2 (beh_wait (rq2 := .write (1 + i) (.int e)) T.mcE enrs S2 D2 e1' (nxt x A1 X1 H2 _ ea1 ps1 lo (lg.on tp) W2 F2 ⟨dk, ml, a, dx, q1, l', qm', q2, ⟨S2, D2, (ol _ _ s.sk.ob s.zk).1, (ol _ _ s.sk.l s.zm).1, (ol _ _ s.ma.ob s.za).1, relab_new nl', ?_, s.n2⟩, e1', e2, em⟩ R2))
  exact ne_of_none S1.l nl'
theorem st_e1 (T : KT P W K mg base c C fE fL) (nok : NOk t w r) (hth : i < t) (Wm : Wd C M H m t w r B A X lab) (hB : B + 6 < sizeLine) (G : StgAt c H lab t i st k (.e1 ep)) (R : Sto c.St H lab i st la fr out rows)
    (nxt : Af K c C M m t w r B i st la k H lab A X (.write (1 + i) (.int ep)) Q (X.ps.set (1 + i) (.int ep)) (.e2 ep) fr out rows) : spKStL P W K mg base 6 c.S C M [.ref k, .ref m, .int (i : Int)] H Q E0 := by
  obtain ⟨dk, ml, a, dx, q, l, qm, q2, s, hq, hq2, hm⟩ := G
  refine stp_pop (rq := .write (1 + i) (.int ep)) (rq' := .read 0) s T.mcE enrs nok hth Wm hB hq hq2 (by show 1 + i < 1 + t + (t + w + r); omega) ⟨_, Dvl.int ep⟩ trivial fun v x A1 X1 H1 H2 lab' ea1 R1 lg W2 F2 s2 kp => ?_
  have lo := res_log_write (by omega) R1
  obtain ⟨rfl, ps1, c1⟩ := res_write R1 (by omega)
  refine nxt x A1 X1 H2 lab' ea1 ps1 lo lg W2 F2 ⟨dk, ml, a, dx, q2, l, qm, s2, F2.im _ _ hq2 .tup, F2.im _ _ hm .met⟩ (R.on fun b o e h => ?_)
  have n0 : lab b ≠ 0 := by rw [h]; exact lS0
  exact ⟨kp b o e n0 (fun z => lSM (i := i) (j := i) (by rw [← h, z]; exact s.za)) fun z => lSM (i := i) (j := i) (by rw [← h, z]; exact s.zl), by rw [F2.old b o e n0]; exact h⟩
theorem st_e2 (T : KT P W K mg base c C fE fL) (nok : NOk t w r) (hth : i < t) (Wm : Wd C M H m t w r B A X lab) (hB : B + 6 < sizeLine) (G : StgAt c H lab t i st k (.e2 ep)) (R : Sto c.St H lab i st la fr out rows) (hps : X.ps = .int e :: sl)
    (nxt : Af K c C M m t w r B i st la k H lab A X (.read 0) Q X.ps (if ep = e then .dn else .e1 e) fr out rows) : spKStL P W K mg base 6 c.S C M [.ref k, .ref m, .int (i : Int)] H Q E0 := by
  have h0 : X.ps[0]? = some (.int e) := by rw [hps]; rfl
  obtain ⟨dk, ml, a, dx, q, l, qm, s, hq, hm⟩ := G
  refine stp_then (rq := .read 0) s T.mcE enrs nok hth Wm hB hq (by show 0 < 1 + t + (t + w + r); omega) trivial trivial hm T.iE T.FE fun v x p A1 X1 H1 ea1 R1 hp lg so1 D1 st1 M1 S1 Q' hQ' => ?_
  have lo := res_log_read R1
  obtain ⟨rfl, ps1, c1⟩ := res_read (x := x) R1 (by omega) h0
  have ya : ∀ b, b = a → lab b = lM i ∧ b ≠ k ∧ b ≠ ml ∧ ∃ o, H b = some o ∧ ¬ Imm o := fun b y => y ▸ ⟨s.za, s.n2.symm, ne_of s.ma.ob s.sk.l (by intro z; cases z), _, s.ma.ob, nimm_ins⟩
  by_cases ce : ep = e
  · rw [if_pos ce] at nxt
    refine ⟨a, dx, p, l, _, _, [], _, e, _, .int ep, rfl, M1, hp, .inl ⟨congrArg V.int ce, fun H2 q6 n6 e6 D2 kp => ?_⟩⟩
    obtain ⟨W2, F2, S2, ol, R2, tp⟩ := nextM (H2 := H2) s Wm R st1 ea1 D1 so1 (fun b => b = a) (fun b o e y => kp b o e y) ya
    refine hQ' H2 (beh_end T.mcE enrs S2 D2 e6 fun H3 S3 kp3 => ?_)
    obtain ⟨W3, F3⟩ := W2.off F2 S2 (ol _ _ s.sk.ob s.zk).1 (ol _ _ s.sk.l s.zm).1 kp3
    have tp3 : ∀ b xs, H2 b = some (.tup xs) → H3 b = some (.tup xs) := fun b xs e => kp3 b _ e (ne_of e S2.ob (by intro z; cases z)) (ne_of e S2.l (by intro z; cases z))
    refine nxt x A1 X1 H3 _ ea1 ps1 lo ((lg.on tp).on tp3) W3 F3 ⟨dk, ml, _, S3, (ol _ _ s.sk.ob s.zk).1, (ol _ _ s.sk.l s.zm).1⟩ (R2.on fun b o e h => ⟨kp3 b o e (fun z => ?_) (fun z => ?_), h⟩)
    · exact lSM (i := i) (j := i) (by rw [← h, z]; exact (ol _ _ s.sk.ob s.zk).1)
    · exact lSM (i := i) (j := i) (by rw [← h, z]; exact (ol _ _ s.sk.l s.zm).1)
  · rw [if_neg ce] at nxt
    refine ⟨a, dx, p, l, _, _, [], _, e, _, .int ep, rfl, M1, hp, .inr ⟨.inr ⟨ep, rfl, ce⟩, fun H2 q1 q2 l' qm' n1 n2 nl' nm' e1 e2 em D2 kp => ?_⟩⟩
    obtain ⟨W2, F2, S2, ol, R2, tp⟩ := nextM (H2 := H2) s Wm R st1 ea1 D1 so1 (fun b => b = a) (fun b o e y => kp b o e y) ya
    have e1' : H2 q1 = some (.tup (Rq.write (1 + i) (.int e)).vs) := by rw [e1, show (1 : Int) + (i : Int) = ((1 + i : Nat) : Int) by omega]; rfl
    refine hQ' H2 (beh_wait (rq2 := .write (1 + i) (.int e)) T.mcE enrs S2 D2 e1' (nxt x A1 X1 H2 _ ea1 ps1 lo (lg.on tp) W2 F2 ⟨dk, ml, a, dx, q1, l', qm', q2, ⟨S2, D2, (ol _ _ s.sk.ob s.zk).1, (ol _ _ s.sk.l s.zm).1, (ol _ _ s.ma.ob s.za).1, relab_new nl', ?_, s.n2⟩, e1', e2, em⟩ R2))
    exact ne_of_none S1.l nl'
end
end Dk

set_option maxHeartbeats 4000000
/-! leaving's steps: looking, freeing -/
namespace Dk
open PySem PySem.Spec PyProof.Rows L2
def lookS (ep : Int) : List Nat → Stg
  | [] => .l4 ep
  | j :: os => .l3 ep j os
theorem rwP_len (rw : List Rw) : (rwP rw).length = rw.length := by unfold rwP; exact List.length_map _
/-- the bounds that freeing asks -/
def UpB (fr : List Int) (rows : Rp) : Prop := rows.length < 1000 ∧ ∀ k, fr.length + (upP k rows).length < 1000
section
variable {P : Program} {W : World} {K : PySem.W.Frag} {mg : Str → Option Value} {base : Heap} {C M : Addr} {H H1 H1' H2 : Hp} {m : Addr} {t w r B i : Nat} {A A1 : Adr} {X X1 : MS} {lab : Addr → Nat} {k dk ml a dx q l st la sl : Addr} {wv th x : V} {left : List V} {fr out : List Int} {rows : Rp} {c : Cv} {fE fL : Addr} {Q : VK} {e ep ep0 known : Int} {os : List Nat} {rq : Rq} {ps' : List V}
theorem look_stp (T : KT P W K mg base c C fE fL) (s : MSk c.S c.CL H lab i k dk ml a dx (.ref q) l th left (lvrest st sl ep0)) (hs : SlL H lab i sl l ml os) (Wm : Wd C M H m t w r B A X lab) (R : Sto c.St H lab i st la fr out rows)
    (st1 : Step m (t + w + r) A H A1 H1) (ea : A1.a = A.a) (D1 : MemAt C M H1 m t w r A1 X1) (so1 : SOk X1 t (t + w + r) (B + 2)) (lo : X1.log = X.log ++ [x]) (lg : LogIs H1 x (X.count + 1) i rq) (S1 : StkAt c.S H1 k dk ml [a] .non) (kp1 : Kept a H1 H1') (M1' : MaAt c.CL H1' a dx wv l th left (lvrest st sl ep))
    (Q' : Hp → Prop) (hQ' : ∀ H2, Behind P W K mg base c.S k dk ml a c.CL dx .non H2 Q → Q' H2) (hps : X1.ps = ps') (nxt : Af K c C M m t w r B i st la k H lab A X rq Q ps' (lookS ep os) fr out rows) :
    spLvLook c.CL c.gSl c.gSw [.ref a] H1' (fun _ H' => Q' H') E0 := by
  have nz : ∀ b, lab b = lM i → lab b ≠ 0 := fun b h => by rw [h]; exact lM0
  have sl_a : sl ≠ a := ne_of hs.1 s.ma.ob (by intro z; cases z)
  have ml_a : ml ≠ a := ne_of s.sk.l s.ma.ob (by intro z; cases z)
  have k_sl : k ≠ sl := ne_of s.sk.ob hs.1 (by intro z; cases z)
  have sl1 := (st1.out hs.1 (Wm.nf (nz _ hs.2.1))).1
  have sl1' := kp1 _ _ sl1 sl_a
  refine ⟨a, dx, l, st, sl, wv, th, left, ep, os.map fun (j : Nat) => (j : Int), rfl, M1', by rw [List.map_map]; exact sl1', hs.2.2.1, ?_⟩
  have ya : lab a = lM i ∧ a ≠ k ∧ a ≠ ml ∧ ∃ o, H a = some o ∧ ¬ Imm o := ⟨s.za, s.n2.symm, ml_a.symm, _, s.ma.ob, nimm_ins⟩
  have ysl : lab sl = lM i ∧ sl ≠ k ∧ sl ≠ ml ∧ ∃ o, H sl = some o ∧ ¬ Imm o := ⟨hs.2.1, k_sl.symm, hs.2.2.2, _, hs.1, nimm_lst⟩
  cases os with
  | nil =>
    refine .inr ⟨rfl, fun H2 q' l' qm' nq nl' nm eq em D2 kp => ?_⟩
    have nl1 : H1 l' = none := kp1.free nl' ⟨_, M1'.ob⟩
    obtain ⟨W2, F2, S2, ol, R2, tp⟩ := nextM (H2 := H2) s Wm R st1 ea D1 so1 (fun b => b = a) (fun b o e y => kp b o (kp1 b o e y) y) (fun b y => y ▸ ya)
    refine hQ' H2 (beh_wait (rq2 := .swap 0 (.int ep) (.int (ep + 1))) T.mcL lvrs S2 D2 eq (nxt x A1 X1 H2 _ ea hps lo (lg.on tp) W2 F2 ⟨dk, ml, a, dx, q', l', qm', sl, [], ⟨S2, D2, (ol _ _ s.sk.ob s.zk).1, (ol _ _ s.sk.l s.zm).1, (ol _ _ s.ma.ob s.za).1, relab_new nl1, ne_of_none S1.l nl1, s.n2⟩, eq, em, ⟨kp _ _ sl1' sl_a, (ol _ _ hs.1 hs.2.1).1, ne_of_none sl1 nl1, hs.2.2.2⟩, .inl ⟨rfl, rfl⟩⟩ R2))
  | cons j os' =>
    refine .inl ⟨(j : Int), os'.map fun (j : Nat) => (j : Int), rfl, fun H2 q' l' qm' nq nl' nm eq em D2 es kp => ?_⟩
    have nl1 : H1 l' = none := kp1.free nl' ⟨_, M1'.ob⟩
    rw [List.map_map] at es
    obtain ⟨W2, F2, S2, ol, R2, tp⟩ := nextM (H2 := H2) s Wm R st1 ea D1 so1 (fun b => b = a ∨ b = sl) (fun b o e y => kp b o (kp1 b o e fun z => y (.inl z)) (fun z => y (.inl z)) fun z => y (.inr z)) (fun b y => y.elim (fun e => e ▸ ya) fun e => e ▸ ysl)
    refine hQ' H2 (beh_wait (rq2 := .read j) T.mcL lvrs S2 D2 eq (nxt x A1 X1 H2 _ ea hps lo (lg.on tp) W2 F2 ⟨dk, ml, a, dx, q', l', qm', sl, [], ⟨S2, D2, (ol _ _ s.sk.ob s.zk).1, (ol _ _ s.sk.l s.zm).1, (ol _ _ s.ma.ob s.za).1, relab_new nl1, ne_of_none S1.l nl1, s.n2⟩, eq, em, ⟨es, (ol _ _ hs.1 hs.2.1).1, ne_of_none sl1 nl1, hs.2.2.2⟩, .inl ⟨rfl, rfl⟩⟩ R2))
theorem free_stp (T : KT P W K mg base c C fE fL) (s : MSk c.S c.CL H lab i k dk ml a dx (.ref q) l th left (lvrest st sl ep0)) (Wm : Wd C M H m t w r B A X lab) (R : Sto c.St H lab i st la fr out rows)
    (st1 : Step m (t + w + r) A H A1 H1) (ea : A1.a = A.a) (D1 : MemAt C M H1 m t w r A1 X1) (so1 : SOk X1 t (t + w + r) (B + 2)) (lo : X1.log = X.log ++ [x]) (lg : LogIs H1 x (X.count + 1) i rq) (S1 : StkAt c.S H1 k dk ml [a] .non) (kp1 : Same H1 H1') (M1 : MaAt c.CL H1 a dx wv l th left (lvrest st sl ep)) (ub : UpB fr rows)
    (Q' : Hp → Prop) (hQ' : ∀ H2, Behind P W K mg base c.S k dk ml a c.CL dx .non H2 Q → Q' H2) (hps : X1.ps = ps') (nxt : ∀ fr', fr'.Perm (fr ++ upP (known - 3) rows) → Asc fr' → Af K c C M m t w r B i st la k H lab A X rq Q ps' .dn fr' out (rows.filter fun r => decide (known - 3 < r.1))) :
    spLvFree c.St c.CL [.ref a, .int known] H1' (fun _ H' => Q' H') E0 := by
  obtain ⟨fa, wa, oa, rw', R0, er, oz⟩ := R
  have nzM : ∀ b, lab b = lM i → lab b ≠ 0 := fun b h => by rw [h]; exact lM0
  have nzS : ∀ b, lab b = lS i → lab b ≠ 0 := fun b h => by rw [h]; exact lS0
  have MS' : ∀ b d, lab b = lM i → lab d = lS i → b ≠ d := fun b d h h' z => lMS (i := i) (j := i) (by rw [← h, ← h', z])
  have own : ∀ b o, Ow st fa wa oa rw' b → H b = some o → H1 b = some o := fun b o hb h => (st1.out h (Wm.nf (nzS b (oz b hb)))).1
  have zst : lab st = lS i := oz st (.inl rfl)
  obtain ⟨ds, hst⟩ := R0.ob
  have st_a : st ≠ a := (MS' a st s.za zst).symm
  have ml_a : ml ≠ a := ne_of s.sk.l s.ma.ob (by intro z; cases z)
  refine ⟨a, dx, l, st, sl, la, _, th, left, ep, known, (i : Int), fa, wa, oa, fr, out, rw', rfl, M1.same kp1, st_a, (R0.on own).same kp1, by rw [← rwP_len, er]; exact ub.1, by rw [upTo_P, er]; exact ub.2 _, fun H2 q' fa' wa' fr' pm asc nq nfa nwa e2 D2 R2 kp2 => ?_⟩
  have nfa1 : H1 fa' = none := kp1.free nfa
  have nwa1 : H1 wa' = none := kp1.free nwa
  have kp12 : ∀ b o, H1 b = some o → ¬ (b = a ∨ b = st) → H2 b = some o := fun b o e y => kp2 b o (kp1 b o e) (fun z => y (.inl z)) fun z => y (.inr z)
  obtain ⟨W2, F2⟩ := Wm.next (H2 := H2) (i := i) st1 ea D1 so1 (fun b => b = a ∨ b = st) kp12 (fun b y => y.elim (fun e => e ▸ ⟨.inl s.za, _, s.ma.ob, nimm_ins⟩) fun e => e ▸ ⟨.inr zst, _, hst, nimm_ins⟩) (fun b => if b = fa' ∨ b = wa' then lS i else lM i)
  have S2 : StkAt c.S H2 k dk ml [a] .non := ⟨kp12 _ _ S1.ob fun y => y.elim s.n2 fun z => MS' k st s.zk zst z, kp12 _ _ S1.l fun y => y.elim ml_a fun z => MS' ml st s.zm zst z⟩
  have tp : ∀ b xs, H1 b = some (.tup xs) → H2 b = some (.tup xs) := fun b xs e => kp12 _ _ e fun y => y.elim (ne_of e M1.ob (by intro z; cases z)) (ne_of e (own _ _ (.inl rfl) hst) (by intro z; cases z))
  have zk2 := (F2.old _ _ s.sk.ob (nzM _ s.zk)).trans s.zk
  have zm2 := (F2.old _ _ s.sk.l (nzM _ s.zm)).trans s.zm
  have oldS : ∀ b, Ow st fa wa oa rw' b → relab lab H H1 (fun b => if b = fa' ∨ b = wa' then lS i else lM i) b = lS i := fun b hb => by
    obtain ⟨o, e⟩ := ow_some R0 b hb
    exact (F2.old _ _ e (nzS _ (oz b hb))).trans (oz b hb)
  have z2 : ∀ b, Ow st fa' wa' oa (rw'.filter fun r => decide (known - 3 < r.e)) b → relab lab H H1 (fun b => if b = fa' ∨ b = wa' then lS i else lM i) b = lS i := fun b hb => by
    rcases hb with e | e | e | e | ⟨r', hr', e⟩
    · exact oldS b (.inl e)
    · rw [e, relab_new nfa1, if_pos (.inl rfl)]
    · rw [e, relab_new nwa1, if_pos (.inr rfl)]
    · exact oldS b (.inr (.inr (.inr (.inl e))))
    · exact oldS b (.inr (.inr (.inr (.inr ⟨r', (List.mem_filter.mp hr').1, e⟩))))
  refine hQ' H2 (beh_end T.mcL lvrs S2 D2 e2 fun H3 S3 kp3 => ?_)
  obtain ⟨W3, F3⟩ := W2.off F2 S2 zk2 zm2 kp3
  have tp3 : ∀ b xs, H2 b = some (.tup xs) → H3 b = some (.tup xs) := fun b xs e => kp3 b _ e (ne_of e S2.ob (by intro z; cases z)) (ne_of e S2.l (by intro z; cases z))
  refine nxt fr' (by rw [← er, ← upTo_P]; exact pm) asc x A1 X1 H3 _ ea hps lo ((lg.on tp).on tp3) W3 F3 ⟨dk, ml, _, S3, zk2, zm2⟩ ⟨fa', wa', oa, _, R2.on fun b o hb e => kp3 b o e (fun z => ?_) (fun z => ?_), by rw [fil_P, er], z2⟩
  · exact lSM (i := i) (j := i) (by rw [← z2 b hb, z]; exact zk2)
  · exact lSM (i := i) (j := i) (by rw [← z2 b hb, z]; exact zm2)
end
end Dk

set_option maxHeartbeats 4000000
/-! leaving's steps -/
namespace Dk
open PySem PySem.Spec PyProof.Rows L2
section
variable {P : Program} {W : World} {K : PySem.W.Frag} {mg : Str → Option Value} {base : Heap} {C M : Addr} {H : Hp} {m : Addr} {t w r B i j : Nat} {A : Adr} {X : MS} {lab : Addr → Nat} {k st la : Addr} {fr out : List Int} {rows : Rp} {c : Cv} {fE fL : Addr} {Q : VK} {e ep : Int} {os : List Nat} {sl0 : List V}
theorem st_l1f (T : KT P W K mg base c C fE fL) (nok : NOk t w r) (hth : i < t) (Wm : Wd C M H m t w r B A X lab) (hB : B + 6 < sizeLine) (G : StgAt c H lab t i st k (.l1 false)) (R : Sto c.St H lab i st la fr out rows)
    (nxt : Af K c C M m t w r B i st la k H lab A X (.write (1 + i) .non) Q (X.ps.set (1 + i) .non) .dn fr out rows) : spKStL P W K mg base 6 c.S C M [.ref k, .ref m, .int (i : Int)] H Q E0 := by
  obtain ⟨ep, dk, ml, a, dx, q, l, qm, sl, left, s, hq, hm, hs, hl⟩ := G
  rcases hl with ⟨_, rfl⟩ | ⟨z, _⟩
  · refine stp_then (rq := .write (1 + i) .non) s T.mcL lvrs nok hth Wm hB hq (by show 1 + i < 1 + t + (t + w + r); omega) ⟨_, Dvl.non⟩ trivial hm T.iHe T.FHe fun v x p A1 X1 H1 ea1 R1 hp lg so1 D1 st1 M1 S1 Q' hQ' => ?_
    have lo := res_log_write (by omega) R1
    obtain ⟨rfl, ps1, c1⟩ := res_write R1 (by omega)
    refine ⟨a, dx, l, st, sl, ep, _, _, _, [], rfl, M1, fun H2 q' nq e2 D2 kp => ?_⟩
    obtain ⟨W2, F2, S2, ol, R2, tp⟩ := nextM (H2 := H2) s Wm R st1 ea1 D1 so1 (fun b => b = a) (fun b o e y => kp b o e y) (fun b y => y ▸ ⟨s.za, s.n2.symm, ne_of s.ma.ob s.sk.l (by intro z; cases z), _, s.ma.ob, nimm_ins⟩)
    have zk2 := (ol _ _ s.sk.ob s.zk).1
    have zm2 := (ol _ _ s.sk.l s.zm).1
    refine hQ' H2 (beh_end T.mcL lvrs S2 D2 e2 fun H3 S3 kp3 => ?_)
    obtain ⟨W3, F3⟩ := W2.off F2 S2 zk2 zm2 kp3
    have tp3 : ∀ b xs, H2 b = some (.tup xs) → H3 b = some (.tup xs) := fun b xs e => kp3 b _ e (ne_of e S2.ob (by intro z; cases z)) (ne_of e S2.l (by intro z; cases z))
    refine nxt x A1 X1 H3 _ ea1 ps1 lo ((lg.on tp).on tp3) W3 F3 ⟨dk, ml, _, S3, zk2, zm2⟩ (R2.on fun b o e h => ⟨kp3 b o e (fun z => ?_) (fun z => ?_), h⟩)
    · exact lSM (i := i) (j := i) (by rw [← h, z]; exact zk2)
    · exact lSM (i := i) (j := i) (by rw [← h, z]; exact zm2)
  · cases z
theorem st_l1t (T : KT P W K mg base c C fE fL) (nok : NOk t w r) (hth : i < t) (Wm : Wd C M H m t w r B A X lab) (hB : B + 6 < sizeLine) (G : StgAt c H lab t i st k (.l1 true)) (R : Sto c.St H lab i st la fr out rows)
    (nxt : Af K c C M m t w r B i st la k H lab A X (.write (1 + i) .non) Q (X.ps.set (1 + i) .non) .l2 fr out rows) : spKStL P W K mg base 6 c.S C M [.ref k, .ref m, .int (i : Int)] H Q E0 := by
  obtain ⟨ep, dk, ml, a, dx, q, l, qm, sl, left, s, hq, hm, hs, hl⟩ := G
  rcases hl with ⟨z, _⟩ | ⟨_, q2, rfl, hq2⟩
  · cases z
  · refine stp_pop (rq := .write (1 + i) .non) (rq' := .read 0) s T.mcL lvrs nok hth Wm hB hq hq2 (by show 1 + i < 1 + t + (t + w + r); omega) ⟨_, Dvl.non⟩ trivial fun v x A1 X1 H1 H2 lab' ea1 R1 lg W2 F2 s2 kp => ?_
    have lo := res_log_write (by omega) R1
    obtain ⟨rfl, ps1, c1⟩ := res_write R1 (by omega)
    have nz : ∀ b, lab b = lM i → lab b ≠ 0 := fun b h => by rw [h]; exact lM0
    refine nxt x A1 X1 H2 lab' ea1 ps1 lo lg W2 F2 ⟨ep, dk, ml, a, dx, q2, l, qm, sl, [], s2, F2.im _ _ hq2 .tup, F2.im _ _ hm .met, ⟨kp _ _ hs.1 (nz _ hs.2.1) (ne_of hs.1 s.ma.ob (by intro z; cases z)) hs.2.2.1, (F2.old _ _ hs.1 (nz _ hs.2.1)).trans hs.2.1, hs.2.2⟩, .inl ⟨rfl, rfl⟩⟩ (R.on fun b o e h => ?_)
    have n0 : lab b ≠ 0 := by rw [h]; exact lS0
    exact ⟨kp b o e n0 (fun z => lSM (i := i) (j := i) (by rw [← h, z]; exact s.za)) fun z => lSM (i := i) (j := i) (by rw [← h, z]; exact s.zl), by rw [F2.old b o e n0]; exact h⟩
theorem st_l2 (T : KT P W K mg base c C fE fL) (nok : NOk t w r) (hth : i < t) (Wm : Wd C M H m t w r B A X lab) (hB : B + 6 < sizeLine) (G : StgAt c H lab t i st k .l2) (R : Sto c.St H lab i st la fr out rows) (hps : X.ps = .int e :: sl0)
    (nxt : Af K c C M m t w r B i st la k H lab A X (.read 0) Q X.ps (lookS e (oth i t)) fr out rows) : spKStL P W K mg base 6 c.S C M [.ref k, .ref m, .int (i : Int)] H Q E0 := by
  have h0 : X.ps[0]? = some (.int e) := by rw [hps]; rfl
  obtain ⟨ep, dk, ml, a, dx, q, l, qm, sl, left, s, hq, hm, hs, hl⟩ := G
  rcases hl with ⟨_, rfl⟩ | ⟨z, _⟩
  · refine stp_then (rq := .read 0) s T.mcL lvrs nok hth Wm hB hq (by show 0 < 1 + t + (t + w + r); omega) trivial trivial hm T.iEp T.FEp fun v x p A1 X1 H1 ea1 R1 hp lg so1 D1 st1 M1 S1 Q' hQ' => ?_
    have lo := res_log_read R1
    obtain ⟨rfl, ps1, c1⟩ := res_read (x := x) R1 (by omega) h0
    exact ⟨a, dx, l, st, sl, p, _, _, [], ep, e, _, rfl, M1, hp, fun H' M' kp => look_stp T s hs Wm R st1 ea1 D1 so1 lo lg S1 kp M' Q' hQ' ps1 nxt⟩
  · cases z
theorem st_l3 (T : KT P W K mg base c C fE fL) (nok : NOk t w r) (hth : i < t) (Wm : Wd C M H m t w r B A X lab) (hB : B + 6 < sizeLine) (G : StgAt c H lab t i st k (.l3 ep j os)) (R : Sto c.St H lab i st la fr out rows) (hj : j < 1 + t) {held : V} (hv : X.ps[j]? = some held) (ub : UpB fr rows)
    (nxt : ((held = .non ∨ held = .int ep) ∧ Af K c C M m t w r B i st la k H lab A X (.read j) Q X.ps (lookS ep os) fr out rows) ∨ ((∃ h : Int, held = .int h ∧ h ≠ ep) ∧ ∀ fr', fr'.Perm (fr ++ upP (ep - 3) rows) → Asc fr' → Af K c C M m t w r B i st la k H lab A X (.read j) Q X.ps .dn fr' out (rows.filter fun r => decide (ep - 3 < r.1)))) :
    spKStL P W K mg base 6 c.S C M [.ref k, .ref m, .int (i : Int)] H Q E0 := by
  obtain ⟨dk, ml, a, dx, q, l, qm, sl, left, s, hq, hm, hs, hl⟩ := G
  rcases hl with ⟨_, rfl⟩ | ⟨z, _⟩
  · refine stp_then (rq := .read j) s T.mcL lvrs nok hth Wm hB hq (by show j < 1 + t + (t + w + r); omega) trivial trivial hm T.iSl T.FSl fun v x p A1 X1 H1 ea1 R1 hp lg so1 D1 st1 M1 S1 Q' hQ' => ?_
    have lo := res_log_read R1
    obtain ⟨rfl, ps1, c1⟩ := res_read (x := x) R1 (by omega) hv
    refine ⟨a, dx, l, st, sl, p, _, _, [], ep, _, v, rfl, M1, hp, ?_⟩
    rcases nxt with ⟨rfl | rfl, nxt⟩ | ⟨⟨h, rfl, ne⟩, nxt⟩
    · exact .inl ⟨rfl, look_stp T s hs Wm R st1 ea1 D1 so1 lo lg S1 (fun _ _ e _ => e) M1 Q' hQ' ps1 nxt⟩
    · exact .inr ⟨ep, rfl, .inl ⟨rfl, fun H' s' => look_stp T s hs Wm R st1 ea1 D1 so1 lo lg S1 (Kept.of s') (M1.same s') Q' hQ' ps1 nxt⟩⟩
    · exact .inr ⟨h, rfl, .inr ⟨ne, fun H' s' => free_stp T s Wm R st1 ea1 D1 so1 lo lg S1 s' M1 ub Q' hQ' ps1 nxt⟩⟩
  · cases z
theorem st_l4 (T : KT P W K mg base c C fE fL) (nok : NOk t w r) (hth : i < t) (Wm : Wd C M H m t w r B A X lab) (hB : B + 6 < sizeLine) (G : StgAt c H lab t i st k (.l4 ep)) (R : Sto c.St H lab i st la fr out rows) (hps : X.ps = .int e :: sl0) (ub : UpB fr rows)
    (nxt : ∀ kn ps', (e = ep ∧ kn = ep + 1 ∧ ps' = .int (ep + 1) :: sl0) ∨ (e ≠ ep ∧ kn = ep ∧ ps' = X.ps) → ∀ fr', fr'.Perm (fr ++ upP (kn - 3) rows) → Asc fr' → Af K c C M m t w r B i st la k H lab A X (.swap 0 (.int ep) (.int (ep + 1))) Q ps' .dn fr' out (rows.filter fun r => decide (kn - 3 < r.1))) :
    spKStL P W K mg base 6 c.S C M [.ref k, .ref m, .int (i : Int)] H Q E0 := by
  have h0 : cellV X t 0 = some (.int e) := by
    unfold cellV
    rw [if_pos (by omega), hps]
    rfl
  obtain ⟨dk, ml, a, dx, q, l, qm, sl, left, s, hq, hm, hs, hl⟩ := G
  rcases hl with ⟨_, rfl⟩ | ⟨z, _⟩
  · refine stp_then (rq := .swap 0 (.int ep) (.int (ep + 1))) s T.mcL lvrs nok hth Wm hB hq (by show 0 < 1 + t + (t + w + r); omega) ⟨⟨_, Dvl.int ep⟩, _, Dvl.int (ep + 1)⟩ ⟨.int e, _, h0, Dvl.int e⟩ hm T.iSw T.FSw fun v x p A1 X1 H1 ea1 R1 hp lg so1 D1 st1 M1 S1 Q' hQ' => ?_
    obtain ⟨p0, tp, to, g0, d1, d2, g⟩ := R1
    have g0 : cellV X t 0 = some p0 := g0
    rw [h0] at g0
    have g0 := Option.some.inj g0
    subst g0
    have e1 := dvl_int d1
    have e2 := dvl_int d2
    rcases g with ⟨eq, rfl, rfl⟩ | ⟨ne, rfl, rfl⟩
    · have hee : e = ep := by rw [e1, e2] at eq; injection eq with eq; injection eq
      refine ⟨a, dx, l, st, sl, p, _, _, [], ep, _, true, rfl, M1, hp, ?_⟩
      refine free_stp (known := ep + 1) (ps' := .int (ep + 1) :: sl0) T s Wm R st1 ea1 D1 so1 ?_ lg S1 (Same.refl H1) M1 ub Q' hQ' ?_ (nxt (ep + 1) _ (.inl ⟨hee, rfl, rfl⟩))
      · unfold MS.give
        rw [if_pos (by omega)]
        rfl
      · unfold MS.give
        rw [if_pos (by omega)]
        show X.ps.set 0 (.int (ep + 1)) = _
        rw [hps]
        rfl
    · have hee : e ≠ ep := fun z => ne (by rw [e1, e2, z])
      refine ⟨a, dx, l, st, sl, p, _, _, [], ep, _, false, rfl, M1, hp, ?_⟩
      exact free_stp (known := ep) (ps' := X.ps) T s Wm R st1 ea1 D1 so1 rfl lg S1 (Same.refl H1) M1 ub Q' hQ' rfl (nxt ep _ (.inr ⟨hee, rfl, rfl⟩))
  · cases z
end
end Dk

set_option maxHeartbeats 4000000
/-! leaving's first step where cells were taken out -/
namespace Dk
open PySem PySem.Spec PyProof.Rows L2
section
variable {P : Program} {W : World} {K : PySem.W.Frag} {mg : Str → Option Value} {base : Heap} {C M : Addr} {H : Hp} {m : Addr} {t w r B i j : Nat} {A : Adr} {X : MS} {lab : Addr → Nat} {k st la : Addr} {fr out : List Int} {rows : Rp} {c : Cv} {fE fL : Addr} {Q : VK} {e ep : Int} {os : List Nat} {sl0 : List V}
theorem st_l0 (T : KT P W K mg base c C fE fL) (nok : NOk t w r) (hth : i < t) (Wm : Wd C M H m t w r B A X lab) (hB : B + 6 < sizeLine) (G : StgAt c H lab t i st k .l0) (R : Sto c.St H lab i st la fr out rows) (hla : A.a = la) (hps : X.ps = .int e :: sl0) (ub : rows.length < 1000)
    (nxt : Af K c C M m t w r B i st la k H lab A X (.read 0) Q X.ps (.l1 true) fr [] (rows ++ [(e, out)])) : spKStL P W K mg base 6 c.S C M [.ref k, .ref m, .int (i : Int)] H Q E0 := by
  have h0 : X.ps[0]? = some (.int e) := by rw [hps]; rfl
  obtain ⟨ep, dk, ml, a, dx, q, l, qm, sl, left, s, hq, hm, hs, hl⟩ := G
  rcases hl with ⟨_, rfl⟩ | ⟨z, _⟩
  · refine stp_then (rq := .read 0) s T.mcL lvrs nok hth Wm hB hq (by show 0 < 1 + t + (t + w + r); omega) trivial trivial hm T.iSt T.FSt fun v x p A1 X1 H1 ea1 R1 hp lg so1 D1 st1 M1 S1 Q' hQ' => ?_
    have lo := res_log_read R1
    obtain ⟨rfl, ps1, c1⟩ := res_read (x := x) R1 (by omega) h0
    obtain ⟨fa, wa, oa, rw', R0, er, oz⟩ := R
    have nzM : ∀ b, lab b = lM i → lab b ≠ 0 := fun b h => by rw [h]; exact lM0
    have nzS : ∀ b, lab b = lS i → lab b ≠ 0 := fun b h => by rw [h]; exact lS0
    have MS' : ∀ b d, lab b = lM i → lab d = lS i → b ≠ d := fun b d h h' z => lMS (i := i) (j := i) (by rw [← h, ← h', z])
    have own : ∀ b o, Ow st fa wa oa rw' b → H b = some o → H1 b = some o := fun b o hb h => (st1.out h (Wm.nf (nzS b (oz b hb)))).1
    have zst : lab st = lS i := oz st (.inl rfl)
    have zwa : lab wa = lS i := oz wa (.inr (.inr (.inl rfl)))
    obtain ⟨ds, hst⟩ := R0.ob
    have st_a : st ≠ a := (MS' a st s.za zst).symm
    have wa_a : wa ≠ a := (MS' a wa s.za zwa).symm
    have ml_a : ml ≠ a := ne_of s.sk.l s.ma.ob (by intro z; cases z)
    have sl_a : sl ≠ a := ne_of hs.1 s.ma.ob (by intro z; cases z)
    refine ⟨a, dx, l, st, sl, la, p, _, _, [], ep, e, _, (i : Int), fa, wa, oa, fr, out, rw', rfl, M1, st_a, R0.on own, by rw [← rwP_len, er]; exact ub, hp, fun H2 p' oa' np no R2 kp => ?_⟩
    obtain ⟨da, hly⟩ := id D1.lay
    have la1 : lab la = 1 := by rw [← hla]; exact Wm.la
    rw [ea1, hla] at hly
    have hl2 := kp _ _ hly (fun z => lS1 (i := i) (by rw [← zst, ← z, la1])) (fun z => lS1 (i := i) (by rw [← zwa, ← z, la1]))
    have M2 : MaAt c.CL H2 a dx (.ref q) l (.ref qm) [] (lvrest st sl ep) := ⟨kp _ _ M1.ob st_a.symm wa_a.symm, kp _ _ M1.lf (MS' l st s.zl zst) (MS' l wa s.zl zwa)⟩
    have al : ∀ {b : Addr}, H2 b = none → H1 b = none := fun {b} hb => by
      cases e' : H1 b with
      | none => rfl
      | some o =>
        by_cases c1 : b = st
        · obtain ⟨x, h⟩ := R2.ob
          rw [c1, h] at hb; cases hb
        · by_cases c2 : b = wa
          · rw [c2, R2.w] at hb; cases hb
          · have := kp b o e' c1 c2
            rw [hb] at this; cases this
    refine ⟨a, dx, l, st, sl, la, _, _, [], ep, _, _, _, i, fa, wa, oa', fr, [], rw' ++ [⟨p', oa, e, out⟩], rfl, M2, R2, ⟨da, hl2⟩, .inl ⟨by simp, fun H3 q1 q2 l' qm' n1 n2 nl' nm e1 e2 em D3 kp3 => ?_⟩⟩
    have nl1 : H1 l' = none := al nl'
    have kp13 : ∀ b o, H1 b = some o → ¬ (b = a ∨ b = st ∨ b = wa) → H3 b = some o := fun b o e' y => kp3 b o (kp b o e' (fun z => y (.inr (.inl z))) fun z => y (.inr (.inr z))) fun z => y (.inl z)
    obtain ⟨W3, F3⟩ := Wm.next (H2 := H3) (i := i) st1 ea1 D1 so1 (fun b => b = a ∨ b = st ∨ b = wa) kp13 (fun b y => by
      rcases y with y | y | y
      · exact y ▸ ⟨.inl s.za, _, s.ma.ob, nimm_ins⟩
      · exact y ▸ ⟨.inr zst, _, hst, nimm_ins⟩
      · exact y ▸ ⟨.inr zwa, _, R0.w, nimm_lst⟩) (fun b => if b = p' ∨ b = oa' then lS i else lM i)
    have no13 : ∀ b o, lab b = lM i → b ≠ a → H1 b = some o → H3 b = some o := fun b o hb n e' => kp13 b o e' fun y => by
      rcases y with y | y | y
      · exact n y
      · exact MS' b st hb zst y
      · exact MS' b wa hb zwa y
    have S3 : StkAt c.S H3 k dk ml [a] .non := ⟨no13 _ _ s.zk s.n2 S1.ob, no13 _ _ s.zm ml_a S1.l⟩
    have tp : ∀ b xs, H1 b = some (.tup xs) → H3 b = some (.tup xs) := fun b xs e' => kp13 _ _ e' fun y => by
      rcases y with y | y | y
      · exact ne_of e' M1.ob (by intro z; cases z) y
      · exact ne_of e' (own _ _ (.inl rfl) hst) (by intro z; cases z) y
      · exact ne_of e' (own _ _ (.inr (.inr (.inl rfl))) R0.w) (by intro z; cases z) y
    have ol : ∀ b o, H b = some o → lab b = lM i → relab lab H H1 (fun b => if b = p' ∨ b = oa' then lS i else lM i) b = lM i := fun b o e' h => (F3.old b o e' (nzM b h)).trans h
    have oldS : ∀ b, Ow st fa wa oa rw' b → relab lab H H1 (fun b => if b = p' ∨ b = oa' then lS i else lM i) b = lS i := fun b hb => by
      obtain ⟨o, e'⟩ := ow_some R0 b hb
      exact (F3.old _ _ e' (nzS _ (oz b hb))).trans (oz b hb)
    have p2 : H2 p' ≠ none := by
      have := (R2.r ⟨p', oa, e, out⟩ (by simp)).1
      intro z
      rw [show H2 p' = _ from this] at z; cases z
    have o2 : H2 oa' ≠ none := by rw [R2.o]; simp
    have zl' : relab lab H H1 (fun b => if b = p' ∨ b = oa' then lS i else lM i) l' = lM i := by
      rw [relab_new nl1, if_neg]
      rintro (z | z)
      · exact p2 (z ▸ nl')
      · exact o2 (z ▸ nl')
    have z3 : ∀ b, Ow st fa wa oa' (rw' ++ [⟨p', oa, e, out⟩]) b → relab lab H H1 (fun b => if b = p' ∨ b = oa' then lS i else lM i) b = lS i := fun b hb => by
      rcases hb with e' | e' | e' | e' | ⟨r', hr', e'⟩
      · exact oldS b (.inl e')
      · exact oldS b (.inr (.inl e'))
      · exact oldS b (.inr (.inr (.inl e')))
      · rw [e', relab_new no, if_pos (.inr rfl)]
      · rcases List.mem_append.mp hr' with g | g
        · exact oldS b (.inr (.inr (.inr (.inr ⟨r', g, e'⟩))))
        · have g := List.mem_singleton.mp g
          subst g
          rcases e' with e' | e'
          · rw [e', relab_new np, if_pos (.inl rfl)]
          · exact oldS b (.inr (.inr (.inr (.inl e'))))
    have sl1 := (st1.out hs.1 (Wm.nf (nzM _ hs.2.1))).1
    have e1' : H3 q1 = some (.tup (Rq.write (1 + i) .non).vs) := by rw [e1, show (1 : Int) + (i : Int) = ((1 + i : Nat) : Int) by omega]; rfl
    refine hQ' H3 (beh_wait (rq2 := .write (1 + i) .non) T.mcL lvrs S3 D3 e1' (nxt x A1 X1 H3 _ ea1 ps1 lo (lg.on tp) W3 F3 ⟨ep, dk, ml, a, dx, q1, l', qm', sl, [.ref q2], ⟨S3, D3, ol _ _ s.sk.ob s.zk, ol _ _ s.sk.l s.zm, ol _ _ s.ma.ob s.za, zl', ne_of_none S1.l nl1, s.n2⟩, e1', em, ⟨no13 _ _ hs.2.1 sl_a sl1, ol _ _ hs.1 hs.2.1, ne_of_none sl1 nl1, hs.2.2.2⟩, .inr ⟨rfl, q2, rfl, e2⟩⟩ ⟨fa, wa, oa', _, R2.kept M2.ob st_a.symm kp3, by unfold rwP at er ⊢; rw [List.map_append, er]; rfl, z3⟩))
  · cases z
end
end Dk

set_option maxHeartbeats 4000000
/-! the mathematics of epochs: threads, their calls, the cells that were taken out -/
namespace Dk
open PySem PySem.Spec PyProof.Rows L2
abbrev Call := Nat × Nat
inductive Ph
  | out | en (g : Stg) | inn | lv (g : Stg)
/-- where a call of the thread can go on -/
def Ph.act : Ph → Bool
  | .en .dn => true
  | .inn => true
  | .lv .l0 => true
  | .lv (.l1 _) => true
  | _ => false
/-- a leaver that has read the epoch and looks at the slots: those that it has looked at show it -/
def Scan (t : Nat) (e : Int) (ps : List V) (act : List Call) (i : Nat) (ep : Int) (os : List Nat) : Prop :=
  ep ≤ e ∧ (∀ x, x ∈ os → 1 ≤ x ∧ x < 1 + t) ∧ (ep = e → ∀ c, c ∈ act → c.1 ≠ i → 1 + c.1 ∉ os → ps[c.1]? = some (.int e))
def PhOk (t : Nat) (e : Int) (ps : List V) (act : List Call) (i : Nat) : Ph → Prop
  | .out => ps[i]? = some .non
  | .inn => True
  | .en .e0 => ps[i]? = some .non
  | .en (.e1 _) => True
  | .en (.e2 ep) => ps[i]? = some (.int ep)
  | .en .dn => True
  | .lv .l0 => True
  | .lv (.l1 _) => True
  | .lv .l2 => ps[i]? = some .non
  | .lv (.l3 ep j os) => ps[i]? = some .non ∧ Scan t e ps act i ep (j :: os)
  | .lv (.l4 ep) => ps[i]? = some .non ∧ Scan t e ps act i ep []
  | .lv .dn => ps[i]? = some .non
  | _ => False
structure Inv (t : Nat) (e : Int) (ps : List V) (ph : Nat → Ph) (act : List Call) (ser : Nat) (slots : Nat → V) : Prop where
  len : ps.length = t
  sl : ∀ j, j < t → ps[j]? = some .non ∨ ∃ s : Int, ps[j]? = some (.int s)
  ac : ∀ c, c ∈ act → c.1 < t ∧ c.2 ≤ ser ∧ (ph c.1).act = true ∧ ∃ s : Int, ps[c.1]? = some (.int s) ∧ slots c.1 = .int s ∧ s ≤ e ∧ e ≤ s + 1
  iph : ∀ j, j < t → PhOk t e ps act j (ph j)
/-- what a pick of thread i does to the epoch, the slots and the calls -/
structure Mv (i : Nat) (e : Int) (ps : List V) (act : List Call) (ser : Nat) (e' : Int) (ps' : List V) (act' : List Call) (ser' : Nat) : Prop where
  me : e' = e ∨ e' = e + 1
  mser : ser ≤ ser'
  mps : ∀ j, j ≠ i → ps'[j]? = ps[j]?
  mac : ∀ c, c ∈ act' → (c ∈ act ∧ ps'[c.1]? = ps[c.1]?) ∨ (ser < c.2 ∧ c.1 = i ∧ e' = e ∧ ps'[i]? = some (.int e))
def upN {α : Type} (f : Nat → α) (i : Nat) (v : α) : Nat → α := fun j => if j = i then v else f j
theorem upN_same {α : Type} {f : Nat → α} {i : Nat} {v : α} : upN f i v i = v := by unfold upN; rw [if_pos rfl]
theorem upN_ne {α : Type} {f : Nat → α} {i j : Nat} {v : α} (h : j ≠ i) : upN f i v j = f j := by unfold upN; rw [if_neg h]
section
variable {t i j : Nat} {e e' ep : Int} {ps ps' : List V} {act act' : List Call} {ser ser' : Nat} {ph : Nat → Ph} {slots : Nat → V} {g : Ph} {os : List Nat}
theorem Scan.mv (s : Scan t e ps act j ep os) (mv : Mv i e ps act ser e' ps' act' ser') : Scan t e' ps' act' j ep os := by
  obtain ⟨h1, h2, h3⟩ := s
  refine ⟨by rcases mv.me with q | q <;> omega, h2, fun he c hc hn ho => ?_⟩
  have he' : e' = e := by rcases mv.me with q | q <;> omega
  subst he'
  rcases mv.mac c hc with ⟨a, b⟩ | ⟨_, b, _, d⟩
  · rw [b]; exact h3 he c a hn ho
  · rw [b]; exact d
theorem PhOk.mv (s : PhOk t e ps act j g) (mv : Mv i e ps act ser e' ps' act' ser') (ne : j ≠ i) : PhOk t e' ps' act' j g := by
  have hp := mv.mps j ne
  cases g with
  | out => exact hp.trans s
  | inn => trivial
  | en g =>
    cases g with
    | e0 => exact hp.trans s
    | e1 ep => trivial
    | e2 ep => exact hp.trans s
    | dn => trivial
    | _ => exact s.elim
  | lv g =>
    cases g with
    | l0 => trivial
    | l1 wt => trivial
    | l2 => exact hp.trans s
    | l3 ep j' os => exact ⟨hp.trans s.1, s.2.mv mv⟩
    | l4 ep => exact ⟨hp.trans s.1, s.2.mv mv⟩
    | dn => exact hp.trans s
    | _ => exact s.elim
theorem Inv.step (I : Inv t e ps ph act ser slots) (mv : Mv i e ps act ser e' ps' act' ser') (hi : i < t) (v : V) (own : PhOk t e' ps' act' i g) (len : ps'.length = t) (sl : ps'[i]? = some .non ∨ ∃ s : Int, ps'[i]? = some (.int s)) (adv : e' = e + 1 → ∀ c, c ∈ act' → ps[c.1]? = some (.int e))
    (ac : ∀ c, c ∈ act' → c.1 = i → c.2 ≤ ser' ∧ g.act = true ∧ ∃ s : Int, ps'[i]? = some (.int s) ∧ v = .int s ∧ s ≤ e' ∧ e' ≤ s + 1) : Inv t e' ps' (upN ph i g) act' ser' (upN slots i v) := by
  refine ⟨len, fun j hj => ?_, fun c hc => ?_, fun j hj => ?_⟩
  · by_cases c : j = i
    · rw [c]; exact sl
    · rw [mv.mps j c]; exact I.sl j hj
  · by_cases h : c.1 = i
    · obtain ⟨a, b, d⟩ := ac c hc h
      rw [h, upN_same, upN_same]
      exact ⟨hi, a, b, d⟩
    · rcases mv.mac c hc with ⟨a, b⟩ | ⟨_, b, _⟩
      · obtain ⟨h1, h2, h3, s, h4, h5, h6, h7⟩ := I.ac c a
        rw [upN_ne h, upN_ne h, b]
        refine ⟨h1, Nat.le_trans h2 mv.mser, h3, s, h4, h5, ?_, ?_⟩
        · rcases mv.me with q | q <;> omega
        · rcases mv.me with q | q
          · omega
          · have := adv q c hc
            rw [h4] at this
            cases this
            omega
      · exact absurd b h
  · by_cases c : j = i
    · rw [c, upN_same]; exact own
    · rw [upN_ne c]; exact (I.iph j hj).mv mv c
/-- no call of a thread that stands where none can go on -/
theorem Inv.none (I : Inv t e ps ph act ser slots) (h : (ph i).act = false) : ∀ c, c ∈ act → c.1 ≠ i := fun c hc z => by
  have := (I.ac c hc).2.2.1
  rw [z, h] at this
  cases this
theorem Mv.refl : Mv i e ps act ser e ps act ser := ⟨.inl rfl, Nat.le_refl _, fun _ _ => rfl, fun c hc => .inl ⟨hc, rfl⟩⟩
end
/-- a cell that was taken out, with the calls of then and the calls beside those -/
structure Rho where
  cell : Int
  r1 : List Call
  r2 : List Call
def RhoOk (e : Int) (ps : List V) (act : List Call) (ser : Nat) (fr : List Int) (rows : Rp) (ρ : Rho) : Prop :=
  ∃ E0 : Int, E0 ≤ e ∧ (∀ c, c ∈ act → c ∈ ρ.r1 → ∃ s : Int, ps[c.1]? = some (.int s) ∧ s ≤ E0) ∧ (∀ c, c ∈ act → c ∈ ρ.r2 → ∃ s : Int, ps[c.1]? = some (.int s) ∧ s ≤ E0 + 1) ∧ (ρ.cell ∈ fr → E0 + 3 ≤ e) ∧ (∀ r, r ∈ rows → ρ.cell ∈ r.2 → E0 ≤ r.1) ∧ (∀ c, c ∈ ρ.r1 ∨ c ∈ ρ.r2 → c.2 ≤ ser)
section
variable {t i j : Nat} {e e' : Int} {ps ps' : List V} {act act' : List Call} {ser ser' : Nat} {ph : Nat → Ph} {slots : Nat → V} {fr fr' out : List Int} {rows rows' : Rp} {ρ ρ' : Rho}
theorem RhoOk.mv (h : RhoOk e ps act ser fr rows ρ) (mv : Mv i e ps act ser e' ps' act' ser') : RhoOk e' ps' act' ser' fr rows ρ := by
  obtain ⟨E0, h1, h2, h3, h4, h5, h6⟩ := h
  have le : e ≤ e' := by rcases mv.me with q | q <;> omega
  refine ⟨E0, by omega, fun c hc hr => ?_, fun c hc hr => ?_, fun hf => by have := h4 hf; omega, h5, fun c hc => Nat.le_trans (h6 c hc) mv.mser⟩
  · rcases mv.mac c hc with ⟨a, b⟩ | ⟨a, _⟩
    · rw [b]; exact h2 c a hr
    · have := h6 c (.inl hr); omega
  · rcases mv.mac c hc with ⟨a, b⟩ | ⟨a, _⟩
    · rw [b]; exact h3 c a hr
    · have := h6 c (.inr hr); omega
theorem RhoOk.known (h : RhoOk e ps act ser fr rows ρ) (I : Inv t e ps ph act ser slots) (ec : ρ'.cell = ρ.cell) (e1 : ρ'.r1 = ρ.r1) (e2 : ∀ c, c ∈ ρ'.r2 → c ∈ ρ.r2 ∨ (c ∈ act ∧ ∃ c0, c0 ∈ ρ.r1 ∧ c0 ∈ act)) : RhoOk e ps act ser fr rows ρ' := by
  obtain ⟨E0, h1, h2, h3, h4, h5, h6⟩ := h
  refine ⟨E0, h1, by rw [e1]; exact h2, fun c hc hr => ?_, by rw [ec]; exact h4, by rw [ec]; exact h5, fun c hc => ?_⟩
  · rcases e2 c hr with q | ⟨_, c0, q1, q2⟩
    · exact h3 c hc q
    · obtain ⟨s0, p0, l0⟩ := h2 c0 q2 q1
      obtain ⟨_, _, _, s1, p1, _, _, l1⟩ := I.ac c0 q2
      rw [p0] at p1
      cases p1
      obtain ⟨_, _, _, s, p, _, l, _⟩ := I.ac c hc
      exact ⟨s, p, by omega⟩
  · rcases hc with q | q
    · exact h6 c (.inl (e1 ▸ q))
    · rcases e2 c q with q | ⟨q, _⟩
      · exact h6 c (.inr q)
      · exact (I.ac c q).2.1
theorem RhoOk.held (h : RhoOk e ps act ser fr rows ρ) (I : Inv t e ps ph act ser slots) (hf : ρ.cell ∈ fr) : ∀ c, c ∈ act → ¬ (c ∈ ρ.r1 ∨ c ∈ ρ.r2) := fun c hc hr => by
  obtain ⟨E0, h1, h2, h3, h4, h5, h6⟩ := h
  have := h4 hf
  obtain ⟨_, _, _, s, p, _, _, l⟩ := I.ac c hc
  rcases hr with q | q
  · obtain ⟨s', p', l'⟩ := h2 c hc q
    rw [p] at p'
    cases p'
    omega
  · obtain ⟨s', p', l'⟩ := h3 c hc q
    rw [p] at p'
    cases p'
    omega
theorem RhoOk.stamp (h : RhoOk e ps act ser fr rows ρ) : RhoOk e ps act ser fr (rows ++ [(e, out)]) ρ := by
  obtain ⟨E0, h1, h2, h3, h4, h5, h6⟩ := h
  refine ⟨E0, h1, h2, h3, h4, fun r hr hc => ?_, h6⟩
  rcases List.mem_append.mp hr with q | q
  · exact h5 r q hc
  · rw [List.mem_singleton.mp q]; exact h1
theorem RhoOk.free {kn : Int} (h : RhoOk e ps act ser fr rows ρ) (hk : kn ≤ e) (pm : fr'.Perm (fr ++ upP (kn - 3) rows)) : RhoOk e ps act ser fr' (rows.filter fun r => decide (kn - 3 < r.1)) ρ := by
  obtain ⟨E0, h1, h2, h3, h4, h5, h6⟩ := h
  refine ⟨E0, h1, h2, h3, fun hf => ?_, fun r hr hc => h5 r (List.mem_filter.mp hr).1 hc, h6⟩
  rcases List.mem_append.mp (pm.mem_iff.mp hf) with q | q
  · exact h4 q
  · unfold upP at q
    obtain ⟨r, hr, hc⟩ := List.mem_flatMap.mp q
    obtain ⟨hr, hl⟩ := List.mem_filter.mp hr
    have := h5 r hr hc
    have := of_decide_eq_true hl
    omega
theorem RhoOk.sub (h : RhoOk e ps act ser fr rows ρ) (hs : ∀ c, c ∈ fr' → c ∈ fr) : RhoOk e ps act ser fr' rows ρ := by
  obtain ⟨E0, h1, h2, h3, h4, h5, h6⟩ := h
  exact ⟨E0, h1, h2, h3, fun hf => h4 (hs _ hf), h5, h6⟩
theorem RhoOk.new (I : Inv t e ps ph act ser slots) {cell : Int} (h1 : cell ∉ fr) (h2 : ∀ r, r ∈ rows → cell ∉ r.2) : RhoOk e ps act ser fr rows ⟨cell, act, act⟩ := by
  have k : ∀ c, c ∈ act → ∃ s : Int, ps[c.1]? = some (.int s) ∧ s ≤ e := fun c hc => by
    obtain ⟨_, _, _, s, p, _, l, _⟩ := I.ac c hc
    exact ⟨s, p, l⟩
  refine ⟨e, Int.le_refl _, fun c hc _ => k c hc, fun c hc _ => ?_, fun hf => absurd hf h1, fun r hr hc => absurd hc (h2 r hr), fun c hc => ?_⟩
  · obtain ⟨s, p, l⟩ := k c hc
    exact ⟨s, p, by omega⟩
  · rcases hc with q | q <;> exact (I.ac c q).2.1
end
/-- a thread's cells: in one place each, stamps not beyond the epoch -/
structure CellOk (e : Int) (first fr out : List Int) (rows : Rp) : Prop where
  pm : (fr ++ (rows.flatMap fun r => r.2) ++ out).Perm first
  nd : first.Nodup
  st : ∀ r, r ∈ rows → r.1 ≤ e
theorem split_rows (kn : Int) : ∀ (rows : Rp), (rows.flatMap fun r => r.2).Perm (upP kn rows ++ ((rows.filter fun r => decide (kn < r.1)).flatMap fun r => r.2))
  | [] => List.Perm.refl _
  | r :: rows => by
    have ih := split_rows kn rows
    unfold upP at ih ⊢
    by_cases c : r.1 ≤ kn
    · rw [List.filter_cons, if_pos (decide_eq_true c), List.filter_cons, if_neg (by rw [decide_eq_false (by omega)]; simp), List.flatMap_cons, List.flatMap_cons, List.append_assoc]
      exact ih.append_left _
    · rw [List.filter_cons, if_neg (by rw [decide_eq_false c]; simp), List.filter_cons, if_pos (decide_eq_true (by omega)), List.flatMap_cons, List.flatMap_cons]
      refine (ih.append_left _).trans ?_
      rw [← List.append_assoc, ← List.append_assoc]
      exact (List.perm_append_comm).append_right _
section
variable {e e' kn : Int} {first fr fr' out : List Int} {rows : Rp}
theorem CellOk.le (h : CellOk e first fr out rows) (le : e ≤ e') : CellOk e' first fr out rows := ⟨h.pm, h.nd, fun r hr => by have := h.st r hr; omega⟩
theorem CellOk.stamp (h : CellOk e first fr out rows) : CellOk e first fr [] (rows ++ [(e, out)]) := by
  refine ⟨?_, h.nd, fun r hr => ?_⟩
  · rw [List.flatMap_append, List.append_nil, ← List.append_assoc]
    show (fr ++ (rows.flatMap fun (r : Int × List Int) => r.2) ++ (out ++ [])).Perm first
    rw [List.append_nil]
    exact h.pm
  · rcases List.mem_append.mp hr with q | q
    · exact h.st r q
    · rw [List.mem_singleton.mp q]; exact Int.le_refl _
theorem CellOk.free (h : CellOk e first fr out rows) (pm : fr'.Perm (fr ++ upP kn rows)) : CellOk e first fr' out (rows.filter fun r => decide (kn < r.1)) := by
  refine ⟨?_, h.nd, fun r hr => h.st r (List.mem_filter.mp hr).1⟩
  refine List.Perm.trans (List.Perm.append_right _ ?_) h.pm
  refine (pm.append_right _).trans ?_
  rw [List.append_assoc]
  exact (split_rows kn rows).symm.append_left _
theorem CellOk.take (h : CellOk e first fr out rows) (n : Nat) : CellOk e first (fr.drop n) (out ++ fr.take n) rows := by
  refine ⟨?_, h.nd, h.st⟩
  refine List.Perm.trans ?_ h.pm
  have e1 : fr ++ (rows.flatMap fun (r : Int × List Int) => r.2) ++ out = fr.take n ++ (fr.drop n ++ (rows.flatMap fun (r : Int × List Int) => r.2) ++ out) := by
    rw [← List.append_assoc, ← List.append_assoc, List.take_append_drop]
  rw [e1, ← List.append_assoc]
  exact List.perm_append_comm
theorem CellOk.nd' (h : CellOk e first fr out rows) : (fr ++ (rows.flatMap fun (r : Int × List Int) => r.2) ++ out).Nodup := h.pm.nodup_iff.mpr h.nd
theorem CellOk.apart (h : CellOk e first fr out rows) {n : Nat} {c : Int} (hc : c ∈ fr.take n) : c ∉ fr.drop n ∧ ∀ r, r ∈ rows → c ∉ r.2 := by
  have nd := (h.take n).nd'
  obtain ⟨_, _, d⟩ := List.nodup_append.mp nd
  refine ⟨fun z => d c (List.mem_append.mpr (.inl z)) c (List.mem_append.mpr (.inr hc)) rfl, fun r hr z => d c (List.mem_append.mpr (.inr (List.mem_flatMap.mpr ⟨r, hr, z⟩))) c (List.mem_append.mpr (.inr hc)) rfl⟩
theorem CellOk.bound (h : CellOk e first fr out rows) (k : Int) : fr.length + (upP k rows).length ≤ first.length := by
  have l := h.pm.length_eq
  have s := (split_rows k rows).length_eq
  rw [List.length_append] at l s
  rw [List.length_append] at l
  omega
end
end Dk

set_option maxHeartbeats 4000000
/-! the calls in the law's lists; _law_slots -/
namespace Dk
open PySem PySem.Spec PyProof.Rows L2 StX
abbrev sLSlots : Stmt := top 33
def cD (c : Call) : PyData := .tuple [.int c.1, .int c.2]
theorem cD_lay (c : Call) : (cD c).canLay0 = true := by simp [cD, PyData.canLay0, PyData.canLayAll0]
theorem cD_depth (c : Call) : (cD c).depth = 1 := by simp [cD, PyData.depth, PyData.depthAll]
theorem cDs_lay : ∀ cs : List Call, PyData.canLayAll0 (cs.map cD) = true
  | [] => by simp [PyData.canLayAll0]
  | c :: cs => by simp [PyData.canLayAll0, cD_lay c, cDs_lay cs]
theorem cDs_depth : ∀ cs : List Call, PyData.depthAll (cs.map cD) ≤ 1
  | [] => by simp [PyData.depthAll]
  | c :: cs => by
    have h1 := cDs_depth cs
    have h2 := cD_depth c
    simp only [List.map_cons, PyData.depthAll]
    omega
theorem cD_shaped (c : Call) : SeqAt.shaped (cD c) = true := by
  have h := cD_depth c
  show ((cD c).canLay0 && decide ((cD c).depth ≤ 64)) = true
  rw [Bool.and_eq_true]
  exact ⟨cD_lay c, decide_eq_true (by omega)⟩
theorem cDs_shaped (cs : List Call) : SeqAt.shaped (.list (cs.map cD)) = true := by
  have h1 := cDs_depth cs
  have h2 : PyData.depth (.list (cs.map cD)) ≤ 64 := by
    simp only [PyData.depth]
    omega
  show (PyData.canLay0 (.list (cs.map cD)) && decide (PyData.depth (.list (cs.map cD)) ≤ 64)) = true
  rw [Bool.and_eq_true]
  exact ⟨by simp only [PyData.canLay0]; exact cDs_lay cs, decide_eq_true h2⟩
theorem cD_eqv (a b : Call) : PyData.eqv (cD a) (cD b) = decide (a = b) := by
  obtain ⟨a1, a2⟩ := a
  obtain ⟨b1, b2⟩ := b
  have e : PyData.eqv (cD (a1, a2)) (cD (b1, b2)) = (((a1 : Int) == (b1 : Int)) && (((a2 : Int) == (b2 : Int)) && true)) := by simp only [cD, PyData.eqv, PyData.eqvAll]
  rw [e]
  by_cases h : ((a1, a2) : Nat × Nat) = (b1, b2)
  · cases h
    simp
  · rw [decide_eq_false h]
    by_cases h1 : a1 = b1
    · by_cases h2 : a2 = b2
      · exact absurd (by rw [h1, h2]) h
      · have q : ((a2 : Int) == (b2 : Int)) = false := beq_eq_false_iff_ne.mpr (by omega)
        rw [q, Bool.false_and, Bool.and_false]
    · have q : ((a1 : Int) == (b1 : Int)) = false := beq_eq_false_iff_ne.mpr (by omega)
      rw [q, Bool.false_and]
theorem cD_any (c : Call) : ∀ cs : List Call, ((cs.map cD).any fun z => PyData.eqv z (cD c)) = decide (c ∈ cs)
  | [] => by simp
  | x :: cs => by
    rw [List.map_cons, List.any_cons, cD_any c cs, cD_eqv]
    by_cases h : x = c
    · simp [h]
    · have h' : ¬ c = x := fun z => h z.symm
      simp [h, h']
/-- calls with their tuples -/
abbrev QL := List (Addr × Call)
def CL (H : Hp) (qs : QL) : Prop := ∀ x, x ∈ qs → H x.1 = some (.tup [.int (x.2.1 : Int), .int (x.2.2 : Int)])
abbrev refs (qs : QL) : List V := qs.map fun x => V.ref x.1
abbrev cs_ (qs : QL) : List Call := qs.map fun x => x.2
theorem CL.on {H H' : Hp} {qs : QL} (h : CL H qs) (s : ∀ b xs, H b = some (.tup xs) → H' b = some (.tup xs)) : CL H' qs := fun x hx => s _ _ (h x hx)
theorem CL.sub {H : Hp} {qs qs' : QL} (h : CL H qs) (s : ∀ x, x ∈ qs' → x ∈ qs) : CL H qs' := fun x hx => h x (s x hx)
theorem CL.app {H : Hp} {qs qs' : QL} (h : CL H qs) (h' : CL H qs') : CL H (qs ++ qs') := fun x hx => (List.mem_append.mp hx).elim (h x) (h' x)
section
variable {K : PySem.W.Frag} {H : Hp}
theorem dp_call {p : Addr} {c : Call} (h : H p = some (.tup [.int (c.1 : Int), .int (c.2 : Int)])) : Dp K H (.ref p) (cD c) := .tup (SqT.of h) (.cons (.int _) (.cons (.int _) .nil))
theorem dp_calls : ∀ {qs : QL}, CL H qs → DpAll K H (refs qs) ((cs_ qs).map cD)
  | [], _ => .nil
  | x :: qs, h => .cons (dp_call (h x List.mem_cons_self)) (dp_calls fun y hy => h y (List.mem_cons_of_mem _ hy))
theorem dp_cl {p : Addr} {qs : QL} (hp : H p = some (.lst (refs qs))) (h : CL H qs) : Dp K H (.ref p) (.list ((cs_ qs).map cD)) := .lst (SqL.of hp) (dp_calls h)
/-- a call in a list of calls -/
theorem in_cl {p q : Addr} {c : Call} {qs : QL} {Q : VK} (hp : H p = some (.tup [.int (c.1 : Int), .int (c.2 : Int)])) (hq : H q = some (.lst (refs qs))) (h : CL H qs) (k : Q (.bl (decide (c ∈ cs_ qs))) H) : rInD K (.ref p) (.ref q) H Q :=
  ⟨_, _, dp_call hp, dp_cl hq h, cD_shaped c, cDs_shaped _, by rw [cD_any]; exact k⟩
theorem notin_cl {p q : Addr} {c : Call} {qs : QL} {Q : VK} (hp : H p = some (.tup [.int (c.1 : Int), .int (c.2 : Int)])) (hq : H q = some (.lst (refs qs))) (h : CL H qs) (k : Q (.bl (!decide (c ∈ cs_ qs))) H) : rNotInD K (.ref p) (.ref q) H Q :=
  ⟨_, _, dp_call hp, dp_cl hq h, cD_shaped c, cDs_shaped _, by rw [cD_any]; exact k⟩
end
def spLSlots (C M : Addr) : Sp := fun vs H Q _ => ∃ (m al sl : Addr) (t w r : Nat) (A : Adr) (X : MS) (qs : QL) (sv : List V) (e : Int), vs = [.ref m, .ref al, .ref sl] ∧ MemAt C M H m t w r A X ∧ H al = some (.lst (refs qs)) ∧ CL H qs ∧ H sl = some (.lst sv) ∧ X.ps[0]? = some (.int e) ∧
  (∀ c, c ∈ cs_ qs → c.1 < t ∧ ∃ s : Int, X.ps[1 + c.1]? = some (.int s) ∧ sv[c.1]? = some (.int s) ∧ s ≤ e ∧ e ≤ s + 1) ∧ Q (.bl true) H
section
variable {P : Program} {w : World} {K : PySem.W.Frag} {mg : Str → Option Value} {base : Heap} {C M : Addr}
abbrev NLS : List Str := ["memory", "active", "slots", "call", "epoch", "slot"]
theorem scLSlots : FnScope NLS ["memory", "active", "slots"] (defScope sLSlots) := ⟨rfl, rfl, rfl, by decide +kernel, rfl, by decide +kernel, by decide +kernel⟩
theorem ps_cell {X : MS} {t i : Nat} {v : V} (h : X.ps[i]? = some v) (hi : i < 1 + t) : cellV X t i = some v := by
  unfold cellV
  rw [if_pos hi]
  exact h
theorem go_lslots (F : GT K mg "_law_slots" sLSlots ["memory", "active", "slots"]) (TM : MTxt K M) (GPk : MO P w K mg base CX0 M 8 "peek" ["self", "cell"] (spPeek C M)) :
    GO P w K mg base CX0 9 "_law_slots" ["memory", "active", "slots"] (spLSlots C M) := by
  obtain ⟨f, fd, F, hm, hb⟩ := F
  refine ⟨f, fd, ?_, hm, F.kp, hb⟩
  refine F.ok scLSlots (fun vs H Q E h => ?_) (fun cdv A outer s H vs Q E hr h => ?_)
  · obtain ⟨m, al, sl, t, w, r, A, X, qs, sv, e, rfl, _⟩ := h
    rfl
  · obtain ⟨m, al, sl, t, wd, r, A0, X, qs, sv, e, rfl, D, hal, hcl, hsl, h0, hc, k⟩ := h
    have nd := scLSlots.nd
    have hr8 : Room 8 _ := hr
    refine ⟨_, (pss_cons (ps_for PassesOwn.never rfl (pi_list (pv 1)) (pg_name (i := 3) nd rfl (Or.inl rfl))
  (pss_cons (ps_set (i := 4) nd rfl (Or.inl rfl) (pm_ GPk TM.cl hr8 (pv 0) (pa_cons pe_int pa_nil)))
  (pss_cons (ps_set (i := 5) nd rfl (Or.inl rfl) (pm_ GPk TM.cl hr8 (pv 0) (pa_cons (pe_op op_add pe_int (pe_ix ix_tup (pv 3) pe_int (fun _ _ => rfl))) pa_nil)))
  (pss_one (ps_if (PW.pt (pw_or (pt_cmpR op_ne (pv 5) (pe_ix ix_list (pv 2) (pe_ix ix_tup (pv 3) pe_int (fun _ _ => rfl)) (fun _ _ => rfl)) (nomark _)) (pw_or (pt_cmpR op_lt (pv 4) (pv 5) (nomark _)) (pw_or1 (pt_cmpR op_gt (pv 4) (pe_op op_add (pv 5) pe_int) (nomark _))))))
  (pss_one (ps_ret pe_bl))
  pss_nil)))))
  (pss_one (ps_ret pe_bl))), ?_⟩
    obtain ⟨dm, hmem⟩ := D.ob
    refine ⟨_, rfl, al, rfl, ⟨_, SqL.of hal⟩, for_list (xs := refs qs) (fun i σ H' => ∃ x3 x4 x5 : Option V, σ = [some (.ref m), some (.ref al), some (.ref sl), x3, x4, x5] ∧ H' = H) ⟨_, _, _, rfl, rfl⟩ (fun i σ H' _ z => by obtain ⟨_, _, _, _, rfl⟩ := z; exact SqL.of hal) ?_ ?_⟩
    · rintro i x σ H' hx ⟨x3, x4, x5, rfl, rfl⟩
      rw [List.getElem?_map] at hx
      obtain ⟨y, hy, rfl⟩ := Option.map_eq_some_iff.mp hx
      have hym := List.mem_of_getElem? hy
      have hp := hcl y hym
      obtain ⟨h1, s, h2, h3, h4, h5⟩ := hc y.2 (List.mem_map.mpr ⟨y, hym, rfl⟩)
      refine ⟨_, rfl, m, dm, _, rfl, hmem, rfl, m, t, wd, r, 0, A0, X, .int e, rfl, D, by omega, ps_cell h0 (by omega), ?_⟩
      refine ⟨_, rfl, m, dm, _, rfl, hmem, rfl, _, rfl, y.1, _, 0, _, rfl, rfl, SqT.of hp, at_head, _, _, rfl, rfl, m, t, wd, r, 1 + y.2.1, A0, X, .int s, by simp, D, by omega, ps_cell h2 (by omega), ?_⟩
      refine ⟨_, rfl, _, rfl, _, rfl, y.1, _, 0, _, rfl, rfl, SqT.of hp, at_head, sl, _, (y.2.1 : Int), V.int s, rfl, rfl, SqL.of hsl, ?_, ?_⟩
      · exact atI_nat h3
      refine ⟨rfl, _, rfl, iteC (by simp) ?_⟩
      refine ⟨_, rfl, _, rfl, _, _, rfl, rfl, _, rfl, iteC (decide_eq_false (by omega)) ?_⟩
      refine ⟨_, rfl, _, rfl, _, _, rfl, rfl, _, _, rfl, rfl, _, rfl, iteC (decide_eq_false (by omega)) ?_⟩
      exact ⟨_, _, _, rfl, rfl⟩
    · rintro σ H' ⟨x3, x4, x5, rfl, rfl⟩
      exact k
end
end Dk

set_option maxHeartbeats 4000000
/-! the law's rows of cells that were taken out; _law_known -/
namespace Dk
open PySem PySem.Spec PyProof.Rows L2 StX
abbrev sKnown : Stmt := top 29
/-- a row: its list, its two lists of calls -/
structure Rx where
  a : Addr
  c1 : Addr
  c2 : Addr
  cell : Int
  q1 : QL
  q2 : QL
def Rx.rho (ρ : Rx) : Rho := ⟨ρ.cell, cs_ ρ.q1, cs_ ρ.q2⟩
structure RxAt (H : Hp) (ρ : Rx) : Prop where
  ob : H ρ.a = some (.lst [.int ρ.cell, .ref ρ.c1, .ref ρ.c2])
  l1 : H ρ.c1 = some (.lst (refs ρ.q1))
  l2 : H ρ.c2 = some (.lst (refs ρ.q2))
  k1 : CL H ρ.q1
  k2 : CL H ρ.q2
/-- the calls known to a row, behind _law_known -/
def Kn (qs : QL) (ρ : Rx) (q : QL) : Prop := (∀ c, c ∈ cs_ q → c ∈ cs_ ρ.q2 ∨ (c ∈ cs_ qs ∧ ∃ c0, c0 ∈ cs_ ρ.q1 ∧ c0 ∈ cs_ qs)) ∧ q.length ≤ ρ.q2.length + qs.length
theorem gfil_t {α : Type} {p : α → Bool} {cs : List α} {i : Nat} {x : α} (h : cs[i]? = some x) (c : p x = true) : (cs.take (i + 1)).filter p = (cs.take i).filter p ++ [x] := by
  obtain ⟨hl, rfl⟩ := List.getElem?_eq_some_iff.mp h
  rw [List.take_succ_eq_append_getElem hl, List.filter_append, List.filter_cons, if_pos c]
  rfl
theorem gfil_f {α : Type} {p : α → Bool} {cs : List α} {i : Nat} {x : α} (h : cs[i]? = some x) (c : p x = false) : (cs.take (i + 1)).filter p = (cs.take i).filter p := by
  obtain ⟨hl, rfl⟩ := List.getElem?_eq_some_iff.mp h
  rw [List.take_succ_eq_append_getElem hl, List.filter_append, List.filter_cons, if_neg (by rw [c]; decide)]
  simp
theorem refs_app {q r : QL} : refs (q ++ r) = refs q ++ refs r := List.map_append
theorem cs_app {q r : QL} : cs_ (q ++ r) = cs_ q ++ cs_ r := List.map_append
def spKnown : Sp := fun vs H Q _ => ∃ (ra al : Addr) (ρs : List Rx) (qs : QL), vs = [.ref ra, .ref al] ∧ H ra = some (.lst (ρs.map fun ρ => .ref ρ.a)) ∧ H al = some (.lst (refs qs)) ∧ CL H qs ∧ (∀ ρ, ρ ∈ ρs → RxAt H ρ) ∧
  (ρs.map Rx.c2).Nodup ∧ (∀ ρ ρ', ρ ∈ ρs → ρ' ∈ ρs → ρ.a ≠ ρ'.c2 ∧ ρ.c1 ≠ ρ'.c2) ∧ (∀ ρ, ρ ∈ ρs → ra ≠ ρ.c2 ∧ al ≠ ρ.c2) ∧ qs.length < 1000 ∧ (∀ ρ, ρ ∈ ρs → ρ.q1.length < 1000000 ∧ ρ.q2.length < 1000000) ∧
  ∀ (H' : Hp) (f : Nat → QL), (∀ j ρ, ρs[j]? = some ρ → H' ρ.c2 = some (.lst (refs (f j))) ∧ CL H' (f j) ∧ Kn qs ρ (f j)) → (∀ b o, H b = some o → (∀ ρ, ρ ∈ ρs → b ≠ ρ.c2) → H' b = some o) → Q .non H'
section
variable {P : Program} {w : World} {K : PySem.W.Frag} {mg : Str → Option Value} {base : Heap} {C M : Addr}
abbrev NKn : List Str := ["rows", "active", "row", "near", "call"]
theorem scKnown : FnScope NKn ["rows", "active"] (defScope sKnown) := ⟨rfl, rfl, rfl, by decide +kernel, rfl, by decide +kernel, by decide +kernel⟩
theorem go_known (B0 : Bn mg) (F : GT K mg "_law_known" sKnown ["rows", "active"]) : GO P w K mg base CX0 1 "_law_known" ["rows", "active"] spKnown := by
  obtain ⟨f, fd, F, hm, hb⟩ := F
  refine ⟨f, fd, ?_, hm, F.kp, hb⟩
  refine F.ok scKnown (fun vs H Q E h => ?_) (fun cdv A outer s H vs Q E hr h => ?_)
  · obtain ⟨ra, al, ρs, qs, rfl, _⟩ := h
    rfl
  · obtain ⟨ra, al, ρs, qs, rfl, hra, hal, hcl, hx, nd2, ap, aq, zq, zr, k⟩ := h
    have hsl : sizeLine = 16777216 := sizeLine_eq
    have nd := scKnown.nd
    have hu65 : (A.deeper (envOfC "_law_known" (defScope sKnown) s.heap.objs.size f cdv)).units + 65 < cLine := by have := hr.un; omega
    refine ⟨_, (pss_one (ps_for PassesOwn.never rfl (pi_list (pv 0)) (pg_name (i := 2) nd rfl (Or.inl rfl))
  (pss_cons (ps_setLc (i := 3) (own := [("call", 4)]) (g := (gName 4)) (tt := tTest (tOp (rInD K) (tVar 4) (tVar 1))) rfl nd rfl rfl (sw_true rfl rfl rfl (by decide +kernel)) (pi_list (pe_ix ix_list (pv 2) pe_int (fun _ _ => rfl))) (blkOk_by (N := ["rows", "active", "row", "near", "call"]) (sc := defScope sKnown) (by decide +kernel)) (fun _ _ _ _ _ => (pg_name (i := 4) nd rfl (Or.inl rfl))) (fun _ _ _ _ _ => pts_one (pt_cmpR (op_inD hu65) (pv 4) (pv 1) (by with_unfolding_all rfl))) (fun _ _ _ _ _ => (pv 4)))
  (pss_one (ps_if (pt_cmpR op_gt (pe_callB call_len_seq (by rfl) B0.len PySem.boot_len (pa_cons (pv 3) pa_nil)) pe_int (nomark _))
  (pss_one (ps_for PassesOwn.never rfl (pi_list (pv 1)) (pg_name (i := 4) nd rfl (Or.inl rfl))
  (pss_one (ps_if (pt_cmpR (op_notInD hu65) (pv 4) (pe_ix ix_list (pv 2) pe_int (fun _ _ => rfl)) (by with_unfolding_all rfl))
  (pss_one (ps_expr (pe_bm PySem.F.plainAttrs_list PySem.F.slot_list_append PySem.F.type_list_append mt_append (pe_ix ix_list (pv 2) pe_int (fun _ _ => rfl)) (pa_cons (pv 4) pa_nil))))
  pss_nil))))
  pss_nil))))), ?_⟩
    refine ⟨_, rfl, ra, rfl, ⟨_, SqL.of hra⟩, for_list (xs := ρs.map fun ρ => V.ref ρ.a) (fun i σ H' => ∃ (x2 x3 x4 : Option V) (f : Nat → QL), σ = [some (.ref ra), some (.ref al), x2, x3, x4] ∧ (∀ j ρ, ρs[j]? = some ρ → H' ρ.c2 = some (.lst (refs (f j))) ∧ CL H' (f j) ∧ Kn qs ρ (f j) ∧ (i ≤ j → f j = ρ.q2)) ∧ (∀ b o, H b = some o → (∀ ρ, ρ ∈ ρs → b ≠ ρ.c2) → H' b = some o)) ?_ ?_ ?_ ?_⟩
    · exact ⟨_, _, _, fun j => (ρs[j]?.map Rx.q2).getD [], rfl, fun j ρ hj => by
        have hR := hx ρ (List.mem_of_getElem? hj)
        dsimp only
        rw [hj]
        exact ⟨hR.l2, hR.k2, ⟨fun c hc => .inl hc, by show ρ.q2.length ≤ _; omega⟩, fun _ => rfl⟩, fun b o e _ => e⟩
    · rintro i σ H' _ ⟨x2, x3, x4, f, rfl, hf, fr⟩
      exact SqL.of (fr _ _ hra fun ρ hm' => (aq ρ hm').1)
    · rintro i x σ H' hi ⟨x2, x3, x4, f, rfl, hf, fr⟩
      rw [List.getElem?_map] at hi
      obtain ⟨ρ, hρ, rfl⟩ := Option.map_eq_some_iff.mp hi
      have hρm := List.mem_of_getElem? hρ
      have hR := hx ρ hρm
      have n2 : ∀ b, b = ρ.a ∨ b = ρ.c1 ∨ b = ra ∨ b = al → ∀ ρ', ρ' ∈ ρs → b ≠ ρ'.c2 := fun b hb ρ' hm' => by
        rcases hb with e | e | e | e
        · rw [e]; exact (ap ρ ρ' hρm hm').1
        · rw [e]; exact (ap ρ ρ' hρm hm').2
        · rw [e]; exact (aq ρ' hm').1
        · rw [e]; exact (aq ρ' hm').2
      have oa := fr _ _ hR.ob (n2 _ (.inl rfl))
      have o1 := fr _ _ hR.l1 (n2 _ (.inr (.inl rfl)))
      have oal := fr _ _ hal (n2 _ (.inr (.inr (.inr rfl))))
      have tp : ∀ b xs, H b = some (.tup xs) → H' b = some (.tup xs) := fun b xs e => fr _ _ e fun ρ' hm' => ne_of e (hx ρ' hm').l2 (by intro z; cases z)
      obtain ⟨o2, kf, _, fq⟩ := hf i ρ hρ
      have fq := fq (Nat.le_refl i)
      rw [fq] at o2 kf
      have zlen := zr ρ hρm
      refine ⟨_, rfl, ρ.a, _, 1, .ref ρ.c1, rfl, rfl, SqL.of oa, atI_nat (j := 1) rfl, ?_⟩
      refine ⟨ρ.c1, rfl, ⟨_, SqL.of o1⟩, fun D hD => lc_list (K := K) (a := ρ.c1) (xs := refs ρ.q1) (fun n H2 => H2 D = some (.lst (refs ((ρ.q1.take n).filter fun x => decide (x.2 ∈ cs_ qs)))) ∧ Same H' H2) ⟨upd_same, up1 hD⟩ (fun n H2 _ q => SqL.of (q.2 _ _ o1)) ?_ ?_⟩
      · rintro n x H2 hn ⟨hD2, s2⟩
        rw [List.getElem?_map] at hn
        obtain ⟨y, hy, rfl⟩ := Option.map_eq_some_iff.mp hn
        have hp := s2 _ _ (tp _ _ (hR.k1 y (List.mem_of_getElem? hy)))
        have hl2 := s2 _ _ oal
        have hc2 : CL H2 qs := hcl.on fun b xs e => s2 _ _ (tp _ _ e)
        have zn : (refs ((ρ.q1.take n).filter fun x => decide (x.2 ∈ cs_ qs))).length < sizeLine := by
          rw [List.length_map]
          have := List.length_filter_le (fun x : Addr × Call => decide (x.2 ∈ cs_ qs)) (ρ.q1.take n)
          rw [List.length_take] at this
          omega
        refine ⟨rfl, _, rfl, _, rfl, in_cl hp hl2 hc2 ⟨_, rfl, ?_⟩⟩
        by_cases c : y.2 ∈ cs_ qs
        · rw [decide_eq_true c]
          refine iteT ⟨_, rfl, _, hD2, zn, ?_, fun b o e => by rw [upd_ne (ne_of_none e hD)]; exact s2 b o e⟩
          rw [upd_same, gfil_t hy (decide_eq_true c)]
          show _ = some (HO.lst (List.map _ (_ ++ [y])))
          rw [List.map_append]
          rfl
        · rw [decide_eq_false c]
          refine iteF ⟨?_, s2⟩
          rw [gfil_f hy (decide_eq_false c)]
          exact hD2
      rintro H2 ⟨hD2, s2⟩
      rw [List.length_map, List.take_length] at hD2
      have fr2 : ∀ b o, H b = some o → (∀ ρ, ρ ∈ ρs → b ≠ ρ.c2) → H2 b = some o := fun b o e n => s2 _ _ (fr b o e n)
      have oa2 := s2 _ _ oa
      have oal2 := s2 _ _ oal
      have o22 := s2 _ _ o2
      have kf2 : CL H2 ρ.q2 := kf.on fun b xs e => s2 _ _ e
      have hcl2 : CL H2 qs := hcl.on fun b xs e => s2 _ _ (tp _ _ e)
      refine ⟨_, rfl, D, _, rfl, .inl (SqL.of hD2), _, _, rfl, rfl, _, rfl, ?_⟩
      by_cases c : 0 < (ρ.q1.filter fun x => decide (x.2 ∈ cs_ qs)).length
      · have ⟨y0, hy0⟩ : ∃ y, y ∈ ρ.q1.filter fun x => decide (x.2 ∈ cs_ qs) := List.exists_mem_of_length_pos c
        have ⟨hy1, hy2⟩ := List.mem_filter.mp hy0
        have near : ∃ c0, c0 ∈ cs_ ρ.q1 ∧ c0 ∈ cs_ qs := ⟨y0.2, List.mem_map.mpr ⟨y0, hy1, rfl⟩, of_decide_eq_true hy2⟩
        rw [decide_eq_true (show (0 : Int) < (((refs (ρ.q1.filter fun x => decide (x.2 ∈ cs_ qs))).length : Nat) : Int) by rw [List.length_map]; omega)]
        refine iteT ⟨_, rfl, al, rfl, ⟨_, SqL.of oal2⟩, for_list (xs := refs qs) (fun n σ H3 => ∃ (x4 : Option V) (q : QL), σ = [some (.ref ra), some (.ref al), some (.ref ρ.a), some (.ref D), x4] ∧ H3 ρ.c2 = some (.lst (refs q)) ∧ CL H3 q ∧ (∀ c, c ∈ cs_ q → c ∈ cs_ ρ.q2 ∨ c ∈ cs_ qs) ∧ q.length ≤ ρ.q2.length + n ∧ (∀ b o, H2 b = some o → b ≠ ρ.c2 → H3 b = some o)) ⟨_, ρ.q2, rfl, o22, kf2, fun c hc => .inl hc, Nat.le_refl _, fun b o e _ => e⟩ ?_ ?_ ?_⟩
        · rintro n σ H3 _ ⟨x4', q, rfl, _, _, _, _, fr3⟩
          exact SqL.of (fr3 _ _ oal2 (aq ρ hρm).2)
        · rintro n x σ H3 hn ⟨x4', q, rfl, h3, c3, m3, z3, fr3⟩
          rw [List.getElem?_map] at hn
          obtain ⟨y, hy, rfl⟩ := Option.map_eq_some_iff.mp hn
          have hym := List.mem_of_getElem? hy
          have hlt : n < qs.length := (List.getElem?_eq_some_iff.mp hy).1
          have tp3 : ∀ b xs, H2 b = some (.tup xs) → H3 b = some (.tup xs) := fun b xs e => fr3 _ _ e (ne_of e o22 (by intro z; cases z))
          have hp := tp3 _ _ (hcl2 y hym)
          have oa3 := fr3 _ _ oa2 (ap ρ ρ hρm hρm).1
          refine ⟨_, rfl, _, rfl, ρ.a, _, 2, .ref ρ.c2, rfl, rfl, SqL.of oa3, atI_nat (j := 2) rfl, notin_cl hp h3 c3 ⟨_, rfl, ?_⟩⟩
          by_cases hc : y.2 ∈ cs_ q
          · rw [decide_eq_true hc]
            exact iteF ⟨_, q, rfl, h3, c3, m3, by omega, fr3⟩
          · rw [decide_eq_false hc]
            refine iteT ⟨_, rfl, ρ.a, _, 2, .ref ρ.c2, rfl, rfl, SqL.of oa3, atI_nat (j := 2) rfl, .inl ⟨rfl, _, SqL.of h3⟩, _, rfl, ρ.c2, _, _, rfl, rfl, h3, (by rw [List.length_map]; omega), ?_⟩
            have kp : ∀ b o, H3 b = some o → b ≠ ρ.c2 → upd H3 ρ.c2 (.lst (refs q ++ [.ref y.1])) b = some o := fun b o e n => by rw [upd_ne n]; exact e
            refine ⟨_, q ++ [y], rfl, ?_, ?_, fun c hc => ?_, by rw [List.length_append]; simp; omega, fun b o e n => kp b o (fr3 b o e n) n⟩
            · rw [upd_same, refs_app]
              rfl
            · exact (c3.app fun x hx => by rw [List.mem_singleton.mp hx]; exact hp).on fun b xs e => kp b _ e (ne_of e h3 (by intro z; cases z))
            · rw [cs_app] at hc
              rcases List.mem_append.mp hc with h | h
              · exact m3 c h
              · rw [List.mem_singleton.mp h]
                exact .inr (List.mem_map.mpr ⟨y, hym, rfl⟩)
        · rintro σ H3 ⟨x4', q, rfl, h3, c3, m3, z3, fr3⟩
          rw [List.length_map] at z3
          have fr13 : ∀ b o, H' b = some o → b ≠ ρ.c2 → H3 b = some o := fun b o e n => fr3 b o (s2 _ _ e) n
          refine ⟨_, _, _, upN f i q, rfl, fun j ρ' hj => ?_, fun b o e n => fr3 _ _ (fr2 b o e n) (n ρ hρm)⟩
          by_cases cj : j = i
          · subst cj
            rw [hρ] at hj
            cases hj
            rw [upN_same]
            exact ⟨h3, c3, ⟨fun c hc => (m3 c hc).imp id fun h => ⟨h, near⟩, z3⟩, fun h => absurd h (by omega)⟩
          · obtain ⟨g1, g2, g3, g4⟩ := hf j ρ' hj
            have ne : ρ'.c2 ≠ ρ.c2 := fun z => cj (by
              have hil : i < (ρs.map Rx.c2).length := by rw [List.length_map]; exact (List.getElem?_eq_some_iff.mp hρ).1
              refine ((List.getElem?_inj hil nd2).mp ?_).symm
              rw [List.getElem?_map, List.getElem?_map, hρ, hj]
              exact congrArg some z.symm)
            rw [upN_ne cj]
            exact ⟨fr13 _ _ g1 ne, g2.on fun b xs e => fr13 _ _ e (ne_of e o2 (by intro z; cases z)), g3, fun h => g4 (by omega)⟩
      · rw [decide_eq_false (show ¬ (0 : Int) < (((refs (ρ.q1.filter fun x => decide (x.2 ∈ cs_ qs))).length : Nat) : Int) by rw [List.length_map]; omega)]
        exact iteF ⟨_, _, _, f, rfl, fun j ρ' hj => let ⟨g1, g2, g3, g4⟩ := hf j ρ' hj; ⟨s2 _ _ g1, g2.on fun b xs e => s2 _ _ e, g3, fun h => g4 (by omega)⟩, fr2⟩
    · rintro σ H' ⟨x2, x3, x4, f, rfl, hf, fr⟩
      exact k H' f (fun j ρ hj => ⟨(hf j ρ hj).1, (hf j ρ hj).2.1, (hf j ρ hj).2.2.1⟩) fr
end
end Dk

set_option maxHeartbeats 4000000
/-! _law_held -/
namespace Dk
open PySem PySem.Spec PyProof.Rows L2 StX
abbrev sHeld : Stmt := top 30
theorem flat_ints : ∀ l : List Int, (l.map V.int).all flatV = true
  | [] => rfl
  | _ :: l => flat_ints l
theorem inV_ints {c : Int} : ∀ {l : List Int}, inV (.int c) (l.map V.int) = decide (c ∈ l)
  | [] => by simp [inV]
  | x :: l => by
    have ih := inV_ints (c := c) (l := l)
    have e : inV (.int c) ((x :: l).map V.int) = (eqV (.int x) (.int c) || inV (.int c) (l.map V.int)) := rfl
    rw [e, ih]
    have e2 : eqV (.int x) (.int c) = decide (x = c) := by
      show (x == c) = decide (x = c)
      by_cases h : x = c
      · subst h; simp
      · rw [decide_eq_false h]; exact beq_eq_false_iff_ne.mpr h
    rw [e2]
    by_cases h : x = c
    · simp [h]
    · have h' : ¬ c = x := fun z => h z.symm
      simp [h, h']
def spHeld (S : Addr) : Sp := fun vs H Q _ => ∃ (st la ra al : Addr) (t : Int) (fa wa oa : Addr) (fr out : List Int) (rw' : List Rw) (ρs : List Rx) (qs : QL), vs = [.ref st, .ref ra, .ref al] ∧ StAt S H st la t fa wa oa fr out rw' ∧ H ra = some (.lst (ρs.map fun ρ => .ref ρ.a)) ∧ H al = some (.lst (refs qs)) ∧ CL H qs ∧ (∀ ρ, ρ ∈ ρs → RxAt H ρ) ∧
  (∀ ρ, ρ ∈ ρs → ρ.cell ∈ fr → ∀ c, c ∈ cs_ qs → c ∉ cs_ ρ.q1 ∧ c ∉ cs_ ρ.q2) ∧ ∀ H', Same H H' → Q (.bl true) H'
section
variable {P : Program} {w : World} {K : PySem.W.Frag} {mg : Str → Option Value} {base : Heap} {C M S : Addr}
abbrev NHd : List Str := ["store", "rows", "active", "free", "row", "call"]
theorem scHeld : FnScope NHd ["store", "rows", "active"] (defScope sHeld) := ⟨rfl, rfl, rfl, by decide +kernel, rfl, by decide +kernel, by decide +kernel⟩
theorem go_held (F : GT K mg "_law_held" sHeld ["store", "rows", "active"]) (T : STxt K mg S) (GFc : MO P w K mg base CX0 S 1 "free_cells" ["self"] (spFreeC S)) : GO P w K mg base CX0 2 "_law_held" ["store", "rows", "active"] (spHeld S) := by
  obtain ⟨f, fd, F, hm, hb⟩ := F
  refine ⟨f, fd, ?_, hm, F.kp, hb⟩
  refine F.ok scHeld (fun vs H Q E h => ?_) (fun cdv A outer s H vs Q E hr h => ?_)
  · obtain ⟨st, la, ra, al, t, fa, wa, oa, fr, out, rw', ρs, qs, rfl, _⟩ := h
    rfl
  · obtain ⟨st, la, ra, al, t, fa, wa, oa, fr, out, rw', ρs, qs, rfl, R, hra, hal, hcl, hx, hc, k⟩ := h
    have nd := scHeld.nd
    have hr1 : Room 1 _ := hr
    have hu65 : (A.deeper (envOfC "_law_held" (defScope sHeld) s.heap.objs.size f cdv)).units + 65 < cLine := by have := hr.un; omega
    obtain ⟨ds, hst⟩ := R.ob
    refine ⟨_, (pss_cons (ps_set (i := 3) nd rfl (Or.inl rfl) (pm0_ GFc T.cl hr1 (pv 0)))
  (pss_cons (ps_for PassesOwn.never rfl (pi_list (pv 1)) (pg_name (i := 4) nd rfl (Or.inl rfl))
  (pss_one (ps_if (pt_cmpR op_in_seq (pe_ix ix_list (pv 4) pe_int (fun _ _ => rfl)) (pv 3) (by with_unfolding_all rfl))
  (pss_one (ps_for PassesOwn.never rfl (pi_list (pv 2)) (pg_name (i := 5) nd rfl (Or.inl rfl))
  (pss_one (ps_if (PW.pt (pw_or (pt_cmpR (op_inD hu65) (pv 5) (pe_ix ix_list (pv 4) pe_int (fun _ _ => rfl)) (by with_unfolding_all rfl)) (pw_or1 (pt_cmpR (op_inD hu65) (pv 5) (pe_ix ix_list (pv 4) pe_int (fun _ _ => rfl)) (by with_unfolding_all rfl)))))
  (pss_one (ps_ret pe_bl))
  pss_nil))))
  pss_nil)))
  (pss_one (ps_ret pe_bl)))), ?_⟩
    refine ⟨_, rfl, st, ds, _, rfl, hst, rfl, st, la, t, fa, wa, oa, fr, out, rw', rfl, R, fun H1 p np hp s1 => ?_⟩
    refine ⟨_, rfl, ra, rfl, ⟨_, SqL.of (s1 _ _ hra)⟩, for_list (xs := ρs.map fun ρ => V.ref ρ.a) (fun i σ H' => ∃ (x4 x5 : Option V), σ = [some (.ref st), some (.ref ra), some (.ref al), some (.ref p), x4, x5] ∧ H' = H1) ⟨_, _, rfl, rfl⟩ (fun i σ H' _ z => by obtain ⟨_, _, _, rfl⟩ := z; exact SqL.of (s1 _ _ hra)) ?_ ?_⟩
    · rintro i x σ H' hi ⟨x4, x5, rfl, rfl⟩
      rw [List.getElem?_map] at hi
      obtain ⟨ρ, hρ, rfl⟩ := Option.map_eq_some_iff.mp hi
      have hρm := List.mem_of_getElem? hρ
      have hR := hx ρ hρm
      have oa1 := s1 _ _ hR.ob
      refine ⟨_, rfl, ρ.a, _, 0, .int ρ.cell, rfl, rfl, SqL.of oa1, atI_nat (j := 0) rfl, _, rfl, p, _, rfl, .inl (SqL.of hp), rfl, flat_ints fr, _, rfl, ?_⟩
      rw [inV_ints]
      by_cases c : ρ.cell ∈ fr
      · rw [decide_eq_true c]
        refine iteT ⟨_, rfl, al, rfl, ⟨_, SqL.of (s1 _ _ hal)⟩, for_list (xs := refs qs) (fun n σ H3 => ∃ (x5 : Option V), σ = [some (.ref st), some (.ref ra), some (.ref al), some (.ref p), some (.ref ρ.a), x5] ∧ H3 = H') ⟨_, rfl, rfl⟩ (fun i σ H' _ z => by obtain ⟨_, _, rfl⟩ := z; exact SqL.of (s1 _ _ hal)) ?_ ?_⟩
        · rintro n x σ H3 hn ⟨x5', rfl, rfl⟩
          rw [List.getElem?_map] at hn
          obtain ⟨y, hy, rfl⟩ := Option.map_eq_some_iff.mp hn
          have hym := List.mem_of_getElem? hy
          obtain ⟨n1, n2⟩ := hc ρ hρm c y.2 (List.mem_map.mpr ⟨y, hym, rfl⟩)
          have hp3 := s1 _ _ (hcl y hym)
          have tp : ∀ b xs, H b = some (.tup xs) → H3 b = some (.tup xs) := fun b xs e => s1 _ _ e
          refine ⟨_, rfl, _, rfl, ρ.a, _, 1, .ref ρ.c1, rfl, rfl, SqL.of oa1, atI_nat (j := 1) rfl, in_cl hp3 (s1 _ _ hR.l1) (hR.k1.on tp) ⟨_, rfl, iteC (decide_eq_false n1) ?_⟩⟩
          refine ⟨_, rfl, _, rfl, ρ.a, _, 2, .ref ρ.c2, rfl, rfl, SqL.of oa1, atI_nat (j := 2) rfl, in_cl hp3 (s1 _ _ hR.l2) (hR.k2.on tp) ⟨_, rfl, iteC (decide_eq_false n2) ?_⟩⟩
          exact ⟨_, rfl, rfl⟩
        · rintro σ H3 ⟨x5', rfl, rfl⟩
          exact ⟨_, _, rfl, rfl⟩
      · rw [decide_eq_false c]
        exact iteF ⟨_, _, rfl, rfl⟩
    · rintro σ H' ⟨x4, x5, rfl, rfl⟩
      exact k _ s1
end
end Dk

set_option maxHeartbeats 4000000
/-! what waits, with what the present call has taken out -/
namespace Dk
open PySem PySem.Spec PyProof.Rows L2 StX
/-- a row of the answer -/
structure Wu where
  p : Addr
  sv : V
  q : Addr
  cs : List Int
def WuAt (H : Hp) (us : List Wu) : Prop := ∀ u, u ∈ us → H u.p = some (.tup [u.sv, .ref u.q]) ∧ H u.q = some (.lst (u.cs.map V.int))
def spWaitO (S : Addr) : Sp := fun vs H Q _ => ∃ (a la : Addr) (t : Int) (fa wa oa : Addr) (fr out : List Int) (rows : List Rw), vs = [.ref a] ∧ StAt S H a la t fa wa oa fr out rows ∧ rows.length < 1000 ∧
  ∀ H' p us, H p = none → H' p = some (.lst (us.map fun (u : Wu) => V.ref u.p)) → WuAt H' us → (us.flatMap fun u => u.cs) = (rows.flatMap fun r => r.cs) ++ out → (rows = [] → out = [] → us = []) → Same H H' → Q (.ref p) H'
section
variable {P : Program} {w : World} {K : PySem.W.Frag} {mg : Str → Option Value} {base : Heap} {C M S : Addr}
theorem mo_waitO (F : MT K S "waiting" "Store.waiting" sWait ["self"]) (T : STxt K mg S) : MO P w K mg base CX0 S 1 "waiting" ["self"] (spWaitO S) := by
  obtain ⟨f, fd, F, hm, hb⟩ := F
  refine ⟨f, fd, ?_, hm, hb⟩
  refine F.ok scWait (fun vs H Q E h => ?_) (fun cdv A outer s H vs Q E hr h => ?_)
  · obtain ⟨a, la, t, fa, wa, oa, fr, out, rows, rfl, _⟩ := h
    rfl
  · obtain ⟨a, la, t, fa, wa, oa, fr, out, rows, rfl, R, hz, k⟩ := h
    obtain ⟨dx, ha⟩ := R.ob
    have nd := scWait.nd
    have hsl : sizeLine = 16777216 := sizeLine_eq
    refine ⟨_, (pss_cons (ps_setLc (i := 1) (own := [("stamp", 2), ("cells", 3)]) (g := (gTup K 2 (gCons (gName 2) (gCons (gName 3) gNil)))) (tt := tYes) rfl nd rfl rfl (sw_true rfl rfl rfl (by decide +kernel)) (pi_list (pe_fld (pv 0) rfl)) (blkOk_by (N := ["self", "rows", "stamp", "cells"]) (sc := defScope sWait) (by decide +kernel)) (fun _ _ _ _ _ => (pg_tup (by rfl) (pgs_cons (pg_name (i := 2) nd rfl (Or.inl rfl)) (pgs_cons (pg_name (i := 3) nd rfl (Or.inl rfl)) pgs_nil)))) (fun _ _ _ _ _ => pts_nil) (fun _ _ _ _ _ => (pe_tup (pa_cons (pv 2) (pa_cons (pe_callTy (T := "list") (r := rLof K) call_list_of (by rfl) T.list (by decide +kernel) (pa_cons (pv 3) pa_nil)) pa_nil)))))
  (pss_cons (ps_if (pt_truth (pe_fld (pv 0) rfl) (by intro _; rfl))
  (pss_one (ps_expr (pe_bm PySem.F.plainAttrs_list PySem.F.slot_list_append PySem.F.type_list_append mt_append (pv 1) (pa_cons (pe_tup (pa_cons pe_non (pa_cons (pe_callTy call_list_of (by rfl) T.list (by decide +kernel) (pa_cons (pe_fld (pv 0) rfl) pa_nil)) pa_nil))) pa_nil))))
  pss_nil)
  (pss_one (ps_ret (pv 1))))), ?_⟩
    refine ⟨_, rfl, a, S, dx, _, _, rfl, ha, T.cl, T.nW, rfl, wa, rfl, ⟨_, SqL.of R.w⟩, fun D hD => lc_list (K := K) (a := wa) (xs := rows.map fun (r : Rw) => V.ref r.p) (fun i H' => Same H H' ∧ ∃ us : List Wu, H' D = some (.lst (us.map fun u => V.ref u.p)) ∧ us.length = i ∧ (us.flatMap fun u => u.cs) = ((rows.take i).flatMap fun r => r.cs) ∧ WuAt H' us ∧ ∀ u, u ∈ us → u.q ≠ D)
      ⟨up1 hD, [], upd_same, rfl, rfl, (fun u hu => by simp at hu), fun u hu => by simp at hu⟩ (fun i H' _ q => SqL.of (q.1 _ _ R.w)) ?_ ?_⟩
    · rintro i x H' hi ⟨s1, us, hD', pl, pc, pr, pn⟩
      obtain ⟨hil, rfl⟩ := rows_get hi
      have rr := R.r rows[i] (List.getElem_mem hil)
      have h1 := s1 _ _ rr.1
      have h2 := s1 _ _ rr.2
      refine ⟨rows[i].p, _, rfl, SqT.of h1, rfl, _, _, rfl, _, _, rfl, rfl, rfl, _, rfl, _, rfl, rows[i].q, _, rfl, .inl (SqL.of h2), fun q hq => ⟨(by show 2 ≤ sizeLine; decide), fun p hp => ?_⟩⟩
      have s2 := up1 (o := HO.lst (rows[i].cs.map V.int)) hq
      have e2 : upd H' q (HO.lst (rows[i].cs.map V.int)) q = _ := upd_same
      have q_D : q ≠ D := (ne_of_none hD' hq).symm
      generalize upd H' q (HO.lst (rows[i].cs.map V.int)) = H2 at s2 e2 hp ⊢
      have s3 := up1 (o := HO.tup [V.int rows[i].e, V.ref q]) hp
      have e3 : upd H2 p (HO.tup [V.int rows[i].e, V.ref q]) p = _ := upd_same
      generalize upd H2 p (HO.tup [V.int rows[i].e, V.ref q]) = H3 at s3 e3 ⊢
      have hD3 := s3 _ _ (s2 _ _ hD')
      have kD : ∀ {b : Addr} {o : HO} {l : List V}, H3 b = some o → b ≠ D → upd H3 D (.lst l) b = some o := fun {b o l} e n => by rw [upd_ne n]; exact e
      refine ⟨_, hD3, (by rw [List.length_map]; omega), fun b o e => by rw [upd_ne (ne_of_none e hD)]; exact s3 _ _ (s2 _ _ (s1 _ _ e)), us ++ [⟨p, .int rows[i].e, q, rows[i].cs⟩], by rw [upd_same, List.map_append]; rfl, by rw [List.length_append, pl]; rfl, ?_, fun u hu => ?_, fun u hu => ?_⟩
      · rw [List.flatMap_append, pc, List.take_succ_eq_append_getElem hil, List.flatMap_append]
        rfl
      · rcases List.mem_append.mp hu with h | h
        · obtain ⟨g2, g3⟩ := pr u h
          have g2 := s3 _ _ (s2 _ _ g2)
          exact ⟨kD g2 (ne_of g2 hD3 (by intro z; cases z)), kD (s3 _ _ (s2 _ _ g3)) (pn u h)⟩
        · have h := List.mem_singleton.mp h
          subst h
          exact ⟨kD e3 (ne_of e3 hD3 (by intro z; cases z)), kD (s3 _ _ e2) q_D⟩
      · rcases List.mem_append.mp hu with h | h
        · exact pn u h
        · have h := List.mem_singleton.mp h
          subst h
          exact q_D
    · rintro H1 ⟨s1, us, hD1, pl, pc, pr, pn⟩
      rw [List.length_map] at pl pc
      rw [List.take_length] at pc
      have ho := s1 _ _ R.o
      by_cases co : out = []
      · subst co
        refine ⟨_, rfl, a, S, dx, _, _, rfl, s1 _ _ ha, T.cl, T.nO, rfl, false, .inl ⟨_, SqL.of ho, rfl⟩, iteF ⟨_, rfl, k H1 D us hD hD1 pr (by rw [pc, List.append_nil]) (fun h _ => ?_) s1⟩⟩
        rw [h] at pl
        exact List.length_eq_zero_iff.mp pl
      · refine ⟨_, rfl, a, S, dx, _, _, rfl, s1 _ _ ha, T.cl, T.nO, rfl, true, .inl ⟨_, SqL.of ho, (by cases out; exact absurd rfl co; rfl)⟩, iteT ?_⟩
        refine ⟨_, rfl, .inl ⟨rfl, _, SqL.of hD1⟩, _, rfl, a, S, dx, _, _, rfl, s1 _ _ ha, T.cl, T.nO, rfl, oa, _, rfl, .inl (SqL.of ho), fun q hq => ⟨(by show 2 ≤ sizeLine; decide), fun p hp => ?_⟩⟩
        have s2 := up1 (o := HO.lst (out.map V.int)) hq
        have e2 : upd H1 q (HO.lst (out.map V.int)) q = _ := upd_same
        have q_D : q ≠ D := (ne_of_none hD1 hq).symm
        generalize upd H1 q (HO.lst (out.map V.int)) = H2 at s2 e2 hp ⊢
        have s3 := up1 (o := HO.tup [V.non, V.ref q]) hp
        have e3 : upd H2 p (HO.tup [V.non, V.ref q]) p = _ := upd_same
        generalize upd H2 p (HO.tup [V.non, V.ref q]) = H3 at s3 e3 ⊢
        have hD3 := s3 _ _ (s2 _ _ hD1)
        have kD : ∀ {b : Addr} {o : HO} {l : List V}, H3 b = some o → b ≠ D → upd H3 D (.lst l) b = some o := fun {b o l} e n => by rw [upd_ne n]; exact e
        refine ⟨D, _, _, rfl, rfl, hD3, (by rw [List.length_map]; omega), ?_⟩
        refine ⟨_, rfl, k _ D (us ++ [⟨p, .non, q, out⟩]) hD (by rw [upd_same, List.map_append]; rfl) (fun u hu => ?_) ?_ (fun _ h => absurd h co) fun b o e => by rw [upd_ne (ne_of_none e hD)]; exact s3 _ _ (s2 _ _ (s1 _ _ e))⟩
        · rcases List.mem_append.mp hu with h | h
          · obtain ⟨g2, g3⟩ := pr u h
            have g2 := s3 _ _ (s2 _ _ g2)
            exact ⟨kD g2 (ne_of g2 hD3 (by intro z; cases z)), kD (s3 _ _ (s2 _ _ g3)) (pn u h)⟩
          · have h := List.mem_singleton.mp h
            subst h
            exact ⟨kD e3 (ne_of e3 hD3 (by intro z; cases z)), kD (s3 _ _ e2) q_D⟩
        · rw [List.flatMap_append, pc]
          show _ ++ (out ++ []) = _
          rw [List.append_nil]
end
end Dk

set_option maxHeartbeats 4000000
/-! _law_whole -/
namespace Dk
open PySem PySem.Spec PyProof.Rows L2 StX
abbrev sLWhole : Stmt := top 32
theorem sh_ints (ns : List Int) : SeqAt.shaped (.list (ns.map PyData.int)) = true := PySem.W.ke_shaped_ints ns
theorem asc_uniq {a b : List Int} (hp : a.Perm b) (ha : Asc a) (hb : Asc b) : a = b := PySem.W.ksm_same hp ha hb
theorem eqv_sh {d : PyData} (h : SeqAt.shaped d = true) : PyData.eqv d d = true := SeqAt.eqv_refl _ (SeqAt.canLay_of_shaped h)
def spLWhole (S : Addr) : Sp := fun vs H Q _ => ∃ (st la : Addr) (t : Int) (fa wa oa : Addr) (fr out : List Int) (rows : List Rw) (fi : Addr) (first : List Int), vs = [.ref st, .ref fi] ∧ StAt S H st la t fa wa oa fr out rows ∧ rows.length < 1000 ∧ H fi = some (.lst (first.map V.int)) ∧ (fr ++ (rows.flatMap fun r => r.cs) ++ out).Perm first ∧ Asc first ∧ first.length < 1000 ∧ ∀ H', Same H H' → Q (.bl true) H'
section
variable {P : Program} {w : World} {K : PySem.W.Frag} {mg : Str → Option Value} {base : Heap} {C M S : Addr}
abbrev NLw : List Str := ["store", "first", "cells", "row"]
theorem scLWhole : FnScope NLw ["store", "first"] (defScope sLWhole) := ⟨rfl, rfl, rfl, by decide +kernel, rfl, by decide +kernel, by decide +kernel⟩
theorem go_lwhole (F : GT K mg "_law_whole" sLWhole ["store", "first"]) (T : STxt K mg S) (GFc : MO P w K mg base CX0 S 1 "free_cells" ["self"] (spFreeC S)) (GWt : MO P w K mg base CX0 S 1 "waiting" ["self"] (spWaitO S)) : GO P w K mg base CX0 2 "_law_whole" ["store", "first"] (spLWhole S) := by
  obtain ⟨f, fd, F, hm, hb⟩ := F
  refine ⟨f, fd, ?_, hm, F.kp, hb⟩
  refine F.ok scLWhole (fun vs H Q E h => ?_) (fun cdv A outer s H vs Q E hr h => ?_)
  · obtain ⟨st, la, t, fa, wa, oa, fr, out, rows, fi, first, rfl, _⟩ := h
    rfl
  · obtain ⟨st, la, t, fa, wa, oa, fr, out, rows, fi, first, rfl, R, hz, hfi, pm, asc, z1, k⟩ := h
    have nd := scLWhole.nd
    have hsl : sizeLine = 16777216 := sizeLine_eq
    have hr1 : Room 1 _ := hr
    obtain ⟨ds, hst⟩ := R.ob
    refine ⟨_, (pss_cons (ps_set (i := 2) nd rfl (Or.inl rfl) (pe_callTy (T := "list") (r := rLof K) call_list_of (by rfl) T.list (by decide +kernel) (pa_cons (pm0_ GFc T.cl hr1 (pv 0)) pa_nil)))
  (pss_cons (ps_for PassesOwn.never rfl (pi_list (pm0_ GWt T.cl hr1 (pv 0))) (pg_name (i := 3) nd rfl (Or.inl rfl))
  (pss_one (ps_set (i := 2) nd rfl (Or.inl rfl) (pe_op op_cat (pv 2) (pe_ix ix_tup (pv 3) pe_int (fun _ _ => rfl))))))
  (pss_one (ps_ret (pe_cmpR (op_eqD hr.units) (pe_callB cr_sortedI (by rfl) T.sorted (by decide +kernel) (pa_cons (pv 2) pa_nil)) (pv 1) (nomark _)))))), ?_⟩
    refine ⟨_, rfl, st, ds, _, rfl, hst, rfl, st, la, t, fa, wa, oa, fr, out, rows, rfl, R, fun H1 p np hp s1 => ?_⟩
    refine ⟨p, _, rfl, .inl (SqL.of hp), fun c hc => ?_⟩
    have s2 := up1 (o := HO.lst (fr.map V.int)) hc
    have e2 : upd H1 c (HO.lst (fr.map V.int)) c = _ := upd_same
    generalize upd H1 c (HO.lst (fr.map V.int)) = H2 at s2 e2 ⊢
    have s02 := s1.trans s2
    refine ⟨_, rfl, st, ds, _, rfl, s02 _ _ hst, rfl, st, la, t, fa, wa, oa, fr, out, rows, rfl, R.same s02, hz, fun H3 p3 us np3 hp3 hus eus _ s3 => ?_⟩
    have s03 := s02.trans s3
    have lus : ∀ i, i ≤ us.length → (fr ++ (us.take i).flatMap fun u => u.cs).length ≤ first.length := fun i hi => by
      have l := pm.length_eq
      rw [List.append_assoc, ← eus, List.length_append] at l
      have e : (us.flatMap fun u => u.cs) = ((us.take i).flatMap fun u => u.cs) ++ ((us.drop i).flatMap fun u => u.cs) := by rw [← List.flatMap_append, List.take_append_drop]
      rw [e, List.length_append] at l
      rw [List.length_append]
      omega
    refine ⟨p3, rfl, ⟨_, SqL.of hp3⟩, for_list (xs := us.map fun u => V.ref u.p) (fun i σ H' => ∃ (x3 : Option V) (c' : Addr), σ = [some (.ref st), some (.ref fi), some (.ref c'), x3] ∧ H' c' = some (.lst ((fr ++ (us.take i).flatMap fun u => u.cs).map V.int)) ∧ Same H3 H') ⟨_, c, rfl, by rw [List.take_zero]; show _ = some (HO.lst ((fr ++ []).map V.int)); rw [List.append_nil]; exact s3 _ _ e2, Same.refl _⟩ (fun i σ H' _ z => by obtain ⟨_, _, _, _, s4⟩ := z; exact SqL.of (s4 _ _ hp3)) ?_ ?_⟩
    · rintro i x σ H' hi ⟨x3, c', rfl, hc', s4⟩
      rw [List.getElem?_map] at hi
      obtain ⟨u, hu, rfl⟩ := Option.map_eq_some_iff.mp hi
      obtain ⟨hil, hui⟩ := List.getElem?_eq_some_iff.mp hu
      obtain ⟨g1, g2⟩ := hus u (List.mem_of_getElem? hu)
      have et : (us.take (i + 1)).flatMap (fun u => u.cs) = (us.take i).flatMap (fun u => u.cs) ++ u.cs := by
        rw [List.take_succ_eq_append_getElem hil, List.flatMap_append, hui]
        show _ ++ (u.cs ++ []) = _
        rw [List.append_nil]
      have l1 := lus (i + 1) (by omega)
      rw [et, ← List.append_assoc, List.length_append] at l1
      refine ⟨_, rfl, _, rfl, u.p, _, 1, .ref u.q, rfl, rfl, SqT.of (s4 _ _ g1), rfl, c', u.q, _, _, rfl, rfl, hc', s4 _ _ g2, (by rw [List.length_map, List.length_map]; omega), fun q hq => ?_⟩
      refine ⟨_, q, rfl, ?_, s4.trans (up1 hq)⟩
      rw [upd_same, et, ← List.append_assoc, List.map_append (l₁ := fr ++ _)]
    · rintro σ H' ⟨x3, c', rfl, hc', s4⟩
      rw [List.length_map, List.take_length, eus, ← List.append_assoc] at hc'
      refine ⟨_, rfl, c', _, rfl, SqL.of hc', fun ns q pmn ascn hq => ?_⟩
      have en : ns = first := asc_uniq (pmn.trans pm) ascn asc
      subst en
      have s5 := s4.trans (up1 (o := HO.lst (ns.map V.int)) hq)
      refine ⟨_, rfl, _, _, dl upd_same, dl (s5 _ _ (s03 _ _ hfi)), sh_ints _, sh_ints _, ?_⟩
      rw [eqv_sh (sh_ints _)]
      exact k _ (s03.trans s5)
end
end Dk

set_option maxHeartbeats 4000000
/-! _law_store -/
namespace Dk
open PySem PySem.Spec PyProof.Rows L2 StX
abbrev sLStore : Stmt := top 31
theorem made_same {H : Hp} {x dx C : Addr} (nx : H x = none) (nd : H dx = none) : Same H (upd (upd H dx (.own x)) x (.ins C dx [])) := fun b o e => by rw [upd_ne (ne_of_none e nx), upd_ne (ne_of_none e nd)]; exact e
def spLStore (C S : Addr) : Sp := fun vs H Q _ => ∃ (la : Addr) (t w r : Nat) (i : Int), vs = [.ref la, .int i] ∧ LayAt C H la (t : Int) w r ∧ 0 < t ∧ 3 ≤ r ∧ r < 900 ∧
  ∀ H' st fa wa oa fr, Asc fr → fr.Nodup → fr.length < 900 → StAt S H' st la i fa wa oa fr [] [] → (∀ b, Ow st fa wa oa [] b → H b = none) → Same H H' → Q (.ref st) H'
section
variable {P : Program} {w : World} {K : PySem.W.Frag} {mg : Str → Option Value} {base : Heap} {C M S fSt : Addr} {fdSt : FuncData}
abbrev NLst : List Str := ["layout", "thread", "own", "k"]
theorem scLStore : FnScope NLst ["layout", "thread"] (defScope sLStore) := ⟨rfl, rfl, rfl, by decide +kernel, rfl, by decide +kernel, by decide +kernel⟩
theorem go_lstore (F : GT K mg "_law_store" sLStore ["layout", "thread"]) (B0 : Bn mg) (TL : LTxt K mg C) (gS : mg "Store" = some (.ref S)) (MSt : Mk K S fSt) (FSt : FnOk P w K mg base CX0 1 fSt fdSt ["self", "layout", "thread", "cells"] (spSInit S)) (bSt : Binds K fdSt ["self", "layout", "thread", "cells"] [])
    (GRec : MO P w K mg base CX0 C 4 "record" ["self", "index"] (spL1 C fun t w _ i => .int (rec0 t w + i))) (GDv : GO P w K mg base CX0 5 "divided" ["layout", "cells", "thread"] (spDivided C)) : GO P w K mg base CX0 6 "_law_store" ["layout", "thread"] (spLStore C S) := by
  obtain ⟨f, fd, F, hm, hb⟩ := F
  refine ⟨f, fd, ?_, hm, F.kp, hb⟩
  refine F.ok scLStore (fun vs H Q E h => ?_) (fun cdv A outer s H vs Q E hr h => ?_)
  · obtain ⟨la, t, w, r, i, rfl, _⟩ := h
    rfl
  · obtain ⟨la, t, wd, r, i, rfl, ⟨da, hla⟩, ht, h3, h9, k⟩ := h
    have nd := scLStore.nd
    have hsl : sizeLine = 16777216 := sizeLine_eq
    have hr4 : Room 4 _ := hr.mono (by decide)
    have hr5 : Room 5 _ := hr
    have hrS1 : Room (1 + 1) _ := hr.mono (by decide)
    refine ⟨_, (pss_cons (ps_setLc (i := 2) (own := [("k", 3)]) (g := (gName 3)) (tt := tYes) rfl nd rfl rfl (sw_true rfl rfl rfl (by decide +kernel)) (pi_range2 (by rfl) B0.range (pa_cons pe_int (pa_cons (pe_fld (pv 0) rfl) pa_nil))) (blkOk_by (N := ["layout", "thread", "own", "k"]) (sc := defScope sLStore) (by decide +kernel)) (fun _ _ _ _ _ => (pg_name (i := 3) nd rfl (Or.inl rfl))) (fun _ _ _ _ _ => pts_nil) (fun _ _ _ _ _ => (pm_ GRec TL.cl hr4 (pv 0) (pa_cons (pv 3) pa_nil))))
  (pss_one (ps_ret (pe_make MSt FSt hrS1 rfl gS bSt .nil pass0 (pa_cons (pv 0) (pa_cons (pv 1) (pa_cons (pc_ GDv hr5 (pa_cons (pv 0) (pa_cons (pv 2) (pa_cons (pv 1) pa_nil)))) pa_nil))))))), ?_⟩
    refine ⟨_, rfl, la, C, da, _, _, rfl, hla, TL.cl, TL.nR, rfl, _, _, rfl, ⟨by decide, by omega⟩, fun D hD => lc_range (lo := 3) (n := ((r : Int) - 3).toNat) (fun i H' => H' D = some (.lst (((List.range i).map fun (j : Nat) => rec0 (t : Int) wd + (3 + (j : Int))).map V.int)) ∧ Same H H') ⟨upd_same, up1 hD⟩ ?_ ?_⟩
    · rintro j H' hj ⟨hD', s7⟩
      refine ⟨rfl, _, rfl, la, da, _, rfl, s7 _ _ hla, rfl, _, rfl, la, t, wd, r, _, rfl, ⟨da, s7 _ _ hla⟩, _, hD', (by rw [List.length_map, List.length_map, List.length_range]; omega), ?_, fun b o h => by rw [upd_ne (ne_of_none h hD)]; exact s7 b o h⟩
      rw [upd_same, List.range_succ, List.map_append, List.map_append]
      rfl
    rintro H7 ⟨hD7, s7⟩
    refine ⟨_, rfl, _, rfl, _, rfl, _, rfl, _, rfl, la, t, wd, r, D, _, i, rfl, ⟨da, s7 _ _ hla⟩, by omega, hD7, (by rw [List.length_map, List.length_range]; omega), fun H8 p8 ds pm8 asc8 np8 hp8 s8 => ?_⟩
    have hdl : ds.length < 900 := by
      have h1 := pm8.length_eq
      have h2 := List.length_filter_le (fun c : Int => decide ((c - (rec0 (t : Int) wd + 0)).fmod (t : Int) = i)) ((List.range ((r : Int) - 3).toNat).map fun (j : Nat) => rec0 (t : Int) wd + (3 + (j : Int)))
      rw [List.length_map, List.length_range] at h2
      omega
    have hdn : ds.Nodup := pm8.nodup_iff.mpr (List.Nodup.sublist List.filter_sublist (List.pairwise_map.mpr ((List.nodup_range (n := ((r : Int) - 3).toNat)).imp fun {a b} h e => h (by omega))))
    intro st dst nst ndst nest
    have s9 : Same H8 (upd (upd H8 dst (.own st)) st (.ins S dst [])) := made_same nst ndst
    have s08 := s7.trans s8
    refine ⟨st, dst, la, i, p8, ds, rfl, upd_same, s9 _ _ hp8, fun H9 fa wa oa fr pm9 asc9 R9 nfa nwa noa kp9 => ⟨rfl, ?_⟩⟩
    have s89 : Same H8 H9 := fun b o h => kp9 b o (s9 b o h) (ne_of_none h nst)
    refine k H9 st fa wa oa fr asc9 (pm9.nodup_iff.mpr hdn) (by rw [pm9.length_eq]; exact hdl) R9 (fun b hb => ?_) (s08.trans s89)
    rcases hb with e | e | e | e | ⟨r', hr', _⟩
    · rw [e]; exact s08.free nst
    · rw [e]; exact s08.free (s9.free nfa)
    · rw [e]; exact s08.free (s9.free nwa)
    · rw [e]; exact s08.free (s9.free noa)
    · simp at hr'
end
end Dk

set_option maxHeartbeats 4000000
/-! what is made new: machines and their stacks -/
namespace Dk
open PySem PySem.Spec PyProof.Rows L2
/-- nothing that stood changes, nor its label -/
structure Gr (lab : Addr → Nat) (H : Hp) (lab' : Addr → Nat) (H' : Hp) : Prop where
  s : Same H H'
  l : ∀ b o, H b = some o → lab' b = lab b
theorem Gr.refl {lab : Addr → Nat} {H : Hp} : Gr lab H lab H := ⟨Same.refl H, fun _ _ _ => rfl⟩
theorem Gr.trans {lab lab1 lab2 : Addr → Nat} {H H1 H2 : Hp} (a : Gr lab H lab1 H1) (b : Gr lab1 H1 lab2 H2) : Gr lab H lab2 H2 := ⟨a.s.trans b.s, fun c o e => (b.l c o (a.s _ _ e)).trans (a.l c o e)⟩
theorem Gr.fr {lab lab' : Addr → Nat} {H H' : Hp} (g : Gr lab H lab' H') (i : Nat) : Fr i lab H lab' H' := ⟨fun b o e _ => g.l b o e, fun b o e _ _ _ => g.s b o e, fun b o e _ => g.s b o e⟩
open Classical in
noncomputable def relG (lab : Addr → Nat) (H : Hp) (nl : Addr → Nat) : Addr → Nat := fun b => if H b = none then nl b else lab b
theorem relG_new {lab : Addr → Nat} {H : Hp} {nl : Addr → Nat} {b : Addr} (h : H b = none) : relG lab H nl b = nl b := by
  unfold relG
  rw [if_pos h]
theorem relG_old {lab : Addr → Nat} {H : Hp} {nl : Addr → Nat} {b : Addr} {o : HO} (h : H b = some o) : relG lab H nl b = lab b := by
  unfold relG
  rw [if_neg (by rw [h]; simp)]
theorem Gr.of {lab : Addr → Nat} {H H' : Hp} {nl : Addr → Nat} (s : Same H H') : Gr lab H (relG lab H nl) H' := ⟨s, fun b o e => relG_old e⟩
section
variable {C M S CM : Addr} {H H1 H2 H3 : Hp} {m : Addr} {t w r B i j : Nat} {A : Adr} {X : MS} {lab lab' : Addr → Nat} {k dk ml a dx l st la : Addr} {wv th v : V} {left : List V} {rest : List (Str × V)} {fr out : List Int} {rows : Rp} {c : Cv} {g : Stg}
theorem Wd.gr (W : Wd C M H m t w r B A X lab) (s : Gr lab H lab' H1) : Wd C M H1 m t w r B A X lab' := by
  obtain ⟨da, hla⟩ := id W.D.lay
  exact ⟨W.D.same s.s, W.so, fun b hf => by obtain ⟨u, hu⟩ := foot_some W.D hf; rw [s.l b _ hu]; exact W.fo b hf, by rw [s.l _ _ hla]; exact W.la⟩
theorem Sto.gr (R : Sto S H lab i st la fr out rows) (s : Gr lab H lab' H1) : Sto S H1 lab' i st la fr out rows := R.on fun b o e h => ⟨s.s b o e, by rw [s.l b o e]; exact h⟩
theorem StgAt.gr (G : StgAt c H lab t j st k g) (s : Gr lab H lab' H1) : StgAt c H1 lab' t j st k g := G.fr (s.fr (j + 1)) (by omega)
end
section
variable {P : Program} {W : World} {K : PySem.W.Frag} {mg : Str → Option Value} {base : Heap} {C M S CM : Addr} {H H2 : Hp} {m : Addr} {t w r B i : Nat} {A : Adr} {X : MS} {lab : Addr → Nat} {x dx l st la : Addr} {wv th : V} {left : List V} {rest : List (Str × V)} {fr out : List Int} {rows : Rp} {c : Cv} {Q : Addr → Hp → Prop}
def lvS (out : List Int) (rows : Rp) : Stg := if out = [] then .l1 (!rows.isEmpty) else .l0
theorem oth_others {i t : Nat} : (others i t).map V.int = (oth i t).map fun (j : Nat) => V.int (j : Int) := by
  unfold others oth
  rw [List.map_map, List.map_map]
  refine List.map_congr_left fun j _ => ?_
  show V.int (1 + (j : Int)) = V.int ((1 + j : Nat) : Int)
  rw [show (1 : Int) + (j : Int) = ((1 + j : Nat) : Int) by omega]
end
end Dk

set_option maxHeartbeats 4000000
/-! machines that wait for their stack -/
namespace Dk
open PySem PySem.Spec PyProof.Rows L2
/-- a leaving machine beside its stack, not there in H0 -/
def LvMa (c : Cv) (n : Nat) (H0 H : Hp) (lab : Addr → Nat) (t i : Nat) (st x g : Addr) (rq : Rq) (nx : Bool) : Prop :=
  ∃ dx q l qm sl left, MaAt c.CL H x dx (.ref q) l (.ref qm) left (lvrest st sl 0) ∧ H q = some (.tup rq.vs) ∧ H qm = some (.met g x) ∧ H sl = some (.lst ((oth i t).map fun (j : Nat) => V.int (j : Int))) ∧ sl ≠ l ∧ (lab x = n ∧ lab l = n ∧ lab sl = n) ∧ (H0 x = none ∧ H0 l = none ∧ H0 sl = none) ∧ ((nx = false ∧ left = []) ∨ (nx = true ∧ ∃ q2, left = [.ref q2] ∧ H q2 = some (.tup (Rq.read 0).vs)))
def MaS (c : Cv) (n : Nat) (H0 H : Hp) (lab : Addr → Nat) (t i : Nat) (st x : Addr) : Stg → Prop
  | .e0 => ∃ dx q l qm, MaAt c.CE H x dx (.ref q) l (.ref qm) [] (enrest (1 + (i : Int)) .non) ∧ H q = some (.tup (Rq.read 0).vs) ∧ H qm = some (.met c.gE x) ∧ (lab x = n ∧ lab l = n) ∧ (H0 x = none ∧ H0 l = none)
  | .l0 => LvMa c n H0 H lab t i st x c.gSt (.read 0) false
  | .l1 wt => LvMa c n H0 H lab t i st x (if wt then c.gEp else c.gHe) (.write (1 + i) .non) wt
  | _ => False
section
variable {c : Cv} {n : Nat} {H0 H H1 : Hp} {lab lab' : Addr → Nat} {t i j : Nat} {st x g : Addr} {rq : Rq} {nx : Bool} {s : Stg}
theorem n12 (hn : n = 1 ∨ n = 2) : n ≠ 0 ∧ n ≠ lM i ∧ n ≠ lS i := by
  show n ≠ 0 ∧ n ≠ 3 * i + 3 ∧ n ≠ 3 * i + 4
  rcases hn with h | h <;> subst h <;> refine ⟨?_, ?_, ?_⟩ <;> omega
theorem lab1_fr (hn : n = 1 ∨ n = 2) (F : Fr i lab H lab' H1) {b : Addr} {o : HO} (e : H b = some o) (h : lab b = n) : H1 b = some o ∧ lab' b = n := by
  obtain ⟨a1, a2, a3⟩ := n12 (i := i) hn
  exact ⟨F.kp b o e (by rw [h]; exact a1) (by rw [h]; exact a2) (by rw [h]; exact a3), by rw [F.old b o e (by rw [h]; exact a1)]; exact h⟩
theorem LvMa.fr (G : LvMa c n H0 H lab t j st x g rq nx) (hn : n = 1 ∨ n = 2) (F : Fr i lab H lab' H1) : LvMa c n H0 H1 lab' t j st x g rq nx := by
  obtain ⟨dx, q, l, qm, sl, left, D, hq, hm, hs, ns, ⟨z1, z2, z3⟩, fz, hl⟩ := G
  obtain ⟨a1, b1⟩ := lab1_fr hn F D.ob z1
  obtain ⟨a2, b2⟩ := lab1_fr hn F D.lf z2
  obtain ⟨a3, b3⟩ := lab1_fr hn F hs z3
  exact ⟨dx, q, l, qm, sl, left, ⟨a1, a2⟩, F.im _ _ hq .tup, F.im _ _ hm .met, a3, ns, ⟨b1, b2, b3⟩, fz, hl.imp id fun ⟨x, q2, y, z⟩ => ⟨x, q2, y, F.im _ _ z .tup⟩⟩
theorem MaS.fr (G : MaS c n H0 H lab t j st x s) (hn : n = 1 ∨ n = 2) (F : Fr i lab H lab' H1) : MaS c n H0 H1 lab' t j st x s := by
  cases s with
  | e0 =>
    obtain ⟨dx, q, l, qm, D, hq, hm, ⟨z1, z2⟩, fz⟩ := G
    obtain ⟨a1, b1⟩ := lab1_fr hn F D.ob z1
    obtain ⟨a2, b2⟩ := lab1_fr hn F D.lf z2
    exact ⟨dx, q, l, qm, ⟨a1, a2⟩, F.im _ _ hq .tup, F.im _ _ hm .met, ⟨b1, b2⟩, fz⟩
  | l0 => exact LvMa.fr G hn F
  | l1 wt => exact LvMa.fr G hn F
  | _ => exact G.elim
end
section
variable {n : Nat} {P : Program} {W : World} {K : PySem.W.Frag} {mg : Str → Option Value} {base : Heap} {C M S CM : Addr} {H0 H H2 : Hp} {m : Addr} {t w r B i : Nat} {A : Adr} {X : MS} {lab : Addr → Nat} {x dx l st la : Addr} {wv th : V} {left : List V} {rest : List (Str × V)} {fr out : List Int} {rows : Rp} {c : Cv} {Q : VK} {g : Stg}
theorem mk_enM (Wm : Wd C M H m t w r B A X lab) (hla : A.a = la) (R : Sto c.St H lab i st la fr out rows) (s0 : ∀ b, H b = none → H0 b = none) {x dx : Addr} (kQ : ∀ H2, Gr lab H (relG lab H fun _ => n) H2 → MaS c n H0 H2 (relG lab H fun _ => n) t i st x .e0 → Q .non H2) (nx : H x = none) (nd : H dx = none) (ne : dx ≠ x) :
    spEnInit C c.St c.CE c.gE [.ref x, .ref st] (upd (upd H dx (.own x)) x (.ins c.CE dx [])) Q E0 := by
  have s1 := made_same (C := c.CE) nx nd
  have hx1 : upd (upd H dx (.own x)) x (.ins c.CE dx []) x = some (.ins c.CE dx []) := upd_same
  generalize upd (upd H dx (.own x)) x (.ins c.CE dx []) = H1 at s1 hx1 ⊢
  obtain ⟨da, hl⟩ := id Wm.D.lay
  rw [hla] at hl
  obtain ⟨fa, wa, oa, rw', R0, er, oz⟩ := R
  refine ⟨x, dx, st, la, t, w, r, i, fa, wa, oa, fr, out, rw', rfl, hx1, R0.same s1, ⟨da, s1 _ _ hl⟩, fun H2 q l qm nq nl nqm D2 e1 em kp => ?_⟩
  have s2 : Same H H2 := fun b o e => kp b o (s1 b o e) (ne_of_none e nx)
  have nl0 := s1.free nl
  exact kQ H2 (Gr.of s2) ⟨dx, q, l, qm, D2, e1, em, ⟨relG_new nx, relG_new nl0⟩, s0 _ nx, s0 _ nl0⟩
theorem mk_lvM (Wm : Wd C M H m t w r B A X lab) (ht : t < 1000) (hla : A.a = la) (R : Sto c.St H lab i st la fr out rows) (s0 : ∀ b, H b = none → H0 b = none) {x dx : Addr} (kQ : ∀ H2, Gr lab H (relG lab H fun _ => n) H2 → MaS c n H0 H2 (relG lab H fun _ => n) t i st x (lvS out rows) → Q .non H2) (nx : H x = none) (nd : H dx = none) (ne : dx ≠ x) :
    spLvInit C c.St c.CL c.gSt c.gEp c.gHe [.ref x, .ref st] (upd (upd H dx (.own x)) x (.ins c.CL dx [])) Q E0 := by
  have s1 := made_same (C := c.CL) nx nd
  have hx1 : upd (upd H dx (.own x)) x (.ins c.CL dx []) x = some (.ins c.CL dx []) := upd_same
  generalize upd (upd H dx (.own x)) x (.ins c.CL dx []) = H1 at s1 hx1 ⊢
  obtain ⟨da, hl⟩ := id Wm.D.lay
  rw [hla] at hl
  obtain ⟨fa, wa, oa, rw', R0, er, oz⟩ := R
  refine ⟨x, dx, st, la, t, i, w, r, fa, wa, oa, fr, out, rw', rfl, hx1, R0.same s1, ⟨da, s1 _ _ hl⟩, ht, ?_⟩
  by_cases co : out = []
  · have eS : lvS out rows = .l1 (!rows.isEmpty) := by unfold lvS; rw [if_pos co]
    rw [eS] at kQ
    refine .inr ⟨co, fun H2 wv th left l sl nl nsl sl_l D2 esl kp => ?_⟩
    have s2 : Same H H2 := fun b o e => kp b o (s1 b o e) (ne_of_none e nx)
    have sl_x : sl ≠ x := (ne_of_none hx1 nsl).symm
    rw [oth_others] at esl
    refine ⟨x, dx, l, st, sl, la, wv, th, left, 0, t, w, r, i, fa, wa, oa, fr, out, rw', rfl, D2, R0.same s2, ⟨da, s2 _ _ hl⟩, ?_⟩
    have nsl0 := s1.free nsl
    by_cases cr : rw' = []
    · have er' : (!rows.isEmpty) = false := by rw [← er, cr]; rfl
      rw [er'] at kQ
      refine .inr ⟨cr, fun H3 q1 l' qm n1 nl' nm e1 em D3 kp3 => ?_⟩
      have s3 : Same H H3 := fun b o e => kp3 b o (s2 b o e) (ne_of_none e nx)
      have esl3 := kp3 _ _ esl sl_x
      have e1' : H3 q1 = some (.tup (Rq.write (1 + i) .non).vs) := by rw [e1, show (1 : Int) + (i : Int) = ((1 + i : Nat) : Int) by omega]; rfl
      have nl0 := s2.free nl'
      exact kQ H3 (Gr.of s3) ⟨dx, q1, l', qm, sl, [], D3, e1', em, esl3, ne_of_none esl nl', ⟨relG_new nx, relG_new nl0, relG_new nsl0⟩, ⟨s0 _ nx, s0 _ nl0, s0 _ nsl0⟩, .inl ⟨rfl, rfl⟩⟩
    · have er' : (!rows.isEmpty) = true := by rw [← er]; cases rw' with | nil => exact absurd rfl cr | cons a b => rfl
      rw [er'] at kQ
      refine .inl ⟨cr, fun H3 q1 q2 l' qm n1 n2 nl' nm e1 e2 em D3 kp3 => ?_⟩
      have s3 : Same H H3 := fun b o e => kp3 b o (s2 b o e) (ne_of_none e nx)
      have esl3 := kp3 _ _ esl sl_x
      have e1' : H3 q1 = some (.tup (Rq.write (1 + i) .non).vs) := by rw [e1, show (1 : Int) + (i : Int) = ((1 + i : Nat) : Int) by omega]; rfl
      have nl0 := s2.free nl'
      exact kQ H3 (Gr.of s3) ⟨dx, q1, l', qm, sl, [.ref q2], D3, e1', em, esl3, ne_of_none esl nl', ⟨relG_new nx, relG_new nl0, relG_new nsl0⟩, ⟨s0 _ nx, s0 _ nl0, s0 _ nsl0⟩, .inr ⟨rfl, q2, rfl, e2⟩⟩
  · have eS : lvS out rows = .l0 := by unfold lvS; rw [if_neg co]
    rw [eS] at kQ
    refine .inl ⟨co, fun H3 q l' qm sl nq nl' nm nsl sl_l e1 em D3 esl kp3 => ?_⟩
    have s3 : Same H H3 := fun b o e => kp3 b o (s1 b o e) (ne_of_none e nx)
    have nsl0 := s1.free nsl
    have nl0 := s1.free nl'
    rw [oth_others] at esl
    exact kQ H3 (Gr.of s3) ⟨dx, q, l', qm, sl, [], D3, e1, em, esl, sl_l, ⟨relG_new nx, relG_new nl0, relG_new nsl0⟩, ⟨s0 _ nx, s0 _ nl0, s0 _ nsl0⟩, .inl ⟨rfl, rfl⟩⟩
open Classical in
/-- the labels of a machine that gets its stack -/
noncomputable def relS (lab : Addr → Nat) (H : Hp) (i : Nat) (Y : Addr → Prop) : Addr → Nat := fun b => if H b = none ∨ Y b then lM i else lab b
theorem relS_new {b : Addr} {Y : Addr → Prop} (h : H b = none ∨ Y b) : relS lab H i Y b = lM i := by unfold relS; rw [if_pos h]
theorem relS_old {b : Addr} {o : HO} {Y : Addr → Prop} (h : H b = some o) (n : ¬ Y b) : relS lab H i Y b = lab b := by
  unfold relS
  rw [if_neg]
  rintro (z | z)
  · rw [h] at z; cases z
  · exact n z
theorem Wd.relS {Y : Addr → Prop} (Wm : Wd C M H m t w r B A X lab) (s : Same H H2) (h0 : ∃ o, H0 A.a = some o) (hy : ∀ b, Y b → lab b = n ∧ H0 b = none) (hn : n = 1 ∨ n = 2) : Wd C M H2 m t w r B A X (relS lab H i Y) := by
  obtain ⟨da, hla⟩ := id Wm.D.lay
  obtain ⟨o0, e0⟩ := h0
  refine ⟨Wm.D.same s, Wm.so, fun b hf => ?_, ?_⟩
  · obtain ⟨u, hu⟩ := foot_some Wm.D hf
    rw [relS_old hu fun y => ?_]
    · exact Wm.fo b hf
    · have := (hy b y).1
      rw [Wm.fo b hf] at this
      exact (n12 (i := i) hn).1 this.symm
  · rw [relS_old hla fun y => ?_]
    · exact Wm.la
    · have := (hy _ y).2
      rw [e0] at this; cases this
theorem Sto.relS {SS : Addr} {Y : Addr → Prop} (R : Sto SS H lab i st la fr out rows) (s : Same H H2) (hy : ∀ b, Y b → lab b = n ∧ H0 b = none) (hn : n = 1 ∨ n = 2) : Sto SS H2 (relS lab H i Y) i st la fr out rows :=
  R.on fun b o e h => ⟨s b o e, (relS_old e fun y => (n12 (i := i) hn).2.2 (by rw [← h]; exact (hy b y).1.symm)).trans h⟩
/-- a machine gets its stack -/
theorem stk_of (Wm : Wd C M H m t w r B A X lab) (R : Sto c.St H lab i st la fr out rows) (G : MaS c n H0 H lab t i st x g) (h0 : ∃ o, H0 A.a = some o) (hn : n = 1 ∨ n = 2)
    {k dk : Addr} (kQ : ∀ (H4 : Hp) (lab4 : Addr → Nat), Same H H4 → (∀ b o, H b = some o → H0 b ≠ none → lab4 b = lab b) → (∀ b o, H b = some o → lab b ≠ n → lab4 b = lab b) → Wd C M H4 m t w r B A X lab4 → Sto c.St H4 lab4 i st la fr out rows → StgAt c H4 lab4 t i st k g → Q .non H4) (nk : H k = none) (ndk : H dk = none) :
    spKInit c.S [.ref k, .ref x] (upd (upd H dk (.own k)) k (.ins c.S dk [])) Q E0 := by
  have s3 : Same H (upd (upd H dk (.own k)) k (.ins c.S dk [])) := made_same nk ndk
  refine ⟨k, dk, x, rfl, upd_same, fun H4 ml nml D4 kp4 => ?_⟩
  have s4 : Same H H4 := fun b o e => kp4 b o (s3 b o e) (ne_of_none e nk)
  have nml2 := s3.free nml
  have fin : ∀ Y : Addr → Prop, (∀ b, Y b → lab b = n ∧ H0 b = none) → StgAt c H4 (relS lab H i Y) t i st k g → Q .non H4 := fun Y hy hG =>
    kQ H4 _ s4 (fun b o e h => relS_old e fun y => h (hy b y).2) (fun b o e h => relS_old e fun y => h (hy b y).1) (Wm.relS s4 h0 hy hn) (R.relS s4 hy hn) hG
  have lv : ∀ {gm : Addr} {rq : Rq} {nx : Bool}, LvMa c n H0 H lab t i st x gm rq nx → ∃ Y : Addr → Prop, (∀ b, Y b → lab b = n ∧ H0 b = none) ∧ LvAt c H4 (relS lab H i Y) i st k gm rq nx 0 (oth i t) := fun {gm rq nx} G => by
    obtain ⟨dx, q, l, qm, sl, left, D, hq, hm, hs, ns, ⟨z1, z2, z3⟩, ⟨f1, f2, f3⟩, hl⟩ := G
    refine ⟨fun b => b = x ∨ b = l ∨ b = sl, fun b y => ?_, dk, ml, x, dx, q, l, qm, sl, left, ⟨D4, D.same s4, relS_new (.inl nk), relS_new (.inl nml2), relS_new (.inr (.inl rfl)), relS_new (.inr (.inr (.inl rfl))), (ne_of_none D.lf nml2).symm, (ne_of_none D.ob nk).symm⟩, s4 _ _ hq, s4 _ _ hm, ⟨s4 _ _ hs, relS_new (.inr (.inr (.inr rfl))), ns, ne_of_none hs nml2⟩, hl.imp id fun ⟨x, q2, y, z⟩ => ⟨x, q2, y, s4 _ _ z⟩⟩
    rcases y with y | y | y
    · exact y ▸ ⟨z1, f1⟩
    · exact y ▸ ⟨z2, f2⟩
    · exact y ▸ ⟨z3, f3⟩
  cases g with
  | e0 =>
    obtain ⟨dx, q, l, qm, D, hq, hm, ⟨z1, z2⟩, f1, f2⟩ := G
    refine fin (fun b => b = x ∨ b = l) (fun b y => y.elim (fun y => y ▸ ⟨z1, f1⟩) fun y => y ▸ ⟨z2, f2⟩) ⟨dk, ml, x, dx, q, l, qm, ⟨D4, D.same s4, relS_new (.inl nk), relS_new (.inl nml2), relS_new (.inr (.inl rfl)), relS_new (.inr (.inr rfl)), (ne_of_none D.lf nml2).symm, (ne_of_none D.ob nk).symm⟩, s4 _ _ hq, s4 _ _ hm⟩
  | l0 =>
    obtain ⟨Y, hy, hG⟩ := lv G
    exact fin Y hy ⟨0, hG⟩
  | l1 wt =>
    obtain ⟨Y, hy, hG⟩ := lv G
    exact fin Y hy ⟨0, hG⟩
  | _ => exact G.elim
end
end Dk

set_option maxHeartbeats 4000000
/-! a thread that calls alone: its machines' runs -/
namespace Dk
open PySem PySem.Spec PyProof.Rows L2
theorem Fr.refl {i : Nat} {lab : Addr → Nat} {H : Hp} : Fr i lab H lab H := ⟨fun _ _ _ _ => rfl, fun _ _ e _ _ _ => e, fun _ _ e _ => e⟩
theorem Fr.trans {i : Nat} {lab lab1 lab2 : Addr → Nat} {H H1 H2 : Hp} (a : Fr i lab H lab1 H1) (b : Fr i lab1 H1 lab2 H2) (al : ∀ x o, H x = some o → lab x = lM i ∨ lab x = lS i → ∃ o', H1 x = some o') : Fr i lab H lab2 H2 := by
  have k1 : ∀ x o, H x = some o → lab x ≠ 0 → ∃ o', H1 x = some o' := fun x o e n => by
    by_cases c1 : lab x = lM i
    · exact al x o e (.inl c1)
    · by_cases c2 : lab x = lS i
      · exact al x o e (.inr c2)
      · exact ⟨o, a.kp x o e n c1 c2⟩
  refine ⟨fun x o e n => ?_, fun x o e n n1 n2 => ?_, fun x o e im => b.im x o (a.im x o e im) im⟩
  · obtain ⟨o', e'⟩ := k1 x o e n
    have l1 := a.old x o e n
    rw [b.old x o' e' (by rw [l1]; exact n), l1]
  · have l1 := a.old x o e n
    exact b.kp x o (a.kp x o e n n1 n2) (by rw [l1]; exact n) (by rw [l1]; exact n1) (by rw [l1]; exact n2)
/-- what stays through a run of thread i, seen from its begin: what is neither the memory's nor the thread's -/
structure Fo (i : Nat) (lab : Addr → Nat) (H : Hp) (lab' : Addr → Nat) (H' : Hp) : Prop where
  kp : ∀ b o, H b = some o → lab b ≠ 0 → lab b ≠ lM i → lab b ≠ lS i → H' b = some o ∧ lab' b = lab b
  im : ∀ b o, H b = some o → Imm o → H' b = some o
theorem Fo.refl {i : Nat} {lab : Addr → Nat} {H : Hp} : Fo i lab H lab H := ⟨fun _ _ e _ _ _ => ⟨e, rfl⟩, fun _ _ e _ => e⟩
theorem Fr.fo {i : Nat} {lab lab' : Addr → Nat} {H H' : Hp} (F : Fr i lab H lab' H') : Fo i lab H lab' H' := ⟨fun b o e n n1 n2 => ⟨F.kp b o e n n1 n2, F.old b o e n⟩, F.im⟩
theorem Fo.trans {i : Nat} {lab lab1 lab2 : Addr → Nat} {H H1 H2 : Hp} (a : Fo i lab H lab1 H1) (b : Fo i lab1 H1 lab2 H2) : Fo i lab H lab2 H2 :=
  ⟨fun x o e n n1 n2 => by
    obtain ⟨e1, l1⟩ := a.kp x o e n n1 n2
    obtain ⟨e2, l2⟩ := b.kp x o e1 (by rw [l1]; exact n) (by rw [l1]; exact n1) (by rw [l1]; exact n2)
    exact ⟨e2, l2.trans l1⟩, fun x o e im => b.im x o (a.im x o e im) im⟩
def Alo (P : Program) (W : World) (K : PySem.W.Frag) (mg : Str → Option Value) (base : Heap) (c : Cv) (C M m : Addr) (i : Nat) (F : Hp → Prop) (k : Addr) : Nat → Hp → Prop
  | 0, H => (∀ Q : VK, Q (.bl false) H → spKStL P W K mg base 6 c.S C M [.ref k, .ref m, .int (i : Int)] H Q E0) ∧ (∃ dk ml v, StkAt c.S H k dk ml [] v) ∧ F H
  | n + 1, H => (∃ dk ml ms v, StkAt c.S H k dk ml ms v) ∧ ∀ Q : VK, (∀ H', Alo P W K mg base c C M m i F k n H' → Q (.bl true) H') → spKStL P W K mg base 6 c.S C M [.ref k, .ref m, .int (i : Int)] H Q E0
theorem StgAt.stk {c : Cv} {H : Hp} {lab : Addr → Nat} {t i : Nat} {st k : Addr} {g : Stg} (G : StgAt c H lab t i st k g) : ∃ dk ml ms v, StkAt c.S H k dk ml ms v := by
  have lv : ∀ {gm : Addr} {rq : Rq} {nx : Bool} {ep : Int} {os : List Nat}, LvAt c H lab i st k gm rq nx ep os → ∃ dk ml ms v, StkAt c.S H k dk ml ms v := fun {gm rq nx ep os} h => by
    obtain ⟨dk, ml, a, dx, q, l, qm, sl, left, s, _⟩ := h
    exact ⟨dk, ml, [a], .non, s.sk⟩
  cases g with
  | e0 => obtain ⟨dk, ml, a, dx, q, l, qm, s, _⟩ := G; exact ⟨dk, ml, [a], .non, s.sk⟩
  | e1 ep => obtain ⟨dk, ml, a, dx, q, l, qm, q2, s, _⟩ := G; exact ⟨dk, ml, [a], .non, s.sk⟩
  | e2 ep => obtain ⟨dk, ml, a, dx, q, l, qm, s, _⟩ := G; exact ⟨dk, ml, [a], .non, s.sk⟩
  | l0 => obtain ⟨ep, G⟩ := G; exact lv G
  | l1 wt => obtain ⟨ep, G⟩ := G; exact lv G
  | l2 => obtain ⟨ep, G⟩ := G; exact lv G
  | l3 ep j os => exact lv G
  | l4 ep => exact lv G
  | dn => obtain ⟨dk, ml, v, s⟩ := G; exact ⟨dk, ml, [], v, s.sk⟩
section
variable {P : Program} {W : World} {K : PySem.W.Frag} {mg : Str → Option Value} {base : Heap} {C M : Addr} {H : Hp} {m : Addr} {t w r B i j : Nat} {A : Adr} {X : MS} {lab : Addr → Nat} {k st la : Addr} {fr out : List Int} {rows : Rp} {c : Cv} {fE fL : Addr} {e ep : Int} {os : List Nat} {ps : List V} {F : Hp → Prop} {first : List Int}
theorem st_dn (nok : NOk t w r) (hth : i < t) (Wm : Wd C M H m t w r B A X lab) (hB : B + 6 < sizeLine) (G : StgAt c H lab t i st k .dn) {Q : VK} (hQ : Q (.bl false) H) : spKStL P W K mg base 6 c.S C M [.ref k, .ref m, .int (i : Int)] H Q E0 := by
  obtain ⟨dk, ml, v, s⟩ := G
  exact ⟨k, dk, ml, m, [], v, t, w, r, i, B, A, X, rfl, s.sk, nok, Wm.D, hth, Wm.so, hB, .inl ⟨rfl, hQ⟩⟩
theorem alo_dn (nok : NOk t w r) (hth : i < t) (Wm : Wd C M H m t w r B A X lab) (hB : B + 6 < sizeLine) (G : StgAt c H lab t i st k .dn) (h : F H) : Alo P W K mg base c C M m i F k 0 H :=
  ⟨fun Q hQ => st_dn nok hth Wm hB G hQ, let ⟨dk, ml, v, s⟩ := G; ⟨dk, ml, v, s.sk⟩, h⟩
theorem alo_en (T : KT P W K mg base c C fE fL) (nok : NOk t w r) (hth : i < t) (Wm : Wd C M H m t w r B A X lab) (hB : B + 20 < sizeLine) (G : StgAt c H lab t i st k .e0) (R : Sto c.St H lab i st la fr out rows) (hps : X.ps = .int e :: ps)
    (kF : ∀ A' X' H2 lab', A'.a = A.a → X'.ps = .int e :: ps.set i (.int e) → Wd C M H2 m t w r (B + 6) A' X' lab' → Fo i lab H lab' H2 → Sto c.St H2 lab' i st la fr out rows → F H2) : Alo P W K mg base c C M m i F k 3 H := by
  refine ⟨G.stk, fun Q hQ => ?_⟩
  refine st_e0 T nok hth Wm (by omega) G R hps fun x A1 X1 H1 lab1 ea1 ps1 _ _ W1 F1 G1 R1 => hQ H1 ⟨G1.stk, fun Q1 hQ1 => ?_⟩
  refine st_e1 T nok hth W1 (by omega) G1 R1 fun x2 A2 X2 H2 lab2 ea2 ps2 _ _ W2 F2 G2 R2 => hQ1 H2 ⟨G2.stk, fun Q2 hQ2 => ?_⟩
  have ps2' : X2.ps = .int e :: ps.set i (.int e) := by rw [ps2, ps1, hps, show 1 + i = i + 1 by omega]; rfl
  refine st_e2 T nok hth W2 (by omega) G2 R2 ps2' ?_
  rw [if_pos rfl]
  intro x3 A3 X3 H3 lab3 ea3 ps3 _ _ W3 F3 G3 R3
  exact hQ2 H3 (alo_dn nok hth W3 (by omega) G3 (kF A3 X3 H3 lab3 (ea3.trans (ea2.trans ea1)) (ps3.trans ps2') W3 (F1.fo.trans (F2.fo.trans F3.fo)) R3))
/-- the end of leaving: the swap -/
theorem alo_l4 (T : KT P W K mg base c C fE fL) (nok : NOk t w r) (hth : i < t) (Wm : Wd C M H m t w r B A X lab) (hB : B + 20 < sizeLine) (G : StgAt c H lab t i st k (.l4 e)) (R : Sto c.St H lab i st la fr [] rows) (hps : X.ps = .int e :: ps) (ub : UpB fr rows) (ck : CellOk e first fr [] rows)
    (kF : ∀ A' X' H2 lab' fr', A'.a = A.a → X'.ps = .int (e + 1) :: ps → CellOk (e + 1) first fr' [] (rows.filter fun r => decide (e + 1 - 3 < r.1)) → Wd C M H2 m t w r (B + 2) A' X' lab' → Fo i lab H lab' H2 → Sto c.St H2 lab' i st la fr' [] (rows.filter fun r => decide (e + 1 - 3 < r.1)) → F H2) : Alo P W K mg base c C M m i F k 1 H := by
  refine ⟨G.stk, fun Q hQ => ?_⟩
  refine st_l4 T nok hth Wm (by omega) G R hps ub fun kn ps' hk fr' pm asc x A1 X1 H1 lab1 ea1 ps1 _ _ W1 F1 G1 R1 => ?_
  rcases hk with ⟨_, rfl, rfl⟩ | ⟨ne, _⟩
  · exact hQ H1 (alo_dn nok hth W1 (by omega) G1 (kF A1 X1 H1 lab1 fr' ea1 ps1 ((ck.le (by omega)).free pm) W1 F1.fo R1))
  · exact absurd rfl ne
/-- the slots are read: all of them are empty -/
theorem alo_look (T : KT P W K mg base c C fE fL) (nok : NOk t w r) (hth : i < t) : ∀ (os : List Nat) {H : Hp} {B : Nat} {A : Adr} {X : MS} {lab : Addr → Nat}, Wd C M H m t w r B A X lab → B + 2 * os.length + 20 < sizeLine → StgAt c H lab t i st k (lookS e os) → Sto c.St H lab i st la fr [] rows → X.ps = .int e :: ps → UpB fr rows → CellOk e first fr [] rows → (∀ j, j ∈ os → j < 1 + t ∧ X.ps[j]? = some .non) →
    (∀ A' X' H2 lab' fr', A'.a = A.a → X'.ps = .int (e + 1) :: ps → CellOk (e + 1) first fr' [] (rows.filter fun r => decide (e + 1 - 3 < r.1)) → Wd C M H2 m t w r (B + 2 * os.length + 2) A' X' lab' → Fo i lab H lab' H2 → Sto c.St H2 lab' i st la fr' [] (rows.filter fun r => decide (e + 1 - 3 < r.1)) → F H2) → Alo P W K mg base c C M m i F k (os.length + 1) H
  | [], H, B, A, X, lab, Wm, hB, G, R, hps, ub, ck, hj, kF => alo_l4 T nok hth Wm (by simpa using hB) G R hps ub ck kF
  | j :: os, H, B, A, X, lab, Wm, hB, G, R, hps, ub, ck, hj, kF => by
    refine ⟨G.stk, fun Q hQ => ?_⟩
    rw [List.length_cons] at hB kF
    obtain ⟨h1, h2⟩ := hj j List.mem_cons_self
    refine st_l3 (held := .non) T nok hth Wm (by omega) G R h1 h2 ub (.inl ⟨.inl rfl, fun x A1 X1 H1 lab1 ea1 ps1 _ _ W1 F1 G1 R1 => hQ H1 ?_⟩)
    exact alo_look T nok hth os W1 (by omega) G1 R1 (ps1.trans hps) ub ck (fun j' hj' => by rw [ps1]; exact hj j' (List.mem_cons_of_mem _ hj')) fun A' X' H2 lab' fr' ea ps' ck' W' F' R' => kF A' X' H2 lab' fr' (ea.trans ea1) ps' ck' (by rw [show B + 2 * (os.length + 1) + 2 = B + 2 + 2 * os.length + 2 by omega]; exact W') (F1.fo.trans F') R'
theorem oth_len : (oth i t).length ≤ t := by
  unfold oth
  rw [List.length_map]
  refine Nat.le_trans (List.length_filter_le _ _) ?_
  rw [List.length_range]
  exact Nat.le_refl _
theorem oth_mem {x : Nat} (h : x ∈ oth i t) : ∃ j, x = 1 + j ∧ j < t ∧ j ≠ i := by
  unfold oth at h
  obtain ⟨j, hj, e⟩ := List.mem_map.mp h
  obtain ⟨h1, h2⟩ := List.mem_filter.mp hj
  exact ⟨j, e.symm, List.mem_range.mp h1, of_decide_eq_true h2⟩
theorem Wd.mono {B' : Nat} (Wm : Wd C M H m t w r B A X lab) (h : B ≤ B') : Wd C M H m t w r B' A X lab := ⟨Wm.D, Wm.so.mono h, Wm.fo, Wm.la⟩
theorem alo_lv (T : KT P W K mg base c C fE fL) (nok : NOk t w r) (hth : i < t) (Wm : Wd C M H m t w r B A X lab) (hB : B + 100 < sizeLine) (G : StgAt c H lab t i st k (.l1 (!rows.isEmpty))) (R : Sto c.St H lab i st la fr [] rows) (hps : X.ps = .int e :: ps) (ub : UpB fr rows) (ck : CellOk e first fr [] rows) (ho : ∀ j, j < t → j ≠ i → ps[j]? = some .non)
    (kF : ∀ A' X' H2 lab' e' fr' rows', A'.a = A.a → X'.ps = .int e' :: ps.set i .non → (rows = [] ∧ rows' = [] ∧ e' = e) ∨ (rows ≠ [] ∧ rows' = (rows.filter fun r => decide (e + 1 - 3 < r.1)) ∧ e' = e + 1) → CellOk e' first fr' [] rows' → Wd C M H2 m t w r (B + 20) A' X' lab' → Fo i lab H lab' H2 → Sto c.St H2 lab' i st la fr' [] rows' → F H2) : ∃ n, n ≤ 6 ∧ Alo P W K mg base c C M m i F k n H := by
  have t3 := nok.t3
  have eset : X.ps.set (1 + i) .non = .int e :: ps.set i .non := by rw [hps, show 1 + i = i + 1 by omega]; rfl
  by_cases cr : rows = []
  · subst cr
    refine ⟨1, by omega, G.stk, fun Q hQ => ?_⟩
    refine st_l1f T nok hth Wm (by omega) G R fun x A1 X1 H1 lab1 ea1 ps1 _ _ W1 F1 G1 R1 => hQ H1 (alo_dn nok hth W1 (by omega) G1 ?_)
    exact kF A1 X1 H1 lab1 e fr [] ea1 (ps1.trans eset) (.inl ⟨rfl, rfl, rfl⟩) ck (W1.mono (by omega)) F1.fo R1
  · have er : (!rows.isEmpty) = true := by cases rows with | nil => exact absurd rfl cr | cons a b => rfl
    rw [er] at G
    have ol := oth_len (i := i) (t := t)
    refine ⟨(oth i t).length + 1 + 1 + 1, by omega, G.stk, fun Q hQ => ?_⟩
    refine st_l1t T nok hth Wm (by omega) G R fun x A1 X1 H1 lab1 ea1 ps1 _ _ W1 F1 G1 R1 => hQ H1 ⟨G1.stk, fun Q1 hQ1 => ?_⟩
    refine st_l2 T nok hth W1 (by omega) G1 R1 (ps1.trans eset) fun x2 A2 X2 H2 lab2 ea2 ps2 _ _ W2 F2 G2 R2 => hQ1 H2 ?_
    have ps2' := ps2.trans (ps1.trans eset)
    refine alo_look T nok hth (oth i t) W2 (by omega) G2 R2 ps2' ub ck (fun x hx => ?_) fun A' X' H3 lab3 fr' ea ps' ck' W' F' R' => kF A' X' H3 lab3 (e + 1) fr' _ (ea.trans (ea2.trans ea1)) ps' (.inr ⟨cr, rfl, rfl⟩) ck' (W'.mono (by omega)) (F1.fo.trans (F2.fo.trans F')) R'
    obtain ⟨j, rfl, hj, hn⟩ := oth_mem hx
    refine ⟨by omega, ?_⟩
    rw [ps2', show 1 + j = j + 1 by omega, List.getElem?_cons_succ, List.getElem?_set_ne (fun z => hn z.symm)]
    exact ho j hj hn
end
end Dk

set_option maxHeartbeats 4000000
/-! _law_alone -/
namespace Dk
open PySem PySem.Spec PyProof.Rows L2 StX
abbrev sAlone : Stmt := top 34
def spAlone (c : Cv) (C M : Addr) : Sp := fun vs H Q _ => ∃ (m st la : Addr) (t w r B i : Nat) (A : Adr) (X : MS) (lab : Addr → Nat) (fr : List Int) (rows : Rp) (e : Int) (ps : List V) (first : List Int), vs = [.ref m, .ref st, .int (i : Int)] ∧ NOk t w r ∧ i < t ∧ Wd C M H m t w r B A X lab ∧ B + 2000 < sizeLine ∧ A.a = la ∧ Sto c.St H lab i st la fr [] rows ∧ X.ps = .int e :: ps ∧ ps[i]? = some .non ∧ (∀ j, j < t → j ≠ i → ps[j]? = some .non) ∧ CellOk e first fr [] rows ∧ first.length < 900 ∧ rows.length < 1000 ∧
  ∀ (H' : Hp) (lab' : Addr → Nat) (A' : Adr) (X' : MS) (e' : Int) (fr' : List Int), A'.a = la → X'.ps = .int e' :: ps → e ≤ e' → Wd C M H' m t w r (B + 200) A' X' lab' → Fo i lab H lab' H' → Sto c.St H' lab' i st la fr' [] [] → CellOk e' first fr' [] [] → Q (.bl true) H'
section
variable {P : Program} {w : World} {K : PySem.W.Frag} {mg : Str → Option Value} {base : Heap} {C M fE fL fMkE fMkV fSk : Addr} {c : Cv} {fdE fdV fdSk : FuncData}
abbrev NAl : List Str := ["memory", "store", "thread", "turn", "machine", "stack", "step"]
theorem scAlone : FnScope NAl ["memory", "store", "thread"] (defScope sAlone) := ⟨rfl, rfl, rfl, by decide +kernel, rfl, by decide +kernel, by decide +kernel⟩
theorem MaS.on {n : Nat} {H0 H H1 : Hp} {lab lab' : Addr → Nat} {t j : Nat} {st x : Addr} {s : Stg} (G : MaS c n H0 H lab t j st x s) (kp : ∀ b o, H b = some o → lab b = n → H1 b = some o ∧ lab' b = n) (im : ∀ b o, H b = some o → Imm o → H1 b = some o) : MaS c n H0 H1 lab' t j st x s := by
  have lv : ∀ {g : Addr} {rq : Rq} {nx : Bool}, LvMa c n H0 H lab t j st x g rq nx → LvMa c n H0 H1 lab' t j st x g rq nx := fun {g rq nx} G => by
    obtain ⟨dx, q, l, qm, sl, left, D, hq, hm, hs, ns, ⟨z1, z2, z3⟩, fz, hl⟩ := G
    obtain ⟨a1, b1⟩ := kp _ _ D.ob z1
    obtain ⟨a2, b2⟩ := kp _ _ D.lf z2
    obtain ⟨a3, b3⟩ := kp _ _ hs z3
    exact ⟨dx, q, l, qm, sl, left, ⟨a1, a2⟩, im _ _ hq .tup, im _ _ hm .met, a3, ns, ⟨b1, b2, b3⟩, fz, hl.imp id fun ⟨x, q2, y, z⟩ => ⟨x, q2, y, im _ _ z .tup⟩⟩
  cases s with
  | e0 =>
    obtain ⟨dx, q, l, qm, D, hq, hm, ⟨z1, z2⟩, fz⟩ := G
    obtain ⟨a1, b1⟩ := kp _ _ D.ob z1
    obtain ⟨a2, b2⟩ := kp _ _ D.lf z2
    exact ⟨dx, q, l, qm, ⟨a1, a2⟩, im _ _ hq .tup, im _ _ hm .met, ⟨b1, b2⟩, fz⟩
  | l0 => exact lv G
  | l1 wt => exact lv G
  | _ => exact G.elim
theorem MaS.fo {n i : Nat} {H0 H H1 : Hp} {lab lab' : Addr → Nat} {t j : Nat} {st x : Addr} {s : Stg} (G : MaS c n H0 H lab t j st x s) (hn : n = 1 ∨ n = 2) (F : Fo i lab H lab' H1) : MaS c n H0 H1 lab' t j st x s := by
  obtain ⟨a1, a2, a3⟩ := n12 (i := i) hn
  exact G.on (fun b o e h => let ⟨p, q⟩ := F.kp b o e (by rw [h]; exact a1) (by rw [h]; exact a2) (by rw [h]; exact a3); ⟨p, q.trans h⟩) F.im
theorem MaS.grn {n : Nat} {H0 H H1 : Hp} {lab lab' : Addr → Nat} {t j : Nat} {st x : Addr} {s : Stg} (G : MaS c n H0 H lab t j st x s) (g : Gr lab H lab' H1) : MaS c n H0 H1 lab' t j st x s :=
  G.on (fun b o e h => ⟨g.s b o e, (g.l b o e).trans h⟩) fun b o e _ => g.s b o e
theorem Fo.ext {i : Nat} {H H1 H5 : Hp} {lab lab1 lab5 : Addr → Nat} (F : Fo i lab H lab1 H1) (k : ∀ b o, H1 b = some o → H5 b = some o ∧ lab5 b = lab1 b) : Fo i lab H lab5 H5 :=
  ⟨fun b o e n n1 n2 => let ⟨p, q⟩ := F.kp b o e n n1 n2; ⟨(k b o p).1, (k b o p).2.trans q⟩, fun b o e im => (k b o (F.im b o e im)).1⟩
theorem Alo.stk {i n : Nat} {F : Hp → Prop} {H : Hp} {k m : Addr} (h : Alo P w K mg base c C M m i F k n H) : ∃ dk ml ms v, StkAt c.S H k dk ml ms v := by
  cases n with
  | zero => obtain ⟨_, ⟨dk, ml, v, s⟩, _⟩ := h; exact ⟨dk, ml, [], v, s⟩
  | succ n => exact h.1
/-- the law's run of a machine alone -/
theorem t_run {D : Ends} {i n : Nat} {F : Hp → Prop} {H : Hp} {k m st : Addr} {x3 x4 x6 : Option V} (hn : n ≤ 20) (h : Alo P w K mg base c C M m i F k n H) (kD : ∀ H' x6', F H' → D.nx [some (.ref m), some (.ref st), some (.int (i : Int)), x3, x4, some (.ref k), x6'] H') :
    tSeq (tFor (iRng1 (tCons (tC (V.int 30)) tNil)) (gName 6) (tIfS (tNot (tB (tMeth c.S (Str.ofString "step") (spKStL P w K mg base 6 c.S C M) [] E0 (tVar 5) (tCons (tVar 0) (tCons (tVar 2) tNil))))) tBreak tNext)) (tIfS (tNot (tB (tMeth c.S (Str.ofString "ended") (spKEnded c.S) [] E0 (tVar 5) tNil))) (tRet (tC (V.bl false))) tNext) D [some (.ref m), some (.ref st), some (.int (i : Int)), x3, x4, some (.ref k), x6] H := by
  have fin : ∀ H' x6', Alo P w K mg base c C M m i F k 0 H' → tIfS (tNot (tB (tMeth c.S (Str.ofString "ended") (spKEnded c.S) [] E0 (tVar 5) tNil))) (tRet (tC (V.bl false))) tNext D [some (.ref m), some (.ref st), some (.int (i : Int)), x3, x4, some (.ref k), x6'] H' := fun H' x6' h => by
    obtain ⟨_, ⟨dk, ml, v, s⟩, hF⟩ := h
    exact ⟨_, rfl, k, dk, _, rfl, s.ob, rfl, k, dk, ml, [], v, rfl, s, _, rfl, iteF (kD H' x6' hF)⟩
  refine ⟨_, rfl, by decide, by decide, for_range (lo := 0) (n := (30 : Int).toNat) (fun j σ H' => ∃ (x6' : Option V) (n' : Nat), σ = [some (.ref m), some (.ref st), some (.int (i : Int)), x3, x4, some (.ref k), x6'] ∧ n' + j ≤ 20 ∧ Alo P w K mg base c C M m i F k n' H') ⟨_, n, rfl, hn, h⟩ ?_ ?_⟩
  · rintro j σ H' hj ⟨x6', n', rfl, hn', h'⟩
    obtain ⟨dk, ml, ms, v, s⟩ := h'.stk
    cases n' with
    | zero =>
      refine ⟨_, rfl, k, dk, _, rfl, s.ob, rfl, _, rfl, _, rfl, ?_⟩
      dsimp only [tNil]
      refine h'.1 _ ⟨_, rfl, iteT ?_⟩
      exact fin H' _ h'
    | succ n' =>
      refine ⟨_, rfl, k, dk, _, rfl, s.ob, rfl, _, rfl, _, rfl, ?_⟩
      dsimp only [tNil]
      refine h'.2 _ fun H2 h2 => ⟨_, rfl, iteF ?_⟩
      exact ⟨_, n', rfl, by omega, h2⟩
  · rintro σ H' ⟨x6', n', rfl, hn', h'⟩
    have : (30 : Int).toNat = 30 := rfl
    omega
theorem go_alone (F : GT K mg "_law_alone" sAlone ["memory", "store", "thread"]) (B0 : Bn mg) (KTt : KT P w K mg base c C fE fL) (T : STxt K mg c.St) (TK : KTx K c.S) (gSk : mg "Stack" = some (.ref c.S)) (MSk : Mk K c.S fSk) (FSk : FnOk P w K mg base CX0 1 fSk fdSk ["self", "machine"] (spKInit c.S)) (bSk : Binds K fdSk ["self", "machine"] [])
    (gE : mg "Entering" = some (.ref c.CE)) (MkE : Mk K c.CE fMkE) (FE : FnOk P w K mg base CX0 2 fMkE fdE ["self", "store"] (spEnInit C c.St c.CE c.gE)) (bE : Binds K fdE ["self", "store"] [])
    (gV : mg "Leaving" = some (.ref c.CL)) (MkV : Mk K c.CL fMkV) (FV : FnOk P w K mg base CX0 3 fMkV fdV ["self", "store"] (spLvInit C c.St c.CL c.gSt c.gEp c.gHe)) (bV : Binds K fdV ["self", "store"] [])
    (GSt : MO P w K mg base CX0 c.S 18 "step" ["self", "memory", "thread"] (spKStL P w K mg base 6 c.S C M)) (GEn : MO P w K mg base CX0 c.S 1 "ended" ["self"] (spKEnded c.S)) (GWt : MO P w K mg base CX0 c.St 1 "waiting" ["self"] (spWaitO c.St)) : GO P w K mg base CX0 19 "_law_alone" ["memory", "store", "thread"] (spAlone c C M) := by
  obtain ⟨f, fd, F, hm, hb⟩ := F
  refine ⟨f, fd, ?_, hm, F.kp, hb⟩
  refine F.ok scAlone (fun vs H Q E h => ?_) (fun cdv A outer s H vs Q E hr h => ?_)
  · obtain ⟨m, st, la, t, w, r, B, i, A, X, lab, fr, rows, e, ps, first, rfl, _⟩ := h
    rfl
  · obtain ⟨m, st, la, t, wd, r, B, i, A0, X, lab, fr, rows, e, ps, first, rfl, nok, hth, Wm, hB, hla, R, hps, hsi, ho, ck, hf, hz, kQ⟩ := h
    have nd := scAlone.nd
    have hsl : sizeLine = 16777216 := sizeLine_eq
    have hr1 : Room 1 _ := hr.mono (by decide)
    have hr2 : Room (1 + 1) _ := hr.mono (by decide)
    have hrE : Room (2 + 1) _ := hr.mono (by decide)
    have hrV : Room (3 + 1) _ := hr.mono (by decide)
    have hrS : Room 18 _ := hr
    refine ⟨_, (pss_cons (ps_for PassesOwn.never rfl (pi_range1 (by rfl) B0.range (pa_cons pe_int pa_nil)) (pg_name (i := 3) nd rfl (Or.inl rfl))
  (pss_one (ps_for PassesOwn.never rfl (pi_list (pe_lst (pa_cons (pe_make MkE FE hrE rfl gE bE .nil pass0 (pa_cons (pv 1) pa_nil)) (pa_cons (pe_make MkV FV hrV rfl gV bV .nil pass0 (pa_cons (pv 1) pa_nil)) pa_nil)))) (pg_name (i := 4) nd rfl (Or.inl rfl))
  (pss_cons (ps_set (i := 5) nd rfl (Or.inl rfl) (pe_make MSk FSk hr2 rfl gSk bSk .nil pass0 (pa_cons (pv 4) pa_nil)))
  (pss_cons (ps_for PassesOwn.never rfl (pi_range1 (by rfl) B0.range (pa_cons pe_int pa_nil)) (pg_name (i := 6) nd rfl (Or.inl rfl))
  (pss_one (ps_if (pt_not (pt_val (pm_ GSt TK.cl hrS (pv 5) (pa_cons (pv 0) (pa_cons (pv 2) pa_nil)))))
  (pss_one ps_break)
  pss_nil)))
  (pss_one (ps_if (pt_not (pt_val (pm0_ GEn TK.cl hr1 (pv 5))))
  (pss_one (ps_ret pe_bl))
  pss_nil)))))))
  (pss_one (ps_ret (pe_cmpR (op_eqD hr.units) (pm0_ GWt T.cl hr1 (pv 1)) (pe_lst pa_nil) (nomark _))))), ?_⟩
    have eset : ∀ v, (ps.set i v).set i .non = ps := fun v => by
      refine List.ext_getElem? fun j => ?_
      by_cases cj : i = j
      · subst cj
        have hlt : i < ps.length := (List.getElem?_eq_some_iff.mp hsi).1
        rw [List.getElem?_set_self (by rw [List.length_set]; exact hlt)]
        exact hsi.symm
      · rw [List.getElem?_set_ne cj, List.getElem?_set_ne cj]
    refine ⟨_, rfl, by decide, by decide, for_range (lo := 0) (n := (4 : Int).toNat) (fun n σ H' => ∃ (x3 x4 x5 x6 : Option V) (lab' : Addr → Nat) (A' : Adr) (X' : MS) (e' : Int) (fr' : List Int) (rows' : Rp), σ = [some (.ref m), some (.ref st), some (.int (i : Int)), x3, x4, x5, x6] ∧ A'.a = la ∧ X'.ps = .int e' :: ps ∧ Wd C M H' m t wd r (B + 30 * n) A' X' lab' ∧ Fo i lab H lab' H' ∧ Sto c.St H' lab' i st la fr' [] rows' ∧ CellOk e' first fr' [] rows' ∧ rows'.length ≤ rows.length ∧ e ≤ e' ∧ (∀ x, x ∈ rows' → x.1 ≤ e) ∧ (rows' = [] ∨ (e' = e + n ∧ (1 ≤ n → ∀ x, x ∈ rows' → e' - 3 < x.1))))
      ⟨_, _, _, _, lab, A0, X, e, fr, rows, rfl, hla, hps, Wm, Fo.refl, R, ck, Nat.le_refl _, Int.le_refl _, ck.st, .inr ⟨by omega, fun h => by omega⟩⟩ ?_ ?_⟩
    · rintro n σ H1 hn ⟨x3, x4, x5, x6, lab1, A1, X1, e1, fr1, rows1, rfl, hla1, ps1, W1, F1, R1, ck1, zr1, le1, st1, hc1⟩
      have hn4 : n < 4 := hn
      refine ⟨_, rfl, fun x dx nx ndx nex => mk_enM (n := 2) (H0 := H1) W1 hla1 R1 (fun b e => e) (fun H2 g2 ma2 => ⟨rfl, ?_⟩) nx ndx nex⟩
      refine ⟨_, rfl, fun y dy ny ndy ney => mk_lvM (n := 1) (H0 := H1) (W1.gr g2) (by have := nok.t3; omega) hla1 (R1.gr g2) (fun b e => g2.s.free e) (fun H3 g3 mb3 => ⟨rfl, ?_⟩) ny ndy ney⟩
      refine ⟨(by show 2 ≤ sizeLine; decide), fun p hp => ?_⟩
      have s4 := up1 (o := HO.lst [V.ref x, V.ref y]) hp
      have e4 : upd H3 p (HO.lst [V.ref x, V.ref y]) p = some (.lst [.ref x, .ref y]) := upd_same
      generalize upd H3 p (HO.lst [V.ref x, V.ref y]) = H4 at s4 e4 ⊢
      have g4 : Gr (relG (relG lab1 H1 fun _ => 2) H2 fun _ => 1) H3 (relG (relG (relG lab1 H1 fun _ => 2) H2 fun _ => 1) H3 fun _ => 3 * i + 5) H4 := Gr.of s4
      have lp4 : relG (relG (relG lab1 H1 fun _ => 2) H2 fun _ => 1) H3 (fun _ => 3 * i + 5) p = 3 * i + 5 := relG_new hp
      have ma4 := (ma2.grn g3).grn g4
      have mb4 := mb3.grn g4
      have W4 := ((W1.gr g2).gr g3).gr g4
      have R4 := ((R1.gr g2).gr g3).gr g4
      have g14 := (g2.trans g3).trans g4
      generalize relG (relG (relG lab1 H1 fun _ => 2) H2 fun _ => 1) H3 (fun _ => 3 * i + 5) = lab4 at lp4 ma4 mb4 W4 R4 g14
      have p5 : 3 * i + 5 ≠ 0 ∧ 3 * i + 5 ≠ lM i ∧ 3 * i + 5 ≠ lS i ∧ 3 * i + 5 ≠ 1 ∧ 3 * i + 5 ≠ 2 := by show 3 * i + 5 ≠ 0 ∧ 3 * i + 5 ≠ 3 * i + 3 ∧ 3 * i + 5 ≠ 3 * i + 4 ∧ 3 * i + 5 ≠ 1 ∧ 3 * i + 5 ≠ 2; omega
      have al1 : ∃ o, H1 A1.a = some o := let ⟨da, h⟩ := W1.D.lay; ⟨_, h⟩
      refine ⟨p, rfl, ⟨_, SqL.of e4⟩, for_list (xs := [.ref x, .ref y]) (fun j σ H' => ∃ (x4' x5' x6' : Option V), σ = [some (.ref m), some (.ref st), some (.int (i : Int)), some (.int (0 + (n : Int))), x4', x5', x6'] ∧ H' p = some (.lst [.ref x, .ref y]) ∧
        ((j = 0 ∧ H' = H4) ∨
         (j = 1 ∧ ∃ (lab5 : Addr → Nat) (A5 : Adr) (X5 : MS), A5.a = la ∧ X5.ps = .int e1 :: ps.set i (.int e1) ∧ Wd C M H' m t wd r (B + 30 * n + 6) A5 X5 lab5 ∧ Fo i lab H lab5 H' ∧ Sto c.St H' lab5 i st la fr1 [] rows1 ∧ MaS c 1 H1 H' lab5 t i st y (lvS [] rows1) ∧ lab5 p = 3 * i + 5) ∨
         (j = 2 ∧ ∃ (lab' : Addr → Nat) (A' : Adr) (X' : MS) (e' : Int) (fr' : List Int) (rows' : Rp), A'.a = la ∧ X'.ps = .int e' :: ps ∧ Wd C M H' m t wd r (B + 30 * (n + 1)) A' X' lab' ∧ Fo i lab H lab' H' ∧ Sto c.St H' lab' i st la fr' [] rows' ∧ CellOk e' first fr' [] rows' ∧ rows'.length ≤ rows.length ∧ e ≤ e' ∧ (∀ x, x ∈ rows' → x.1 ≤ e) ∧ (rows' = [] ∨ (e' = e + (n + 1 : Nat) ∧ (1 ≤ n + 1 → ∀ x, x ∈ rows' → e' - 3 < x.1)))))) ⟨_, _, _, rfl, e4, .inl ⟨rfl, rfl⟩⟩ (fun j σ H' _ z => by obtain ⟨_, _, _, _, h, _⟩ := z; exact SqL.of h) ?_ ?_⟩
      · rintro j z σ H' hj ⟨x4', x5', x6', rfl, hp', hc⟩
        rcases hc with ⟨rfl, rfl⟩ | ⟨rfl, lab5, A5, X5, ea5, ps5, W5, F5, R5, mb5, lp5⟩ | ⟨rfl, _⟩
        · cases Option.some.inj hj
          refine ⟨_, rfl, fun k dk nk ndk nek => stk_of (H0 := H1) (n := 2) W4 R4 ma4 al1 (.inr rfl) (fun H5 lab5 s5 k5 l5 W5 R5 G5 => ⟨rfl, ?_⟩) nk ndk⟩
          have F05 : Fo i lab H lab5 H5 := F1.ext fun b o e => ⟨s5 _ _ (g14.s _ _ e), (k5 b o (g14.s _ _ e) (by rw [e]; simp)).trans (g14.l b o e)⟩
          have lp5 : lab5 p = 3 * i + 5 := (l5 p _ e4 (by rw [lp4]; exact p5.2.2.2.2)).trans lp4
          have mb5 := mb4.on (H1 := H5) (lab' := lab5) (fun b o e h => ⟨s5 _ _ e, (l5 b o e (by rw [h]; decide)).trans h⟩) fun b o e _ => s5 _ _ e
          refine t_run (n := 3) (F := fun H6 => ∃ (lab6 : Addr → Nat) (A5 : Adr) (X5 : MS), A5.a = la ∧ X5.ps = .int e1 :: ps.set i (.int e1) ∧ Wd C M H6 m t wd r (B + 30 * n + 6) A5 X5 lab6 ∧ Fo i lab H lab6 H6 ∧ Sto c.St H6 lab6 i st la fr1 [] rows1 ∧ MaS c 1 H1 H6 lab6 t i st y (lvS [] rows1) ∧ lab6 p = 3 * i + 5 ∧ H6 p = some (.lst [.ref x, .ref y])) (by decide) (alo_en KTt nok hth W5 (by omega) G5 R5 ps1 fun A6 X6 H6 lab6 ea6 ps6 W6 F6 R6 => ?_) fun H6 x6'' h => ?_
          · obtain ⟨a, b⟩ := F6.kp p _ (s5 _ _ e4) (by rw [lp5]; exact p5.1) (by rw [lp5]; exact p5.2.1) (by rw [lp5]; exact p5.2.2.1)
            exact ⟨lab6, A6, X6, ea6.trans hla1, ps6, W6, F05.trans F6, R6, mb5.fo (.inl rfl) F6, b.trans lp5, a⟩
          · obtain ⟨lab6, A6, X6, h1, h2, h3, h4, h5, h6, h7, h8⟩ := h
            exact ⟨_, _, _, rfl, h8, .inr (.inl ⟨rfl, lab6, A6, X6, h1, h2, h3, h4, h5, h6, h7⟩)⟩
        · cases Option.some.inj hj
          have al5 : ∃ o, H1 A5.a = some o := by rw [ea5, ← hla1]; exact al1
          have eS : lvS [] rows1 = .l1 (!rows1.isEmpty) := by unfold lvS; rw [if_pos rfl]
          rw [eS] at mb5
          refine ⟨_, rfl, fun k dk nk ndk nek => stk_of (H0 := H1) (n := 1) W5 R5 mb5 al5 (.inl rfl) (fun H6 lab6 s6 k6 l6 W6 R6 G6 => ⟨rfl, ?_⟩) nk ndk⟩
          have F06 : Fo i lab H lab6 H6 := ⟨fun b o e n n1 n2 => by
            obtain ⟨a, b'⟩ := F5.kp b o e n n1 n2
            obtain ⟨a1, _⟩ := F1.kp b o e n n1 n2
            exact ⟨s6 _ _ a, (k6 b o a (by rw [a1]; simp)).trans b'⟩, fun b o e im => s6 _ _ (F5.im b o e im)⟩
          have lp6 : lab6 p = 3 * i + 5 := (l6 p _ hp' (by rw [lp5]; exact p5.2.2.2.1)).trans lp5
          have ub : UpB fr1 rows1 := ⟨by omega, fun kk => by have := ck1.bound kk; omega⟩
          obtain ⟨nn, hnn, alo⟩ := alo_lv (F := fun H7 => ∃ (lab' : Addr → Nat) (A' : Adr) (X' : MS) (e' : Int) (fr' : List Int) (rows' : Rp), (A'.a = la ∧ X'.ps = .int e' :: ps ∧ Wd C M H7 m t wd r (B + 30 * (n + 1)) A' X' lab' ∧ Fo i lab H lab' H7 ∧ Sto c.St H7 lab' i st la fr' [] rows' ∧ CellOk e' first fr' [] rows' ∧ rows'.length ≤ rows.length ∧ e ≤ e' ∧ (∀ x, x ∈ rows' → x.1 ≤ e) ∧ (rows' = [] ∨ (e' = e + (n + 1 : Nat) ∧ (1 ≤ n + 1 → ∀ x, x ∈ rows' → e' - 3 < x.1)))) ∧ H7 p = some (.lst [.ref x, .ref y])) KTt nok hth W6 (by omega) G6 R6 ps5 ub ck1 (fun j hj hn => by rw [List.getElem?_set_ne (fun z => hn z.symm)]; exact ho j hj hn)
            (fun A7 X7 H7 lab7 e7 fr7 rows7 ea7 ps7 hk ck7 W7 F7 R7 => by
              obtain ⟨a, _⟩ := F7.kp p _ (s6 _ _ hp') (by rw [lp6]; exact p5.1) (by rw [lp6]; exact p5.2.1) (by rw [lp6]; exact p5.2.2.1)
              rw [eset] at ps7
              refine ⟨lab7, A7, X7, e7, fr7, rows7, ⟨ea7.trans ea5, ps7, W7.mono (by omega), F06.trans F7, R7, ck7, ?_, ?_, ?_, ?_⟩, a⟩
              · rcases hk with ⟨_, h2, _⟩ | ⟨_, h2, _⟩
                · rw [h2]; exact Nat.zero_le _
                · rw [h2]; exact Nat.le_trans (List.length_filter_le _ _) zr1
              · rcases hk with ⟨_, _, h3⟩ | ⟨_, _, h3⟩ <;> omega
              · rcases hk with ⟨_, h2, _⟩ | ⟨_, h2, _⟩
                · rw [h2]; intro x hx; simp at hx
                · rw [h2]; intro x hx; exact st1 x (List.mem_filter.mp hx).1
              · rcases hk with ⟨_, h2, _⟩ | ⟨h1, h2, h3⟩
                · exact .inl h2
                · rcases hc1 with h | ⟨h, _⟩
                  · exact absurd h h1
                  · refine .inr ⟨by omega, fun _ x hx => ?_⟩
                    rw [h2] at hx
                    have := of_decide_eq_true (List.mem_filter.mp hx).2
                    omega)
          refine t_run (n := nn) (by omega) alo fun H7 x6'' h => ?_
          obtain ⟨lab', A', X', e', fr', rows', h1, h2⟩ := h
          exact ⟨_, _, _, rfl, h2, .inr (.inr ⟨rfl, lab', A', X', e', fr', rows', h1⟩)⟩
        · cases hj
      · rintro σ H' ⟨x4', x5', x6', rfl, hp', hc⟩
        rcases hc with ⟨z, _⟩ | ⟨z, _⟩ | ⟨_, lab', A', X', e', fr', rows', h⟩
        · cases z
        · cases z
        · exact ⟨_, _, _, _, lab', A', X', e', fr', rows', rfl, h⟩
    · rintro σ H1 ⟨x3, x4, x5, x6, lab1, A1, X1, e1, fr1, rows1, rfl, hla1, ps1, W1, F1, R1, ck1, zr1, le1, st1, hc1⟩
      have er : rows1 = [] := by
        rcases hc1 with h | ⟨h1, h2⟩
        · exact h
        · cases rows1 with
          | nil => rfl
          | cons x xs =>
            have a := h2 (by decide) x List.mem_cons_self
            have b := st1 x List.mem_cons_self
            have c4 : (((4 : Int).toNat : Nat) : Int) = 4 := rfl
            omega
      subst er
      obtain ⟨fa, wa, oa, rw', R0, er, oz⟩ := id R1
      have erw : rw' = [] := List.map_eq_nil_iff.mp er
      obtain ⟨ds, hst⟩ := R0.ob
      refine ⟨_, rfl, st, ds, _, rfl, hst, rfl, st, la, i, fa, wa, oa, fr1, [], rw', rfl, R0, by rw [erw]; decide, fun H2 p us np hp hus eus hem s2 => ⟨(by show 0 ≤ sizeLine; exact Nat.zero_le _), fun q hq => ?_⟩⟩
      have eu := hem erw rfl
      subst eu
      have s3 := up1 (o := HO.lst []) hq
      refine ⟨.list [], .list [], .lst (SqL.of (s3 _ _ hp)) .nil, .lst (SqL.of upd_same) .nil, (by decide +kernel), (by decide +kernel), ?_⟩
      have g : Gr lab1 H1 (relG lab1 H1 fun _ => 0) (upd H2 q (HO.lst [])) := Gr.of (s2.trans s3)
      exact kQ _ _ A1 X1 e1 fr1 hla1 ps1 le1 ((W1.gr g).mono (by have c4 : (4 : Int).toNat = 4 := rfl; omega)) (F1.ext fun b o e => ⟨g.s b o e, g.l b o e⟩) (R1.gr g) ck1
end
end Dk

set_option maxHeartbeats 4000000
/-! the law k09: its end, every thread that is out calls alone -/
namespace Dk
open PySem PySem.Spec PyProof.Rows L2 StX
abbrev sLaw : Stmt := top 35
abbrev NLaw : List Str := ["script", "tape", "threads", "memory", "stores", "first", "stacks", "phases", "work", "slots", "active", "serial", "rows", "k", "number", "thread", "store", "taken", "slot", "moved", "request", "other", "others", "row", "cell", "call"]
theorem scLaw : FnScope NLaw ["script"] (defScope sLaw) := ⟨rfl, rfl, rfl, by decide +kernel, rfl, by decide +kernel, by decide +kernel⟩
theorem Sto.fo {S : Addr} {H H' : Hp} {lab lab' : Addr → Nat} {i j : Nat} {st la : Addr} {fr out : List Int} {rows : Rp} (R : Sto S H lab j st la fr out rows) (F : Fo i lab H lab' H') (ne : j ≠ i) : Sto S H' lab' j st la fr out rows :=
  R.on fun b o e h => let ⟨p, q⟩ := F.kp b o e (by rw [h]; exact lS0) (by rw [h]; exact lSM) (by rw [h]; exact lSS ne); ⟨p, q.trans h⟩
theorem iteC1 {c : Bool} {A B : Prop} (hc : c = true) (h : A) : if c = true then A else B := by
  rw [hc]
  exact iteT h
/-- the law's slots -/
abbrev lw (a tp : Addr) (t : Nat) (m sr fi sk ph wk sl al : Addr) (ser : Int) (ro : Addr) (v13 v14 v15 v16 v17 v18 v19 v20 v21 v22 v23 v24 v25 : Option V) : L2.St :=
  [some (.ref a), some (.ref tp), some (.int (t : Int)), some (.ref m), some (.ref sr), some (.ref fi), some (.ref sk), some (.ref ph), some (.ref wk), some (.ref sl), some (.ref al), some (.int ser), some (.ref ro), v13, v14, v15, v16, v17, v18, v19, v20, v21, v22, v23, v24, v25]
/-- the memory and the stores -/
structure LF (c : Cv) (C M : Addr) (H : Hp) (lab : Addr → Nat) (m la : Addr) (t r B : Nat) (A : Adr) (X : MS) (e : Int) (ps : List V) (sts : List Addr) (fr out : Nat → List Int) (rows : Nat → Rp) (first : Nat → List Int) : Prop where
  wd : Wd C M H m t 3 r B A X lab
  lay : A.a = la
  ps : X.ps = .int e :: ps
  st : ∀ j, j < t → ∃ s, sts[j]? = some s ∧ Sto c.St H lab j s la (fr j) (out j) (rows j) ∧ CellOk e (first j) (fr j) (out j) (rows j) ∧ (first j).length < 900 ∧ (rows j).length < 1000
theorem LF.gr {c : Cv} {C M : Addr} {H H' : Hp} {lab lab' : Addr → Nat} {m la : Addr} {t r B B' : Nat} {A : Adr} {X : MS} {e : Int} {ps : List V} {sts : List Addr} {fr out : Nat → List Int} {rows : Nat → Rp} {first : Nat → List Int} (L : LF c C M H lab m la t r B A X e ps sts fr out rows first) (g : Gr lab H lab' H') (hB : B ≤ B') : LF c C M H' lab' m la t r B' A X e ps sts fr out rows first :=
  ⟨(L.wd.gr g).mono hB, L.lay, L.ps, fun j hj => let ⟨s, a, b, d⟩ := L.st j hj; ⟨s, a, b.gr g, d⟩⟩
theorem zadd_nat {α : Type} {l : List α} {i : Nat} {v : α} (h : l[i]? = some v) : atI l (0 + (i : Int)) = some v := by
  rw [Int.zero_add]
  exact atI_nat h
section
variable {P : Program} {w : World} {K : PySem.W.Frag} {mg : Str → Option Value} {base : Heap} {C M : Addr} {c : Cv}
theorem law_fin {f : Addr} {cdv : Value} {A0 : Around} {outer : List Env} {s : Shared} {Hs : Hp} {E : XK} (hr : Room 20 (A0.deeper (envOfC "law" (defScope sLaw) s.heap.objs.size f cdv))) (B0 : Bn mg) (TM : MTxt K M)
    (GPk : MO P w K mg base CX0 M 8 "peek" ["self", "cell"] (spPeek C M)) (GAl : GO P w K mg base CX0 19 "_law_alone" ["memory", "store", "thread"] (spAlone c C M)) :
    ∃ t1, PSs (cxOf CX0 P w K mg base NLaw "law" (defScope sLaw) f cdv A0 outer s Hs E).nox ((defBody sLaw).drop 13) t1 ∧
      ∀ (De : Ends) (a tp : Addr) (t : Nat) (m sr fi sk ph wk sl al : Addr) (ser : Int) (ro : Addr) (v13 v14 v15 v16 v17 v18 v19 v20 v21 v22 v23 v24 v25 : Option V) (H : Hp) (lab : Addr → Nat) (la : Addr) (r B : Nat) (A : Adr) (X : MS) (e : Int) (ps : List V) (sts : List Addr) (fr out : Nat → List Int) (rows : Nat → Rp) (first : Nat → List Int) (phs : List Str),
        NOk t 3 r → B + 5000 < sizeLine → LF c C M H lab m la t r B A X e ps sts fr out rows first → ps.length = t → H sr = some (.lst (sts.map V.ref)) → lab sr = 1 → H ph = some (.lst (phs.map V.str)) → lab ph = 2 → phs.length = t → (∀ j, phs[j]? = some ("out" : Str) → out j = [] ∧ ps[j]? = some .non) → (∀ H', De.rt (.bl true) H') →
        t1 De (lw a tp t m sr fi sk ph wk sl al ser ro v13 v14 v15 v16 v17 v18 v19 v20 v21 v22 v23 v24 v25) H := by
  have nd := scLaw.nd
  have hr8 : Room 8 _ := hr.mono (by decide)
  have hrAl : Room 19 _ := hr.mono (by decide)
  refine ⟨_, (pss_cons (ps_for PassesOwn.never rfl (pi_range1 (by rfl) B0.range (pa_cons (pv 2) pa_nil)) (pg_name (i := 15) nd rfl (Or.inr rfl))
  (pss_cons (ps_setLc (i := 22) (own := [("k", 13)]) (g := (gName 13)) (tt := _) rfl nd rfl rfl (sw_true rfl rfl rfl (by decide +kernel)) (pi_range1 (by rfl) B0.range (pa_cons (pv 2) pa_nil)) (blkOk_by (N := ["script", "tape", "threads", "memory", "stores", "first", "stacks", "phases", "work", "slots", "active", "serial", "rows", "k", "number", "thread", "store", "taken", "slot", "moved", "request", "other", "others", "row", "cell", "call"]) (sc := defScope sLaw) (by decide +kernel)) (fun _ _ _ _ _ => (pg_name (i := 13) nd rfl (Or.inl rfl))) (fun _ _ _ _ _ => pts_one (PW.pt (pw_and (pt_cmpR op_ne (pv 13) (pv 15) (nomark _)) (pw_and1 (pt_cmpR op_notN (pm_ GPk TM.cl hr8 (pv 3) (pa_cons (pe_op op_add pe_int (pv 13)) pa_nil)) pe_non (nomark _)))))) (fun _ _ _ _ _ => (pv 13)))
  (pss_one (ps_if (PW.pt (pw_and (pt_cmpR (op_eqD hr.units) (pv 22) (pe_lst pa_nil) (nomark _)) (pw_and1 (pt_cmpR op_eq (pe_ix ix_list (pv 7) (pv 15) (fun _ _ => rfl)) pe_str (nomark _)))))
  (pss_one (ps_if (pt_not (pt_val (pc_ GAl hrAl (pa_cons (pv 3) (pa_cons (pe_ix ix_list (pv 4) (pv 15) (fun _ _ => rfl)) (pa_cons (pv 15) pa_nil))))))
  (pss_one (ps_ret pe_bl))
  pss_nil))
  pss_nil))))
  (pss_one (ps_ret pe_bl))), ?_⟩
  intro De a tp t m sr fi sk ph wk sl al ser ro v13 v14 v15 v16 v17 v18 v19 v20 v21 v22 v23 v24 v25 H lab la r B A X e ps sts fr out rows first phs nok hB L hpl hsr lsr hph lph hphl hout kD
  have t3 := nok.t3
  have hsl : sizeLine = 16777216 := sizeLine_eq
  refine ⟨_, rfl, _, rfl, by omega, by omega, for_range (lo := 0) (n := (t : Int).toNat) (fun i σ H' => ∃ (v15 v22 : Option V) (lab' : Addr → Nat) (A' : Adr) (X' : MS) (e' : Int) (fr' : Nat → List Int) (rows' : Nat → Rp), σ = lw a tp t m sr fi sk ph wk sl al ser ro v13 v14 v15 v16 v17 v18 v19 v20 v21 v22 v23 v24 v25 ∧ LF c C M H' lab' m la t r (B + 200 * i) A' X' e' ps sts fr' out rows' first ∧ H' sr = some (.lst (sts.map V.ref)) ∧ lab' sr = 1 ∧ H' ph = some (.lst (phs.map V.str)) ∧ lab' ph = 2) ⟨_, _, lab, A, X, e, fr, rows, rfl, L, hsr, lsr, hph, lph⟩ ?_ ?_⟩
  · rintro i σ H1 hi ⟨v15, v22, lab1, A1, X1, e1, fr1, rows1, rfl, L1, hsr1, lsr1, hph1, lph1⟩
    have hit : i < t := by omega
    obtain ⟨dm, hm⟩ := L1.wd.D.ob
    refine ⟨_, rfl, _, rfl, by omega, by omega, fun D hD => lc_range (lo := 0) (n := (t : Int).toNat) (fun j H' => ∃ ks : List Int, H' D = some (.lst (ks.map V.int)) ∧ Same H1 H' ∧ ks.length ≤ j ∧ (ks = [] → ∀ j', j' < j → j' ≠ i → ps[j']? = some .non)) ⟨[], upd_same, up1 hD, Nat.le_refl _, fun _ j' h => absurd h (by omega)⟩ ?_ ?_⟩
    · rintro j H2 hj ⟨ks, hD2, s2, zk, hk⟩
      have hjt : j < t := by omega
      refine ⟨rfl, ?_⟩
      by_cases cji : j = i
      · refine ⟨_, rfl, _, rfl, rfl, _, rfl, iteC (by subst cji; simp) (iteF ⟨ks, hD2, s2, by omega, fun h j' h1 h2 => ?_⟩)⟩
        by_cases cj : j' = j
        · exact absurd (cj.trans cji) h2
        · exact hk h j' (by omega) h2
      · have W2 := L1.wd.D.same s2
        obtain ⟨v, hv⟩ : ∃ v, ps[j]? = some v := ⟨_, List.getElem?_eq_getElem (by omega)⟩
        have hv1 : X1.ps[1 + j]? = some v := by rw [L1.ps, show 1 + j = j + 1 by omega]; exact hv
        refine ⟨_, rfl, _, rfl, rfl, _, rfl, iteC1 (by simp; omega) ?_⟩
        refine ⟨_, rfl, m, dm, _, rfl, s2 _ _ hm, rfl, _, rfl, _, _, rfl, rfl, m, t, 3, r, 1 + j, A1, X1, v, by simp, W2, by omega, ps_cell hv1 (by omega), rfl, _, rfl, ?_⟩
        by_cases cv : v = .non
        · rw [decide_eq_true cv]
          refine iteF ⟨ks, hD2, s2, by omega, fun h j' h1 h2 => ?_⟩
          by_cases cj : j' = j
          · rw [cj, hv, cv]
          · exact hk h j' (by omega) h2
        · rw [decide_eq_false cv]
          refine iteT ⟨_, rfl, _, hD2, by rw [List.length_map]; omega, ks ++ [0 + (j : Int)], by rw [upd_same, List.map_append]; rfl, fun b o h => by rw [upd_ne (ne_of_none h hD)]; exact s2 b o h, by rw [List.length_append]; simp; omega, fun h => ?_⟩
          simp at h
    · rintro H2 ⟨ks, hD2, s2, zk, hk⟩
      refine ⟨_, rfl, (by show 0 ≤ sizeLine; exact Nat.zero_le _), fun q hq => ?_⟩
      have s3 := s2.trans (up1 (o := HO.lst []) hq)
      have q3 : upd H2 q (HO.lst []) q = some (.lst []) := upd_same
      have hD3 := up1 (o := HO.lst []) hq _ _ hD2
      generalize upd H2 q (HO.lst []) = H3 at s3 q3 hD3 ⊢
      have g : Gr lab1 H1 (relG lab1 H1 fun _ => 0) H3 := Gr.of s3
      have L3 := L1.gr g (Nat.le_refl _)
      have hsr3 := s3 _ _ hsr1
      have hph3 := s3 _ _ hph1
      have lsr3 := (g.l _ _ hsr1).trans lsr1
      have lph3 := (g.l _ _ hph1).trans lph1
      generalize relG lab1 H1 (fun _ => 0) = lab3 at g L3 lsr3 lph3
      have skip : ∃ (v15 v22 : Option V) (lab' : Addr → Nat) (A' : Adr) (X' : MS) (e' : Int) (fr' : Nat → List Int) (rows' : Nat → Rp), lw a tp t m sr fi sk ph wk sl al ser ro v13 v14 (some (.int (0 + (i : Int)))) v16 v17 v18 v19 v20 v21 (some (.ref D)) v23 v24 v25 = lw a tp t m sr fi sk ph wk sl al ser ro v13 v14 v15 v16 v17 v18 v19 v20 v21 v22 v23 v24 v25 ∧ LF c C M H3 lab' m la t r (B + 200 * (i + 1)) A' X' e' ps sts fr' out rows' first ∧ H3 sr = some (.lst (sts.map V.ref)) ∧ lab' sr = 1 ∧ H3 ph = some (.lst (phs.map V.str)) ∧ lab' ph = 2 :=
        ⟨_, _, lab3, A1, X1, e1, fr1, rows1, rfl, L1.gr g (by omega), hsr3, lsr3, hph3, lph3⟩
      refine ⟨.list (ks.map .int), .list [], dl hD3, .lst (SqL.of q3) .nil, sh_ints ks, (by decide +kernel), _, rfl, ?_⟩
      by_cases ck : ks = []
      · have nn := hk ck
        refine iteC1 (by rw [ck]; exact eqv_sh (sh_ints [])) ?_
        obtain ⟨p, hp⟩ : ∃ p, phs[i]? = some p := ⟨_, List.getElem?_eq_getElem (by omega)⟩
        have hpv : (phs.map V.str)[i]? = some (.str p) := by rw [List.getElem?_map, hp]; rfl
        refine ⟨_, rfl, _, rfl, ph, _, 0 + (i : Int), .str p, rfl, rfl, SqL.of hph3, zadd_nat hpv, rfl, _, rfl, ?_⟩
        by_cases cp : p = ("out" : Str)
        · refine iteC1 (by rw [cp]; simp) ?_
          obtain ⟨ho1, ho2⟩ := hout i (by rw [hp, cp])
          obtain ⟨s, hs, Rs, cs, f9, r9⟩ := L3.st i hit
          rw [ho1] at Rs cs
          have hsv : (sts.map V.ref)[i]? = some (.ref s) := by rw [List.getElem?_map, hs]; rfl
          refine ⟨_, rfl, _, rfl, _, rfl, sr, _, 0 + (i : Int), .ref s, rfl, rfl, SqL.of hsr3, zadd_nat hsv, _, rfl, m, s, la, t, 3, r, _, i, A1, X1, lab3, fr1 i, rows1 i, e1, ps, first i, by rw [Int.zero_add]; rfl, nok, hit, L3.wd, by omega, L3.lay, Rs, L3.ps, ho2, fun j hj hn => nn j (by omega) hn, cs, f9, r9, fun H' lab' A' X' e' fr' ea ps' le W' F' R' c' => ⟨_, rfl, iteF ?_⟩⟩
          obtain ⟨a1, b1⟩ := F'.kp _ _ hsr3 (by rw [lsr3]; decide) (by rw [lsr3]; exact (n12 (.inl rfl)).2.1) (by rw [lsr3]; exact (n12 (.inl rfl)).2.2)
          obtain ⟨a2, b2⟩ := F'.kp _ _ hph3 (by rw [lph3]; decide) (by rw [lph3]; exact (n12 (.inr rfl)).2.1) (by rw [lph3]; exact (n12 (.inr rfl)).2.2)
          refine ⟨_, _, lab', A', X', e', upN fr1 i fr', upN rows1 i [], rfl, ⟨W'.mono (by omega), ea, ps', fun j hj => ?_⟩, a1, b1.trans lsr3, a2, b2.trans lph3⟩
          by_cases cj : j = i
          · subst cj
            rw [upN_same, upN_same, ho1]
            exact ⟨s, hs, R', c', f9, by decide⟩
          · obtain ⟨s', hs', Rs', cs', f9', r9'⟩ := L3.st j hj
            rw [upN_ne cj, upN_ne cj]
            exact ⟨s', hs', Rs'.fo F' cj, cs'.le le, f9', r9'⟩
        · exact iteC (by simp; intro z; exact cp (by simpa using z)) skip
      · refine iteC (by cases ks with | nil => exact absurd rfl ck | cons x xs => rfl) ?_
        refine iteF ?_
        exact skip
  · rintro σ H1 ⟨v15, v22, lab1, A1, X1, e1, fr1, rows1, rfl, L1, hsr1, lsr1, hph1, lph1⟩
    exact kD _
end
end Dk

set_option maxHeartbeats 4000000
/-! the law k09: behind a pick, what is asked of every thread -/
namespace Dk
open PySem PySem.Spec PyProof.Rows L2 StX
def loopBody : Stmt → List Stmt
  | .For _ _ b _ _ => b
  | _ => []
/-- the law's own lists: those that change have the label 2, those that stay the label 1, the lists of known calls of thread j the label 3 j + 5 -/
structure LwH (H : Hp) (lab : Addr → Nat) (t : Nat) (sr fi sk ph wk sl al ro : Addr) (sts fis rAs : List Addr) (sks : List V) (phs : List Str) (wks : List Int) (slv : List V) (qs : QL) (first : Nat → List Int) (ρs : Nat → List Rx) : Prop where
  hsr : H sr = some (.lst (sts.map V.ref)) ∧ lab sr = 1
  hfi : H fi = some (.lst (fis.map V.ref)) ∧ lab fi = 1
  hsk : H sk = some (.lst sks) ∧ lab sk = 2
  hph : H ph = some (.lst (phs.map V.str)) ∧ lab ph = 2
  hwk : H wk = some (.lst (wks.map V.int)) ∧ lab wk = 2
  hsl : H sl = some (.lst slv) ∧ lab sl = 2
  hal : H al = some (.lst (refs qs)) ∧ lab al = 1
  hro : H ro = some (.lst (rAs.map V.ref)) ∧ lab ro = 2
  nd : [sk, ph, wk, sl, ro].Nodup
  cl : CL H qs
  tf : ∀ a : Int, a ∈ first (t + 1) → H a.toNat = some (.lst ((first t).map V.int)) ∧ lab a.toNat = 1
  fa : ∀ j, j < t → ∃ a, fis[j]? = some a ∧ H a = some (.lst ((first j).map V.int)) ∧ lab a = 1
  rw : ∀ j, j < t → ∃ a, rAs[j]? = some a ∧ H a = some (.lst ((ρs j).map fun ρ => V.ref ρ.a)) ∧ lab a = 1 ∧ (∀ ρ, ρ ∈ ρs j → RxAt H ρ ∧ lab ρ.a = 1 ∧ lab ρ.c1 = 1 ∧ lab ρ.c2 = 3 * j + 5) ∧ ((ρs j).map Rx.c2).Nodup
/-- every label but those of one thread's lists of known calls stays -/
def Kl (i : Nat) (lab : Addr → Nat) (H H' : Hp) : Prop := ∀ b o, H b = some o → (Imm o ∨ lab b ≠ 3 * i + 5) → H' b = some o
section
variable {c : Cv} {C M : Addr} {H H' : Hp} {lab : Addr → Nat} {m la : Addr} {t r B i : Nat} {A : Adr} {X : MS} {e : Int} {ps : List V} {sts : List Addr} {fr out : Nat → List Int} {rows : Nat → Rp} {first : Nat → List Int}
theorem LF.kl (L : LF c C M H lab m la t r B A X e ps sts fr out rows first) (k : Kl i lab H H') : LF c C M H' lab m la t r B A X e ps sts fr out rows first := by
  refine ⟨⟨L.wd.D.on (fun b o e hf => k b o e (.inr (by rw [L.wd.fo b hf]; omega))) (fun o e => k _ o e (.inr (by rw [L.wd.la]; omega))), L.wd.so, L.wd.fo, L.wd.la⟩, L.lay, L.ps, fun j hj => ?_⟩
  obtain ⟨s, a, b, d⟩ := L.st j hj
  exact ⟨s, a, b.on fun b o e h => ⟨k b o e (.inr (by rw [h]; show 3 * j + 4 ≠ 3 * i + 5; omega)), h⟩, d⟩
def kn2 (f : Nat → QL) (l : List Rx) : List Rx := l.mapIdx fun j ρ => { ρ with q2 := f j }
theorem kn2_get {f : Nat → QL} {l : List Rx} {n : Nat} : (kn2 f l)[n]? = (l[n]?).map fun ρ => { ρ with q2 := f n } := by
  unfold kn2
  rw [List.getElem?_mapIdx]
theorem kl5 {i : Nat} : (0 : Nat) ≠ 3 * i + 5 ∧ 1 ≠ 3 * i + 5 ∧ 2 ≠ 3 * i + 5 := by omega
/-- one thread's known calls have grown -/
theorem LwH.kl {sr fi sk ph wk sl al ro : Addr} {fis rAs : List Addr} {sks : List V} {phs : List Str} {wks : List Int} {slv : List V} {qs : QL} {ρs : Nat → List Rx} (L : LwH H lab t sr fi sk ph wk sl al ro sts fis rAs sks phs wks slv qs first ρs) (k : Kl i lab H H') (f : Nat → QL) (hf : ∀ j ρ, (ρs i)[j]? = some ρ → H' ρ.c2 = some (.lst (refs (f j))) ∧ CL H' (f j)) :
    LwH H' lab t sr fi sk ph wk sl al ro sts fis rAs sks phs wks slv qs first (upN ρs i (kn2 f (ρs i))) := by
  have k1 : ∀ {b : Addr} {o : HO}, H b = some o ∧ lab b = 1 → H' b = some o ∧ lab b = 1 := fun {b o} h => ⟨k b o h.1 (.inr (by rw [h.2]; exact kl5.2.1)), h.2⟩
  have k2 : ∀ {b : Addr} {o : HO}, H b = some o ∧ lab b = 2 → H' b = some o ∧ lab b = 2 := fun {b o} h => ⟨k b o h.1 (.inr (by rw [h.2]; exact kl5.2.2)), h.2⟩
  have tp : ∀ b xs, H b = some (.tup xs) → H' b = some (.tup xs) := fun b xs e => k b _ e (.inl .tup)
  refine ⟨k1 L.hsr, k1 L.hfi, k2 L.hsk, k2 L.hph, k2 L.hwk, k2 L.hsl, k1 L.hal, k2 L.hro, L.nd, L.cl.on tp, fun a ha => k1 (L.tf a ha), fun j hj => let ⟨a, h1, h2⟩ := L.fa j hj; ⟨a, h1, k1 h2⟩, fun j hj => ?_⟩
  obtain ⟨a, h1, h2, h3, h4, h5⟩ := L.rw j hj
  obtain ⟨h2, h3⟩ := k1 ⟨h2, h3⟩
  by_cases cj : j = i
  · subst cj
    rw [upN_same]
    have e1 : (kn2 f (ρs j)).map (fun ρ : Rx => V.ref ρ.a) = (ρs j).map fun ρ => V.ref ρ.a := by
      refine List.ext_getElem? fun n => ?_
      rw [List.getElem?_map, kn2_get, List.getElem?_map]
      cases (ρs j)[n]? <;> rfl
    have e2 : (kn2 f (ρs j)).map Rx.c2 = (ρs j).map Rx.c2 := by
      refine List.ext_getElem? fun n => ?_
      rw [List.getElem?_map, kn2_get, List.getElem?_map]
      cases (ρs j)[n]? <;> rfl
    rw [e1, e2]
    refine ⟨a, h1, h2, h3, fun ρ' hρ' => ?_, h5⟩
    obtain ⟨n, hn⟩ := List.getElem?_of_mem hρ'
    rw [kn2_get] at hn
    obtain ⟨ρ, hρ, rfl⟩ := Option.map_eq_some_iff.mp hn
    obtain ⟨R, l1, l2, l3⟩ := h4 ρ (List.mem_of_getElem? hρ)
    obtain ⟨g1, g2⟩ := hf n ρ hρ
    exact ⟨⟨(k1 ⟨R.ob, l1⟩).1, (k1 ⟨R.l1, l2⟩).1, g1, R.k1.on tp, g2⟩, l1, l2, l3⟩
  · rw [upN_ne cj]
    refine ⟨a, h1, h2, h3, fun ρ hρ => ?_, h5⟩
    obtain ⟨R, l1, l2, l3⟩ := h4 ρ hρ
    exact ⟨⟨(k1 ⟨R.ob, l1⟩).1, (k1 ⟨R.l1, l2⟩).1, k _ _ R.l2 (.inr (by rw [l3]; omega)), R.k1.on tp, R.k2.on tp⟩, l1, l2, l3⟩
theorem LwH.same {sr fi sk ph wk sl al ro : Addr} {fis rAs : List Addr} {sks : List V} {phs : List Str} {wks : List Int} {slv : List V} {qs : QL} {ρs : Nat → List Rx} (L : LwH H lab t sr fi sk ph wk sl al ro sts fis rAs sks phs wks slv qs first ρs) (k : Same H H') : LwH H' lab t sr fi sk ph wk sl al ro sts fis rAs sks phs wks slv qs first ρs := by
  have k1 : ∀ {b : Addr} {o : HO} {n : Nat}, H b = some o ∧ lab b = n → H' b = some o ∧ lab b = n := fun {b o n} h => ⟨k b o h.1, h.2⟩
  have tp : ∀ b xs, H b = some (.tup xs) → H' b = some (.tup xs) := fun b xs e => k b _ e
  exact ⟨k1 L.hsr, k1 L.hfi, k1 L.hsk, k1 L.hph, k1 L.hwk, k1 L.hsl, k1 L.hal, k1 L.hro, L.nd, L.cl.on tp, fun a ha => k1 (L.tf a ha), fun j hj => let ⟨a, h1, h2⟩ := L.fa j hj; ⟨a, h1, k1 h2⟩, fun j hj => let ⟨a, h1, h2, h3, h4, h5⟩ := L.rw j hj; ⟨a, h1, k _ _ h2, h3, fun ρ hρ => let ⟨R, l⟩ := h4 ρ hρ; ⟨⟨k _ _ R.ob, k _ _ R.l1, k _ _ R.l2, R.k1.on tp, R.k2.on tp⟩, l⟩, h5⟩⟩
theorem flat_P (rw' : List Rw) : (rwP rw').flatMap (fun r => r.2) = rw'.flatMap fun r => r.cs := by
  unfold rwP
  rw [List.flatMap_map]
theorem Kl.same (s : Same H H') : Kl i lab H H' := fun b o e _ => s b o e
end
section
variable {P : Program} {w : World} {K : PySem.W.Frag} {mg : Str → Option Value} {base : Heap} {C M : Addr} {c : Cv}
theorem law_b4 {f : Addr} {cdv : Value} {A0 : Around} {outer : List Env} {s : Shared} {Hs : Hp} {E : XK} (hr : Room 20 (A0.deeper (envOfC "law" (defScope sLaw) s.heap.objs.size f cdv))) (B0 : Bn mg)
    (GKn : GO P w K mg base CX0 1 "_law_known" ["rows", "active"] spKnown) (GHd : GO P w K mg base CX0 2 "_law_held" ["store", "rows", "active"] (spHeld c.St)) (GWh : GO P w K mg base CX0 2 "_law_whole" ["store", "first"] (spLWhole c.St)) (GSl : GO P w K mg base CX0 9 "_law_slots" ["memory", "active", "slots"] (spLSlots C M)) :
    ∃ t1, PSs (cxOf CX0 P w K mg base NLaw "law" (defScope sLaw) f cdv A0 outer s Hs E).nox ((loopBody ((defBody sLaw).getD 12 (.Pass ⟨0, 0, 0, 0⟩))).drop 4) t1 ∧
      ∀ (De : Ends) (a tp : Addr) (t : Nat) (m sr fi sk ph wk sl al : Addr) (ser : Int) (ro : Addr) (v13 v14 v15 v16 v17 v18 v19 v20 v21 v22 v23 v24 v25 : Option V) (H : Hp) (lab : Addr → Nat) (la : Addr) (r B : Nat) (A : Adr) (X : MS) (e : Int) (ps : List V) (sts fis rAs : List Addr) (sks : List V) (phs : List Str) (wks : List Int) (slv : List V) (qs : QL) (fr out : Nat → List Int) (rows : Nat → Rp) (first : Nat → List Int) (ρs : Nat → List Rx) (phx : Nat → Ph) (slots : Nat → V) (serN : Nat),
        NOk t 3 r → LF c C M H lab m la t r B A X e ps sts fr out rows first → LwH H lab t sr fi sk ph wk sl al ro sts fis rAs sks phs wks slv qs first ρs → Inv t e ps phx (cs_ qs) serN slots → (∀ x, x ∈ cs_ qs → slv[x.1]? = some (slots x.1)) → (∀ j, j < t → ∀ ρ, ρ ∈ ρs j → RhoOk e ps (cs_ qs) serN (fr j) (rows j) ρ.rho) → (∀ j, j < t → Asc (first j)) → qs.length < 1000 → (∀ j, j < t → ∀ ρ, ρ ∈ ρs j → ρ.q1.length < 1000000 ∧ ρ.q2.length < 1000000) →
        (∀ (H' : Hp) (ρs' : Nat → List Rx) (v21 : Option V), (∀ b o, H b = some o → (Imm o ∨ ∀ i, lab b ≠ 3 * i + 5) → H' b = some o) → LF c C M H' lab m la t r B A X e ps sts fr out rows first → LwH H' lab t sr fi sk ph wk sl al ro sts fis rAs sks phs wks slv qs first ρs' → (∀ j, j < t → ∀ ρ, ρ ∈ ρs' j → RhoOk e ps (cs_ qs) serN (fr j) (rows j) ρ.rho) → (∀ j, j < t → ∀ ρ, ρ ∈ ρs' j → ∃ ρ0, ρ0 ∈ ρs j ∧ ρ.q1 = ρ0.q1 ∧ ρ.q2.length ≤ ρ0.q2.length + qs.length) → De.nx (lw a tp t m sr fi sk ph wk sl al ser ro v13 v14 v15 v16 v17 v18 v19 v20 v21 v22 v23 v24 v25) H') →
        t1 De (lw a tp t m sr fi sk ph wk sl al ser ro v13 v14 v15 v16 v17 v18 v19 v20 v21 v22 v23 v24 v25) H := by
  have nd := scLaw.nd
  have hr1 : Room 1 _ := hr.mono (by decide)
  have hr2 : Room 2 _ := hr.mono (by decide)
  have hr9 : Room 9 _ := hr.mono (by decide)
  refine ⟨_, (pss_cons (ps_for PassesOwn.never rfl (pi_range1 (by rfl) B0.range (pa_cons (pv 2) pa_nil)) (pg_name (i := 21) nd rfl (Or.inl rfl))
  (pss_cons (ps_expr (pc_ GKn hr1 (pa_cons (pe_ix ix_list (pv 12) (pv 21) (fun _ _ => rfl)) (pa_cons (pv 10) pa_nil))))
  (pss_one (ps_if (PW.pt (pw_or (pt_not (pt_val (pc_ GHd hr2 (pa_cons (pe_ix ix_list (pv 4) (pv 21) (fun _ _ => rfl)) (pa_cons (pe_ix ix_list (pv 12) (pv 21) (fun _ _ => rfl)) (pa_cons (pv 10) pa_nil)))))) (pw_or1 (pt_not (pt_val (pc_ GWh hr2 (pa_cons (pe_ix ix_list (pv 4) (pv 21) (fun _ _ => rfl)) (pa_cons (pe_ix ix_list (pv 5) (pv 21) (fun _ _ => rfl)) pa_nil))))))))
  (pss_one (ps_ret pe_bl))
  pss_nil))))
  (pss_one (ps_if (pt_not (pt_val (pc_ GSl hr9 (pa_cons (pv 3) (pa_cons (pv 10) (pa_cons (pv 9) pa_nil))))))
  (pss_one (ps_ret pe_bl))
  pss_nil))), ?_⟩
  intro De a tp t m sr fi sk ph wk sl al ser ro v13 v14 v15 v16 v17 v18 v19 v20 v21 v22 v23 v24 v25 H lab la r B A X e ps sts fis rAs sks phs wks slv qs fr out rows first ρs phx slots serN nok L0 W0 I hsv hrho hasc zq zr kD
  have t3 := nok.t3
  refine ⟨_, rfl, _, rfl, by omega, by omega, for_range (lo := 0) (n := (t : Int).toNat) (fun i σ H' => ∃ (v21 : Option V) (ρs' : Nat → List Rx), σ = lw a tp t m sr fi sk ph wk sl al ser ro v13 v14 v15 v16 v17 v18 v19 v20 v21 v22 v23 v24 v25 ∧ (∀ b o, H b = some o → (Imm o ∨ ∀ i, lab b ≠ 3 * i + 5) → H' b = some o) ∧ LF c C M H' lab m la t r B A X e ps sts fr out rows first ∧ LwH H' lab t sr fi sk ph wk sl al ro sts fis rAs sks phs wks slv qs first ρs' ∧ (∀ j, j < t → ∀ ρ, ρ ∈ ρs' j → RhoOk e ps (cs_ qs) serN (fr j) (rows j) ρ.rho) ∧ (∀ j, j < t → ∀ ρ, ρ ∈ ρs' j → ∃ ρ0, ρ0 ∈ ρs j ∧ ρ.q1 = ρ0.q1 ∧ ρ.q2.length ≤ ρ0.q2.length + qs.length) ∧ ∀ j, i ≤ j → ρs' j = ρs j) ⟨_, ρs, rfl, fun b o e _ => e, L0, W0, hrho, fun j hj ρ hρ => ⟨ρ, hρ, rfl, by omega⟩, fun _ _ => rfl⟩ ?_ ?_⟩
  · rintro i σ H1 hi ⟨v21, ρs1, rfl, K1, L1, W1, hrho1, hb1, hs1⟩
    have hit : i < t := by omega
    have es := hs1 i (Nat.le_refl i)
    obtain ⟨rA, hrA, hrA2, lrA, hR, hnd⟩ := W1.rw i hit
    have hrv : (rAs.map V.ref)[i]? = some (.ref rA) := by rw [List.getElem?_map, hrA]; rfl
    have ne2 : ∀ b, lab b = 1 → ∀ ρ, ρ ∈ ρs1 i → b ≠ ρ.c2 := fun b hb ρ hρ z => by
      obtain ⟨_, _, _, l3⟩ := hR ρ hρ
      rw [← z, hb] at l3
      omega
    refine ⟨_, rfl, _, rfl, ro, _, 0 + (i : Int), .ref rA, rfl, rfl, SqL.of W1.hro.1, zadd_nat hrv, _, rfl, rA, al, ρs1 i, qs, rfl, hrA2, W1.hal.1, W1.cl, fun ρ hρ => (hR ρ hρ).1, hnd, fun ρ ρ' h h' => ⟨ne2 _ (hR ρ h).2.1 ρ' h', ne2 _ (hR ρ h).2.2.1 ρ' h'⟩, fun ρ h => ⟨ne2 _ lrA ρ h, ne2 _ W1.hal.2 ρ h⟩, zq, fun ρ h => by rw [es] at h; exact zr i hit ρ h, fun H2 f hf kf => ?_⟩
    have kl : Kl i lab H1 H2 := fun b o e h => kf b o e fun ρ hρ z => by
      obtain ⟨R, _, _, l3⟩ := hR ρ hρ
      rcases h with h | h
      · rw [z, R.l2] at e
        cases e
        exact nimm_lst h
      · exact h (z ▸ l3)
    have L2' := L1.kl kl
    have W2 := W1.kl kl f fun j ρ hj => ⟨(hf j ρ hj).1, (hf j ρ hj).2.1⟩
    have mem2 : ∀ ρ' : Rx, ρ' ∈ kn2 f (ρs1 i) → ∃ (j : Nat) (ρ : Rx), (ρs1 i)[j]? = some ρ ∧ ρ' = ({ ρ with q2 := f j } : Rx) := fun (ρ' : Rx) h => by
      obtain ⟨n, hn⟩ := List.getElem?_of_mem h
      rw [kn2_get] at hn
      obtain ⟨ρ, hρ, rfl⟩ := Option.map_eq_some_iff.mp hn
      exact ⟨n, ρ, hρ, rfl⟩
    have hrho2 : ∀ j, j < t → ∀ ρ, ρ ∈ upN ρs1 i (kn2 f (ρs1 i)) j → RhoOk e ps (cs_ qs) serN (fr j) (rows j) ρ.rho := fun j hj ρ' h => by
      by_cases cj : j = i
      · subst cj
        rw [upN_same] at h
        obtain ⟨n, ρ, hn, rfl⟩ := mem2 ρ' h
        exact (hrho1 j hj ρ (List.mem_of_getElem? hn)).known I rfl rfl (hf n ρ hn).2.2.1
      · rw [upN_ne cj] at h
        exact hrho1 j hj ρ' h
    have hb2 : ∀ j, j < t → ∀ ρ, ρ ∈ upN ρs1 i (kn2 f (ρs1 i)) j → ∃ ρ0, ρ0 ∈ ρs j ∧ ρ.q1 = ρ0.q1 ∧ ρ.q2.length ≤ ρ0.q2.length + qs.length := fun j hj ρ' h => by
      by_cases cj : j = i
      · subst cj
        rw [upN_same] at h
        obtain ⟨n, ρ, hn, rfl⟩ := mem2 ρ' h
        exact ⟨ρ, es ▸ List.mem_of_getElem? hn, rfl, (hf n ρ hn).2.2.2⟩
      · rw [upN_ne cj] at h
        exact hb1 j hj ρ' h
    have K2 : ∀ b o, H b = some o → (Imm o ∨ ∀ i, lab b ≠ 3 * i + 5) → H2 b = some o := fun b o e h => kl b o (K1 b o e h) (h.imp id fun h => h i)
    have hs2 : ∀ j, i + 1 ≤ j → upN ρs1 i (kn2 f (ρs1 i)) j = ρs j := fun j hj => by rw [upN_ne (by omega)]; exact hs1 j (by omega)
    generalize upN ρs1 i (kn2 f (ρs1 i)) = ρs2 at W2 hrho2 hb2 hs2
    obtain ⟨rB, hrB, hrB2, _, hR2, _⟩ := W2.rw i hit
    obtain ⟨s, hs, ⟨fa, wa, oa, rw', R0, er, oz⟩, cs, f9, r9⟩ := L2'.st i hit
    have hrv2 : (rAs.map V.ref)[i]? = some (.ref rB) := by rw [List.getElem?_map, hrB]; rfl
    have hsv2 : (sts.map V.ref)[i]? = some (.ref s) := by rw [List.getElem?_map, hs]; rfl
    refine ⟨_, rfl, _, rfl, sr, _, 0 + (i : Int), .ref s, rfl, rfl, SqL.of W2.hsr.1, zadd_nat hsv2, _, rfl, _, rfl, ro, _, 0 + (i : Int), .ref rB, rfl, rfl, SqL.of W2.hro.1, zadd_nat hrv2, _, rfl, s, la, rB, al, (i : Int), fa, wa, oa, fr i, out i, rw', ρs2 i, qs, rfl, R0, hrB2, W2.hal.1, W2.cl, fun ρ h => (hR2 ρ h).1, fun ρ h hc x hx => ?_, fun H3 s3 => ⟨_, rfl, iteC rfl ?_⟩⟩
    · have := (hrho2 i hit ρ h).held I hc x hx
      exact ⟨fun z => this (.inl z), fun z => this (.inr z)⟩
    have L3 := L2'.kl (Kl.same (i := i) s3)
    have W3 := W2.same s3
    obtain ⟨fA, hfA, hfA2, _⟩ := W3.fa i hit
    have hfv : (fis.map V.ref)[i]? = some (.ref fA) := by rw [List.getElem?_map, hfA]; rfl
    refine ⟨_, rfl, _, rfl, sr, _, 0 + (i : Int), .ref s, rfl, rfl, SqL.of W3.hsr.1, zadd_nat hsv2, _, rfl, _, rfl, fi, _, 0 + (i : Int), .ref fA, rfl, rfl, SqL.of W3.hfi.1, zadd_nat hfv, s, la, (i : Int), fa, wa, oa, fr i, out i, rw', fA, first i, rfl, R0.same s3, by rw [← rwP_len, er]; exact r9, hfA2, by rw [← flat_P, er]; exact cs.pm, hasc i hit, by omega, fun H4 s4 => ⟨_, rfl, iteC rfl ?_⟩⟩
    exact ⟨_, ρs2, rfl, fun b o e h => s4 _ _ (s3 _ _ (K2 b o e h)), L3.kl (Kl.same (i := i) s4), W3.same s4, hrho2, hb2, hs2⟩
  · rintro σ H1 ⟨v21, ρs1, rfl, K1, L1, W1, hrho1, hb1, hs1⟩
    obtain ⟨dm, hm⟩ := L1.wd.D.ob
    have h0 : X.ps[0]? = some (.int e) := by rw [L1.ps]; rfl
    refine ⟨_, rfl, _, rfl, _, rfl, m, al, sl, t, 3, r, A, X, qs, slv, e, rfl, L1.wd.D, W1.hal.1, W1.cl, W1.hsl.1, h0, fun x hx => ?_, ⟨_, rfl, iteF (kD H1 ρs1 v21 K1 L1 W1 hrho1 hb1)⟩⟩
    obtain ⟨h1, h2, h3, s, h4, h5, h6, h7⟩ := I.ac x hx
    exact ⟨h1, s, by rw [L1.ps, show 1 + x.1 = x.1 + 1 by omega]; exact h4, by rw [hsv x hx, h5], h6, h7⟩
end
end Dk

set_option maxHeartbeats 4000000
/-! one step of a thread, whatever its stage -/
namespace Dk
open PySem PySem.Spec PyProof.Rows L2 StX
/-- from a stage to the next: what the access is, and what becomes of the epoch, the slots and the cells -/
inductive Tr1 (t i : Nat) (e : Int) (ps : List V) (fr out : List Int) (rows : Rp) : Stg → Rq → Stg → Int → List V → List Int → List Int → Rp → Prop
  | e0 : Tr1 t i e ps fr out rows .e0 (.read 0) (.e1 e) e ps fr out rows
  | e1 {ep : Int} : Tr1 t i e ps fr out rows (.e1 ep) (.write (1 + i) (.int ep)) (.e2 ep) e (ps.set i (.int ep)) fr out rows
  | e2 {ep : Int} : Tr1 t i e ps fr out rows (.e2 ep) (.read 0) (if ep = e then .dn else .e1 e) e ps fr out rows
  | l0 : Tr1 t i e ps fr out rows .l0 (.read 0) (.l1 true) e ps fr [] (rows ++ [(e, out)])
  | l1f : Tr1 t i e ps fr out rows (.l1 false) (.write (1 + i) .non) .dn e (ps.set i .non) fr out rows
  | l1t : Tr1 t i e ps fr out rows (.l1 true) (.write (1 + i) .non) .l2 e (ps.set i .non) fr out rows
  | l2 : Tr1 t i e ps fr out rows .l2 (.read 0) (lookS e (oth i t)) e ps fr out rows
  | l3 {ep : Int} {j : Nat} {os : List Nat} (h : ps[j]? = some .non ∨ ps[j]? = some (.int ep)) : Tr1 t i e ps fr out rows (.l3 ep (1 + j) os) (.read (1 + j)) (lookS ep os) e ps fr out rows
  | l3f {ep : Int} {j : Nat} {os : List Nat} {fr' : List Int} (pm : fr'.Perm (fr ++ upP (ep - 3) rows)) : Tr1 t i e ps fr out rows (.l3 ep (1 + j) os) (.read (1 + j)) .dn e ps fr' out (rows.filter fun r => decide (ep - 3 < r.1))
  | l4 {fr' : List Int} (pm : fr'.Perm (fr ++ upP (e + 1 - 3) rows)) : Tr1 t i e ps fr out rows (.l4 e) (.swap 0 (.int e) (.int (e + 1))) .dn (e + 1) ps fr' out (rows.filter fun r => decide (e + 1 - 3 < r.1))
  | l4n {ep : Int} {fr' : List Int} (ne : e ≠ ep) (pm : fr'.Perm (fr ++ upP (ep - 3) rows)) : Tr1 t i e ps fr out rows (.l4 ep) (.swap 0 (.int ep) (.int (ep + 1))) .dn e ps fr' out (rows.filter fun r => decide (ep - 3 < r.1))
section
variable {P : Program} {W : World} {K : PySem.W.Frag} {mg : Str → Option Value} {base : Heap} {C M : Addr} {H : Hp} {m : Addr} {t w r B i : Nat} {A : Adr} {X : MS} {lab : Addr → Nat} {k st la : Addr} {fr out : List Int} {rows : Rp} {c : Cv} {fE fL : Addr} {Q : VK} {e : Int} {ps : List V} {g : Stg}
theorem st_all (T : KT P W K mg base c C fE fL) (nok : NOk t w r) (hth : i < t) (Wm : Wd C M H m t w r B A X lab) (hB : B + 6 < sizeLine) (G : StgAt c H lab t i st k g) (R : Sto c.St H lab i st la fr out rows) (hla : A.a = la) (hps : X.ps = .int e :: ps) (sl : ∀ j, j < t → ps[j]? = some .non ∨ ∃ s : Int, ps[j]? = some (.int s)) (ub : UpB fr rows) (nd : g ≠ .dn) (hj : ∀ ep j os, g = .l3 ep j os → 1 ≤ j ∧ j < 1 + t)
    (nxt : ∀ rq g' e' ps' fr' out' rows', Tr1 t i e ps fr out rows g rq g' e' ps' fr' out' rows' → Af K c C M m t w r B i st la k H lab A X rq Q (.int e' :: ps') g' fr' out' rows') :
    spKStL P W K mg base 6 c.S C M [.ref k, .ref m, .int (i : Int)] H Q E0 := by
  have eset : ∀ v, X.ps.set (1 + i) v = .int e :: ps.set i v := fun v => by rw [hps, show 1 + i = i + 1 by omega]; rfl
  cases g with
  | e0 => exact st_e0 T nok hth Wm hB G R hps (by rw [hps]; exact nxt _ _ _ _ _ _ _ .e0)
  | e1 ep => exact st_e1 T nok hth Wm hB G R (by rw [eset]; exact nxt _ _ _ _ _ _ _ .e1)
  | e2 ep => exact st_e2 T nok hth Wm hB G R hps (by rw [hps]; exact nxt _ _ _ _ _ _ _ .e2)
  | l0 => exact st_l0 T nok hth Wm hB G R hla hps ub.1 (by rw [hps]; exact nxt _ _ _ _ _ _ _ .l0)
  | l1 wt =>
    cases wt with
    | false => exact st_l1f T nok hth Wm hB G R (by rw [eset]; exact nxt _ _ _ _ _ _ _ .l1f)
    | true => exact st_l1t T nok hth Wm hB G R (by rw [eset]; exact nxt _ _ _ _ _ _ _ .l1t)
  | l2 => exact st_l2 T nok hth Wm hB G R hps (by rw [hps]; exact nxt _ _ _ _ _ _ _ .l2)
  | l3 ep j os =>
    obtain ⟨h1, h2⟩ := hj ep j os rfl
    obtain ⟨j, rfl⟩ : ∃ j', j = 1 + j' := ⟨j - 1, by omega⟩
    have hc : ∀ v, ps[j]? = some v → X.ps[1 + j]? = some v := fun v h => by rw [hps, show 1 + j = j + 1 by omega]; exact h
    rcases sl j (by omega) with h | ⟨s, h⟩
    · exact st_l3 T nok hth Wm hB G R h2 (hc _ h) ub (.inl ⟨.inl rfl, by rw [hps]; exact nxt _ _ _ _ _ _ _ (.l3 (.inl h))⟩)
    · by_cases ce : s = ep
      · exact st_l3 T nok hth Wm hB G R h2 (hc _ h) ub (.inl ⟨.inr (congrArg V.int ce), by rw [hps]; exact nxt _ _ _ _ _ _ _ (.l3 (.inr (by rw [h, ce])))⟩)
      · exact st_l3 T nok hth Wm hB G R h2 (hc _ h) ub (.inr ⟨⟨s, rfl, ce⟩, fun fr' pm _ => by rw [hps]; exact nxt _ _ _ _ _ _ _ (.l3f pm)⟩)
  | l4 ep =>
    refine st_l4 T nok hth Wm hB G R hps ub fun kn ps' hk fr' pm _ => ?_
    rcases hk with ⟨rfl, rfl, rfl⟩ | ⟨ne, rfl, rfl⟩
    · exact nxt _ _ _ _ _ _ _ (.l4 pm)
    · rw [hps]
      exact nxt _ _ _ _ _ _ _ (.l4n ne pm)
  | dn => exact absurd rfl nd
end
abbrev sLog : Stmt := inClass (top 25) 7
def spLog (C M : Addr) : Sp := fun vs H Q _ => ∃ (m : Addr) (t w r : Nat) (A : Adr) (X : MS), vs = [.ref m] ∧ MemAt C M H m t w r A X ∧ ∀ p, H p = none → Q (.ref p) (upd H p (.lst X.log))
section
variable {P : Program} {w : World} {K : PySem.W.Frag} {mg : Str → Option Value} {base : Heap} {C M : Addr}
theorem scLog : FnScope ["self"] ["self"] (defScope sLog) := ⟨rfl, rfl, rfl, by decide +kernel, rfl, by decide +kernel, by decide +kernel⟩
theorem mo_log (F : MT K M "log" "Memory.log" sLog ["self"]) (B0 : Bn mg) (TM : MTxt K M) : MO P w K mg base CX0 M 1 "log" ["self"] (spLog C M) := by
  obtain ⟨f, fd, F, hm, hb⟩ := F
  refine ⟨f, fd, ?_, hm, hb⟩
  refine F.ok scLog (fun vs H Q E h => ?_) (fun cdv A outer s H vs Q E hr h => ?_)
  · obtain ⟨m, t, w, r, A, X, rfl, _⟩ := h
    rfl
  · obtain ⟨m, t, wd, r, A0, X, rfl, D, k⟩ := h
    obtain ⟨dm, hm'⟩ := D.ob
    refine ⟨_, pss_one (ps_ret (pe_callTy call_list_of (by rfl) B0.list (by decide +kernel) (pa_cons (pe_fld (pv 0) rfl) pa_nil))), ?_⟩
    exact ⟨_, rfl, m, M, dm, _, _, rfl, hm', TM.cl, TM.nG, rfl, A0.gl, _, rfl, .inl (SqL.of D.gl), k⟩
end
end Dk

set_option maxHeartbeats 4000000
/-! what a step of the stack does to the law's picture -/
namespace Dk
open PySem PySem.Spec PyProof.Rows L2
section
variable {t i : Nat} {e e' : Int} {ps ps' : List V} {act : List Call} {ser : Nat} {ph : Nat → Ph} {slots : Nat → V} {g g' : Stg} {rq : Rq} {fr fr' out out' : List Int} {rows rows' : Rp}
theorem upN_id {α : Type} {f : Nat → α} {i : Nat} : upN f i (f i) = f := by
  funext j
  unfold upN
  split
  · rename_i h; rw [h]
  · rfl
/-- the same epoch, slots and calls; the thread goes to a stage that is allowed -/
theorem Inv.go (I : Inv t e ps ph act ser slots) (hi : i < t) (p : Ph) (own : PhOk t e ps act i p) (ha : (ph i).act = true → p.act = true) : Inv t e ps (upN ph i p) act ser slots := by
  have h := I.step (i := i) (g := p) Mv.refl hi (slots i) own I.len (I.sl i hi) (fun z => by omega) fun c hc hci => ?_
  · rw [upN_id] at h; exact h
  · obtain ⟨_, h2, h3, s, h4, h5, h6, h7⟩ := I.ac c hc
    rw [hci] at h3 h4 h5
    exact ⟨h2, ha h3, s, h4, h5, h6, h7⟩
/-- the thread writes its slot, and has no call then -/
theorem Inv.wr (I : Inv t e ps ph act ser slots) (hi : i < t) (p : Ph) (v : V) (hv : v = .non ∨ ∃ s : Int, v = .int s) {act' : List Call} (ha : ∀ c, c ∈ act' → c ∈ act ∧ c.1 ≠ i) (own : PhOk t e (ps.set i v) act' i p) : Inv t e (ps.set i v) (upN ph i p) act' ser slots ∧ Mv i e ps act ser e (ps.set i v) act' ser := by
  have hl : i < ps.length := by rw [I.len]; exact hi
  have ne : ∀ j, j ≠ i → (ps.set i v)[j]? = ps[j]? := fun j h => List.getElem?_set_ne (fun z => h z.symm)
  have mv : Mv i e ps act ser e (ps.set i v) act' ser := ⟨.inl rfl, Nat.le_refl _, ne, fun c hc => .inl ⟨(ha c hc).1, ne _ (ha c hc).2⟩⟩
  refine ⟨?_, mv⟩
  have h := I.step (i := i) (g := p) mv hi (slots i) own (by rw [List.length_set]; exact I.len) ?_ (fun z => by omega) fun c hc hci => absurd hci (ha c hc).2
  · rw [upN_id] at h; exact h
  · rw [List.getElem?_set_self hl]
    rcases hv with rfl | ⟨s, rfl⟩
    · exact .inl rfl
    · exact .inr ⟨s, rfl⟩
/-- the call is noted -/
def Acts (rq : Rq) (ps ps' : List V) (i : Nat) (e : Int) : Prop := (∃ n, rq = .read n) ∧ ps'[i]? ≠ some .non ∧ ps[i]? = some (.int e)
theorem inv_en (I : Inv t e ps ph act ser slots) (hi : i < t) (hp : ph i = .en g) (T : Tr1 t i e ps fr out rows g rq g' e' ps' fr' out' rows') :
    e' = e ∧ fr' = fr ∧ out' = out ∧ rows' = rows ∧ (∀ c, c ∈ act → c.1 ≠ i) ∧
      ((¬ Acts rq ps ps' i e ∧ Inv t e ps' (upN ph i (.en g')) act ser slots ∧ Mv i e ps act ser e ps' act ser) ∨
       (Acts rq ps ps' i e ∧ Inv t e ps' (upN ph i (.en g')) (act ++ [(i, ser + 1)]) (ser + 1) (upN slots i (.int e)) ∧ Mv i e ps act ser e ps' (act ++ [(i, ser + 1)]) (ser + 1))) := by
  have own := I.iph i hi
  rw [hp] at own
  cases T with
  | e0 =>
    have own : ps[i]? = some .non := own
    have na := I.none (i := i) (by rw [hp]; rfl)
    refine ⟨rfl, rfl, rfl, rfl, na, .inl ⟨fun h => h.2.1 own, I.go hi _ trivial (by rw [hp]; intro z; cases z), Mv.refl⟩⟩
  | e1 =>
    rename_i ep
    have na := I.none (i := i) (by rw [hp]; rfl)
    have hl : i < ps.length := by rw [I.len]; exact hi
    obtain ⟨I', mv⟩ := I.wr hi (.en (.e2 ep)) (.int ep) (.inr ⟨ep, rfl⟩) (act' := act) (fun c hc => ⟨hc, na c hc⟩) (List.getElem?_set_self hl)
    exact ⟨rfl, rfl, rfl, rfl, na, .inl ⟨(fun h => by obtain ⟨⟨n, z⟩, _⟩ := h; cases z), I', mv⟩⟩
  | e2 =>
    rename_i ep
    have own : ps[i]? = some (.int ep) := own
    have na := I.none (i := i) (by rw [hp]; rfl)
    refine ⟨rfl, rfl, rfl, rfl, na, ?_⟩
    by_cases ce : ep = e
    · subst ce
      rw [if_pos rfl]
      refine .inr ⟨⟨⟨0, rfl⟩, (by rw [own]; intro z; cases z), own⟩, ?_⟩
      have mv : Mv i ep ps act ser ep ps (act ++ [(i, ser + 1)]) (ser + 1) := ⟨.inl rfl, by omega, fun _ _ => rfl, fun c hc => by
        rcases List.mem_append.mp hc with h | h
        · exact .inl ⟨h, rfl⟩
        · rw [List.mem_singleton.mp h]
          exact .inr ⟨by show ser < ser + 1; omega, rfl, rfl, own⟩⟩
      refine ⟨I.step mv hi (.int ep) trivial I.len (I.sl i hi) (fun z => by omega) fun c hc hci => ?_, mv⟩
      rcases List.mem_append.mp hc with h | h
      · exact absurd hci (na c h)
      · rw [List.mem_singleton.mp h]
        exact ⟨Nat.le_refl _, rfl, ep, own, rfl, Int.le_refl _, by omega⟩
    · rw [if_neg ce]
      refine .inl ⟨fun h => ce ?_, I.go hi _ trivial (by rw [hp]; intro z; cases z), Mv.refl⟩
      have := h.2.2
      rw [own] at this
      cases this
      rfl
  | _ => exact own.elim
end
end Dk

set_option maxHeartbeats 4000000
/-! a step of leaving in the law's picture -/
namespace Dk
open PySem PySem.Spec PyProof.Rows L2
section
variable {t i : Nat} {e e' : Int} {ps ps' : List V} {act : List Call} {ser : Nat} {ph : Nat → Ph} {slots : Nat → V} {g g' : Stg} {rq : Rq} {fr fr' out out' first : List Int} {rows rows' : Rp} {ep : Int} {os : List Nat}
theorem ph_look (h : ps[i]? = some .non) (s : Scan t e ps act i ep os) : PhOk t e ps act i (.lv (lookS ep os)) := by
  cases os with
  | nil => exact ⟨h, s⟩
  | cons j os => exact ⟨h, s⟩
theorem mem_oth {j : Nat} (h : j < t) (n : j ≠ i) : 1 + j ∈ oth i t := by
  unfold oth
  exact List.mem_map.mpr ⟨j, List.mem_filter.mpr ⟨List.mem_range.mpr h, decide_eq_true n⟩, rfl⟩
theorem inv_lv (I : Inv t e ps ph act ser slots) (hi : i < t) (hp : ph i = .lv g) (T : Tr1 t i e ps fr out rows g rq g' e' ps' fr' out' rows') :
    ∃ act', ((ps[i]? ≠ some .non ∧ ps'[i]? = some .non ∧ act' = act.filter fun c => decide (c.1 ≠ i)) ∨ (¬ (ps[i]? ≠ some .non ∧ ps'[i]? = some .non) ∧ act' = act)) ∧
      Inv t e' ps' (upN ph i (.lv g')) act' ser slots ∧ Mv i e ps act ser e' ps' act' ser ∧ (∀ ρ, RhoOk e' ps' act' ser fr rows ρ → RhoOk e' ps' act' ser fr' rows' ρ) ∧ (CellOk e first fr out rows → CellOk e' first fr' out' rows') := by
  have own := I.iph i hi
  rw [hp] at own
  have hl : i < ps.length := by rw [I.len]; exact hi
  have stay : ∀ (p : Ph), PhOk t e ps act i p → ((ph i).act = true → p.act = true) → ∀ {fr' out' : List Int} {rows' : Rp}, (∀ ρ, RhoOk e ps act ser fr rows ρ → RhoOk e ps act ser fr' rows' ρ) → (CellOk e first fr out rows → CellOk e first fr' out' rows') →
      ∃ act', ((ps[i]? ≠ some .non ∧ ps[i]? = some .non ∧ act' = act.filter fun c => decide (c.1 ≠ i)) ∨ (¬ (ps[i]? ≠ some .non ∧ ps[i]? = some .non) ∧ act' = act)) ∧ Inv t e ps (upN ph i p) act' ser slots ∧ Mv i e ps act ser e ps act' ser ∧ (∀ ρ, RhoOk e ps act' ser fr rows ρ → RhoOk e ps act' ser fr' rows' ρ) ∧ (CellOk e first fr out rows → CellOk e first fr' out' rows') :=
    fun p o a {fr' out' rows'} h1 h2 => ⟨act, .inr ⟨fun h => h.1 h.2, rfl⟩, I.go hi p o a, Mv.refl, h1, h2⟩
  have wr : ∀ (p : Ph), (∀ act', PhOk t e (ps.set i .non) act' i p) →
      ∃ act', ((ps[i]? ≠ some .non ∧ (ps.set i .non)[i]? = some .non ∧ act' = act.filter fun c => decide (c.1 ≠ i)) ∨ (¬ (ps[i]? ≠ some .non ∧ (ps.set i .non)[i]? = some .non) ∧ act' = act)) ∧ Inv t e (ps.set i .non) (upN ph i p) act' ser slots ∧ Mv i e ps act ser e (ps.set i .non) act' ser ∧ (∀ ρ, RhoOk e (ps.set i .non) act' ser fr rows ρ → RhoOk e (ps.set i .non) act' ser fr rows ρ) ∧ (CellOk e first fr out rows → CellOk e first fr out rows) := fun p o => by
    by_cases c : ps[i]? = some .non
    · obtain ⟨I', mv⟩ := I.wr hi p .non (.inl rfl) (act' := act) (fun x hx => ⟨hx, fun z => by
        obtain ⟨_, _, _, s, h4, _⟩ := I.ac x hx
        rw [z, c] at h4
        cases h4⟩) (o act)
      exact ⟨act, .inr ⟨fun h => h.1 c, rfl⟩, I', mv, fun _ h => h, fun h => h⟩
    · obtain ⟨I', mv⟩ := I.wr hi p .non (.inl rfl) (act' := act.filter fun c => decide (c.1 ≠ i)) (fun x hx => ⟨(List.mem_filter.mp hx).1, of_decide_eq_true (List.mem_filter.mp hx).2⟩) (o _)
      exact ⟨_, .inl ⟨c, List.getElem?_set_self hl, rfl⟩, I', mv, fun _ h => h, fun h => h⟩
  cases T with
  | l0 => exact stay (.lv (.l1 true)) trivial (fun _ => rfl) (fun ρ h => h.stamp) fun h => h.stamp
  | l1f => exact wr (.lv .dn) fun _ => List.getElem?_set_self hl
  | l1t => exact wr (.lv .l2) fun _ => List.getElem?_set_self hl
  | l2 =>
    have own : ps[i]? = some .non := own
    refine stay (.lv (lookS e (oth i t))) (ph_look own ⟨Int.le_refl _, fun x hx => ?_, fun _ c hc hn ho => ?_⟩) (by rw [hp]; intro z; cases z) (fun ρ h => h) fun h => h
    · obtain ⟨j, rfl, hj, _⟩ := oth_mem hx
      omega
    · exact absurd (mem_oth (I.ac c hc).1 hn) ho
  | l3 h =>
    rename_i ep j os
    obtain ⟨own, s1, s2, s3⟩ := own
    refine stay (.lv (lookS ep os)) (ph_look own ⟨s1, fun x hx => s2 x (List.mem_cons_of_mem _ hx), fun he c hc hn ho => ?_⟩) (by rw [hp]; intro z; cases z) (fun ρ h => h) fun h => h
    by_cases cj : c.1 = j
    · obtain ⟨_, _, _, s, h4, _⟩ := I.ac c hc
      rw [cj] at h4 ⊢
      rcases h with h | h
      · rw [h4] at h; cases h
      · rw [h, he]
    · refine s3 he c hc hn fun hm => ?_
      rcases List.mem_cons.mp hm with z | z
      · exact cj (by omega)
      · exact ho z
  | l3f pm =>
    rename_i ep j os
    obtain ⟨own, s1, _⟩ := own
    exact stay (.lv .dn) own (by rw [hp]; intro z; cases z) (fun ρ h => h.free s1 pm) fun h => h.free pm
  | l4 pm =>
    obtain ⟨own, s1, s2, s3⟩ := own
    have na := I.none (i := i) (by rw [hp]; rfl)
    have mv : Mv i e ps act ser (e + 1) ps act ser := ⟨.inr rfl, Nat.le_refl _, fun _ _ => rfl, fun c hc => .inl ⟨hc, rfl⟩⟩
    refine ⟨act, .inr ⟨fun h => h.1 h.2, rfl⟩, ?_, mv, fun ρ h => h.free (Int.le_refl _) pm, fun h => (h.le (by omega)).free pm⟩
    have h := I.step (i := i) (g := .lv .dn) mv hi (slots i) own I.len (I.sl i hi) (fun _ c hc => s3 rfl c hc (na c hc) (by simp)) fun c hc hci => absurd hci (na c hc)
    rw [upN_id] at h
    exact h
  | l4n ne pm =>
    obtain ⟨own, s1, _⟩ := own
    exact stay (.lv .dn) own (by rw [hp]; intro z; cases z) (fun ρ h => h.free s1 pm) fun h => h.free pm
  | _ => exact own.elim
end
end Dk

set_option maxHeartbeats 4000000
/-! the law k09: a pick of a thread that enters or leaves -/
namespace Dk
open PySem PySem.Spec PyProof.Rows L2 StX
def elseBody : Stmt → List Stmt
  | .If _ _ b _ => b
  | _ => []
def thenBody : Stmt → List Stmt
  | .If _ b _ _ => b
  | _ => []
abbrev sPick : Stmt := (loopBody ((defBody sLaw).getD 12 (.Pass ⟨0, 0, 0, 0⟩))).getD 3 (.Pass ⟨0, 0, 0, 0⟩)
end Dk

set_option maxHeartbeats 4000000
/-! the law k09: all that holds between two picks -/
namespace Dk
open PySem PySem.Spec PyProof.Rows L2
def phS : Ph → Str
  | .out => "out"
  | .en _ => "entering"
  | .inn => "in"
  | .lv _ => "leaving"
/-- between two picks, behind n of them -/
structure Ls (c : Cv) (C M : Addr) (H : Hp) (lab : Addr → Nat) (m la : Addr) (t r B n n2 : Nat) (A : Adr) (X : MS) (sr fi sk ph wk sl al ro : Addr) (sts fis rAs : List Addr) (sks : List V) (phs : List Str) (wks : List Int) (slv : List V) (qs : QL) (first : Nat → List Int) (ρs : Nat → List Rx) (e : Int) (ps : List V) (fr out : Nat → List Int) (rows : Nat → Rp) (phx : Nat → Ph) (slots : Nat → V) (ser : Nat) : Prop where
  lf : LF c C M H lab m la t r B A X e ps sts fr out rows first
  lh : LwH H lab t sr fi sk ph wk sl al ro sts fis rAs sks phs wks slv qs first ρs
  inv : Inv t e ps phx (cs_ qs) ser slots
  ms : ∀ j g, j < t → phx j = .en g ∨ phx j = .lv g → ∃ k s, sks[j]? = some (.ref k) ∧ sts[j]? = some s ∧ StgAt c H lab t j s k g
  pp : ∀ j, j < t → phs[j]? = some (phS (phx j))
  sv : ∀ x, x ∈ cs_ qs → slv[x.1]? = some (slots x.1)
  rho : ∀ j, j < t → ∀ ρ, ρ ∈ ρs j → RhoOk e ps (cs_ qs) ser (fr j) (rows j) ρ.rho
  oo : ∀ j, j < t → (phx j = .out ∨ (∃ g, phx j = .en g) ∨ ∃ g, phx j = .lv g ∧ g ≠ .l0) → out j = []
  asc : ∀ j, j < t → Asc (first j)
  ln : sts.length = t ∧ sks.length = t ∧ phs.length = t ∧ wks.length = t ∧ slv.length = t ∧ rAs.length = t
  zr : ∀ j, j < t → (rows j).length ≤ n
  zq : qs.length ≤ n
  zp : ∀ j, j < t → (ρs j).length ≤ 5 * n ∧ ∀ ρ, ρ ∈ ρs j → ρ.q1.length ≤ n ∧ ρ.q2.length ≤ n2
section
variable {c : Cv} {C M : Addr} {H H' : Hp} {lab lab' : Addr → Nat} {m la : Addr} {t r B i : Nat} {A : Adr} {X : MS} {sts fis rAs : List Addr} {sr fi sk ph wk sl al ro : Addr} {sks : List V} {phs : List Str} {wks : List Int} {slv : List V} {qs : QL} {first : Nat → List Int} {ρs : Nat → List Rx}
/-- the law's lists through a step of thread i -/
theorem LwH.fr (L : LwH H lab t sr fi sk ph wk sl al ro sts fis rAs sks phs wks slv qs first ρs) (F : Fr i lab H lab' H') : LwH H' lab' t sr fi sk ph wk sl al ro sts fis rAs sks phs wks slv qs first ρs := by
  have k : ∀ {b : Addr} {o : HO} {n : Nat}, n ≠ 0 → n ≠ lM i → n ≠ lS i → H b = some o ∧ lab b = n → H' b = some o ∧ lab' b = n := fun {b o n} h0 h1 h2 h => ⟨F.kp b o h.1 (by rw [h.2]; exact h0) (by rw [h.2]; exact h1) (by rw [h.2]; exact h2), (F.old b o h.1 (by rw [h.2]; exact h0)).trans h.2⟩
  have k1 : ∀ {b : Addr} {o : HO}, H b = some o ∧ lab b = 1 → H' b = some o ∧ lab' b = 1 := fun {b o} h => let ⟨x, y, z⟩ := n12 (i := i) (n := 1) (.inl rfl); k x y z h
  have k2 : ∀ {b : Addr} {o : HO}, H b = some o ∧ lab b = 2 → H' b = some o ∧ lab' b = 2 := fun {b o} h => let ⟨x, y, z⟩ := n12 (i := i) (n := 2) (.inr rfl); k x y z h
  have k5 : ∀ {b : Addr} {o : HO} {j : Nat}, H b = some o ∧ lab b = 3 * j + 5 → H' b = some o ∧ lab' b = 3 * j + 5 := fun {b o j} h => k (by omega) (by show 3 * j + 5 ≠ 3 * i + 3; omega) (by show 3 * j + 5 ≠ 3 * i + 4; omega) h
  have tp : ∀ b xs, H b = some (.tup xs) → H' b = some (.tup xs) := fun b xs e => F.im b _ e .tup
  exact ⟨k1 L.hsr, k1 L.hfi, k2 L.hsk, k2 L.hph, k2 L.hwk, k2 L.hsl, k1 L.hal, k2 L.hro, L.nd, L.cl.on tp, fun a ha => k1 (L.tf a ha), fun j hj => let ⟨a, h1, h2⟩ := L.fa j hj; ⟨a, h1, k1 h2⟩, fun j hj => let ⟨a, h1, h2, h3, h4, h5⟩ := L.rw j hj; ⟨a, h1, (k1 ⟨h2, h3⟩).1, (k1 ⟨h2, h3⟩).2, fun ρ hρ => let ⟨R, l1, l2, l3⟩ := h4 ρ hρ; ⟨⟨(k1 ⟨R.ob, l1⟩).1, (k1 ⟨R.l1, l2⟩).1, (k5 ⟨R.l2, l3⟩).1, R.k1.on tp, R.k2.on tp⟩, (k1 ⟨R.ob, l1⟩).2, (k1 ⟨R.l1, l2⟩).2, (k5 ⟨R.l2, l3⟩).2⟩, h5⟩⟩
/-- and through growth -/
theorem LwH.gr (L : LwH H lab t sr fi sk ph wk sl al ro sts fis rAs sks phs wks slv qs first ρs) (g : Gr lab H lab' H') : LwH H' lab' t sr fi sk ph wk sl al ro sts fis rAs sks phs wks slv qs first ρs := L.fr (g.fr 0)
end
end Dk

set_option maxHeartbeats 4000000
/-! the memory, the stores and the machines through a step of thread i -/
namespace Dk
open PySem PySem.Spec PyProof.Rows L2
section
variable {c : Cv} {C M : Addr} {H H' : Hp} {lab lab' : Addr → Nat} {m la : Addr} {t r B B' i : Nat} {A A' : Adr} {X X' : MS} {e e' : Int} {ps ps' : List V} {sts : List Addr} {fr out : Nat → List Int} {rows : Nat → Rp} {first : Nat → List Int} {fr' out' : List Int} {rows' : Rp} {st : Addr}
theorem LF.stp (L : LF c C M H lab m la t r B A X e ps sts fr out rows first) (F : Fr i lab H lab' H') (W' : Wd C M H' m t 3 r B' A' X' lab') (ea : A'.a = A.a) (eps : X'.ps = .int e' :: ps') (le : e ≤ e') (hst : sts[i]? = some st) (R' : Sto c.St H' lab' i st la fr' out' rows') (ck : CellOk e' (first i) fr' out' rows') (hz : rows'.length < 1000) :
    LF c C M H' lab' m la t r B' A' X' e' ps' sts (upN fr i fr') (upN out i out') (upN rows i rows') first := by
  refine ⟨W', ea.trans L.lay, eps, fun j hj => ?_⟩
  obtain ⟨s, h1, h2, h3, h4, h5⟩ := L.st j hj
  by_cases cj : j = i
  · subst cj
    rw [upN_same, upN_same, upN_same]
    exact ⟨st, hst, R', ck, h4, hz⟩
  · rw [upN_ne cj, upN_ne cj, upN_ne cj]
    exact ⟨s, h1, h2.fr F cj, h3.le le, h4, h5⟩
/-- the machines of all threads -/
def Ms (c : Cv) (H : Hp) (lab : Addr → Nat) (t : Nat) (sks : List V) (sts : List Addr) (phx : Nat → Ph) : Prop := ∀ j g, j < t → phx j = .en g ∨ phx j = .lv g → ∃ k s, sks[j]? = some (.ref k) ∧ sts[j]? = some s ∧ StgAt c H lab t j s k g
theorem Ms.stp {sks sks' : List V} {phx : Nat → Ph} {p : Ph} (h : Ms c H lab t sks sts phx) (F : Fr i lab H lab' H') (hk : ∀ j, j ≠ i → sks'[j]? = sks[j]?) (own : ∀ g, p = .en g ∨ p = .lv g → ∃ k s, sks'[i]? = some (.ref k) ∧ sts[i]? = some s ∧ StgAt c H' lab' t i s k g) : Ms c H' lab' t sks' sts (upN phx i p) := by
  intro j g hj hp
  by_cases cj : j = i
  · subst cj
    rw [upN_same] at hp
    exact own g hp
  · rw [upN_ne cj] at hp
    obtain ⟨k, s, h1, h2, h3⟩ := h j g hj hp
    exact ⟨k, s, (hk j cj).trans h1, h2, h3.fr F cj⟩
end
theorem StgAt.on {c : Cv} {H H1 : Hp} {lab lab' : Addr → Nat} {t j : Nat} {st k : Addr} {g : Stg} (G : StgAt c H lab t j st k g) (kp : ∀ b o, H b = some o → lab b = lM j → H1 b = some o ∧ lab' b = lM j) (im : ∀ b o, H b = some o → Imm o → H1 b = some o) : StgAt c H1 lab' t j st k g := by
  have ms : ∀ {CM dk ml a dx : Addr} {wv : V} {l : Addr} {th : V} {left : List V} {rest : List (Str × V)}, MSk c.S CM H lab j k dk ml a dx wv l th left rest → MSk c.S CM H1 lab' j k dk ml a dx wv l th left rest := fun s => by
    obtain ⟨a1, b1⟩ := kp _ _ s.sk.ob s.zk
    obtain ⟨a2, b2⟩ := kp _ _ s.sk.l s.zm
    obtain ⟨a3, b3⟩ := kp _ _ s.ma.ob s.za
    obtain ⟨a4, b4⟩ := kp _ _ s.ma.lf s.zl
    exact ⟨⟨a1, a2⟩, ⟨a3, a4⟩, b1, b2, b3, b4, s.n1, s.n2⟩
  have lv : ∀ {gm : Addr} {rq : Rq} {nx : Bool} {ep : Int} {os : List Nat}, LvAt c H lab j st k gm rq nx ep os → LvAt c H1 lab' j st k gm rq nx ep os := fun {gm rq nx ep os} G => by
    obtain ⟨dk, ml, a, dx, q, l, qm, sl, left, s, hq, hm, hs, hl⟩ := G
    obtain ⟨a1, b1⟩ := kp _ _ hs.1 hs.2.1
    exact ⟨dk, ml, a, dx, q, l, qm, sl, left, ms s, im _ _ hq .tup, im _ _ hm .met, ⟨a1, b1, hs.2.2⟩, hl.imp id fun ⟨x, q2, y, z⟩ => ⟨x, q2, y, im _ _ z .tup⟩⟩
  cases g with
  | e0 => obtain ⟨dk, ml, a, dx, q, l, qm, s, hq, hm⟩ := G; exact ⟨dk, ml, a, dx, q, l, qm, ms s, im _ _ hq .tup, im _ _ hm .met⟩
  | e1 ep => obtain ⟨dk, ml, a, dx, q, l, qm, q2, s, hq, hq2, hm⟩ := G; exact ⟨dk, ml, a, dx, q, l, qm, q2, ms s, im _ _ hq .tup, im _ _ hq2 .tup, im _ _ hm .met⟩
  | e2 ep => obtain ⟨dk, ml, a, dx, q, l, qm, s, hq, hm⟩ := G; exact ⟨dk, ml, a, dx, q, l, qm, ms s, im _ _ hq .tup, im _ _ hm .met⟩
  | l0 => obtain ⟨ep, G⟩ := G; exact ⟨ep, lv G⟩
  | l1 wt => obtain ⟨ep, G⟩ := G; exact ⟨ep, lv G⟩
  | l2 => obtain ⟨ep, G⟩ := G; exact ⟨ep, lv G⟩
  | l3 ep j' os => exact lv G
  | l4 ep => exact lv G
  | dn =>
    obtain ⟨dk, ml, v, s⟩ := G
    obtain ⟨a1, b1⟩ := kp _ _ s.sk.ob s.zk
    obtain ⟨a2, b2⟩ := kp _ _ s.sk.l s.zm
    exact ⟨dk, ml, v, ⟨a1, a2⟩, b1, b2⟩
/-- a list of the law's changes: nothing else does -/
theorem kl_set {lab : Addr → Nat} {H : Hp} {p : Addr} {o : HO} (hl : lab p = 2) : ∀ b u, H b = some u → lab b ≠ 2 → upd H p o b = some u := fun b u e n => by
  rw [upd_ne fun z => n (by rw [z]; exact hl)]
  exact e
section
variable {c : Cv} {C M : Addr} {H : Hp} {lab : Addr → Nat} {m la : Addr} {t r B : Nat} {A : Adr} {X : MS} {e : Int} {ps : List V} {sts fis rAs : List Addr} {sr fi sk ph wk sl al ro p : Addr} {sks : List V} {phs : List Str} {wks : List Int} {slv : List V} {qs : QL} {fr out : Nat → List Int} {rows : Nat → Rp} {first : Nat → List Int} {ρs : Nat → List Rx} {o : HO}
theorem LF.set (L : LF c C M H lab m la t r B A X e ps sts fr out rows first) (hl : lab p = 2) : LF c C M (upd H p o) lab m la t r B A X e ps sts fr out rows first := by
  have k := kl_set (H := H) (o := o) hl
  refine ⟨⟨L.wd.D.on (fun b u e hf => k b u e (by rw [L.wd.fo b hf]; decide)) (fun u e => k _ u e (by rw [L.wd.la]; decide)), L.wd.so, L.wd.fo, L.wd.la⟩, L.lay, L.ps, fun j hj => ?_⟩
  obtain ⟨s, a, b, d⟩ := L.st j hj
  exact ⟨s, a, b.on fun b u e h => ⟨k b u e (by rw [h]; show 3 * j + 4 ≠ 2; omega), h⟩, d⟩
theorem Ms.set {phx : Nat → Ph} {xs : List V} (h : Ms c H lab t sks sts phx) (hl : lab p = 2) (hp : H p = some (.lst xs)) : Ms c (upd H p o) lab t sks sts phx := fun j g hj hg => by
  obtain ⟨k, s, h1, h2, h3⟩ := h j g hj hg
  exact ⟨k, s, h1, h2, h3.on (fun b u e h => ⟨kl_set hl b u e (by rw [h]; show 3 * j + 3 ≠ 2; omega), h⟩) fun b u e im => by rw [upd_ne fun z => by rw [z, hp] at e; cases e; exact nimm_lst im]; exact e⟩
theorem LwH.setSk (L : LwH H lab t sr fi sk ph wk sl al ro sts fis rAs sks phs wks slv qs first ρs) (zs : List V) : LwH (upd H sk (.lst (zs))) lab t sr fi sk ph wk sl al ro sts fis rAs zs phs wks slv qs first ρs := by
  have hl := L.hsk.2
  have k := kl_set (H := H) (o := .lst (zs)) hl
  have k1 : ∀ {b : Addr} {u : HO}, H b = some u ∧ lab b = 1 → upd H sk (.lst (zs)) b = some u ∧ lab b = 1 := fun {b u} h => ⟨k b u h.1 (by rw [h.2]; decide), h.2⟩
  have k2 : ∀ {b : Addr} {u : HO}, H b = some u ∧ lab b = 2 → b ≠ sk → upd H sk (.lst (zs)) b = some u ∧ lab b = 2 := fun {b u} h n => ⟨by rw [upd_ne n]; exact h.1, h.2⟩
  have tp : ∀ b xs, H b = some (.tup xs) → upd H sk (.lst (zs)) b = some (.tup xs) := fun b xs e => by rw [upd_ne (ne_of e L.hsk.1 (by intro z; cases z))]; exact e
  have nd := L.nd
  simp only [List.nodup_cons, List.mem_cons, List.not_mem_nil, or_false, not_or] at nd
  obtain ⟨⟨n1, n2, n3, n4⟩, ⟨n5, n6, n7⟩, ⟨n8, n9⟩, n10, _⟩ := nd
  exact ⟨k1 L.hsr, k1 L.hfi, ⟨upd_same, hl⟩, k2 L.hph (Ne.symm n1), k2 L.hwk (Ne.symm n2), k2 L.hsl (Ne.symm n3), k1 L.hal, k2 L.hro (Ne.symm n4), L.nd, L.cl.on tp, fun a ha => k1 (L.tf a ha), fun j hj => let ⟨a, h1, h2⟩ := L.fa j hj; ⟨a, h1, k1 h2⟩, fun j hj => let ⟨a, h1, h2, h3, h4, h5⟩ := L.rw j hj; ⟨a, h1, (k1 ⟨h2, h3⟩).1, h3, fun ρ hρ => let ⟨R, l1, l2, l3⟩ := h4 ρ hρ; ⟨⟨(k1 ⟨R.ob, l1⟩).1, (k1 ⟨R.l1, l2⟩).1, k _ _ R.l2 (by rw [l3]; omega), R.k1.on tp, R.k2.on tp⟩, l1, l2, l3⟩, h5⟩⟩
theorem LwH.setPh (L : LwH H lab t sr fi sk ph wk sl al ro sts fis rAs sks phs wks slv qs first ρs) (zs : List Str) : LwH (upd H ph (.lst (zs.map V.str))) lab t sr fi sk ph wk sl al ro sts fis rAs sks zs wks slv qs first ρs := by
  have hl := L.hph.2
  have k := kl_set (H := H) (o := .lst (zs.map V.str)) hl
  have k1 : ∀ {b : Addr} {u : HO}, H b = some u ∧ lab b = 1 → upd H ph (.lst (zs.map V.str)) b = some u ∧ lab b = 1 := fun {b u} h => ⟨k b u h.1 (by rw [h.2]; decide), h.2⟩
  have k2 : ∀ {b : Addr} {u : HO}, H b = some u ∧ lab b = 2 → b ≠ ph → upd H ph (.lst (zs.map V.str)) b = some u ∧ lab b = 2 := fun {b u} h n => ⟨by rw [upd_ne n]; exact h.1, h.2⟩
  have tp : ∀ b xs, H b = some (.tup xs) → upd H ph (.lst (zs.map V.str)) b = some (.tup xs) := fun b xs e => by rw [upd_ne (ne_of e L.hph.1 (by intro z; cases z))]; exact e
  have nd := L.nd
  simp only [List.nodup_cons, List.mem_cons, List.not_mem_nil, or_false, not_or] at nd
  obtain ⟨⟨n1, n2, n3, n4⟩, ⟨n5, n6, n7⟩, ⟨n8, n9⟩, n10, _⟩ := nd
  exact ⟨k1 L.hsr, k1 L.hfi, k2 L.hsk n1, ⟨upd_same, hl⟩, k2 L.hwk (Ne.symm n5), k2 L.hsl (Ne.symm n6), k1 L.hal, k2 L.hro (Ne.symm n7), L.nd, L.cl.on tp, fun a ha => k1 (L.tf a ha), fun j hj => let ⟨a, h1, h2⟩ := L.fa j hj; ⟨a, h1, k1 h2⟩, fun j hj => let ⟨a, h1, h2, h3, h4, h5⟩ := L.rw j hj; ⟨a, h1, (k1 ⟨h2, h3⟩).1, h3, fun ρ hρ => let ⟨R, l1, l2, l3⟩ := h4 ρ hρ; ⟨⟨(k1 ⟨R.ob, l1⟩).1, (k1 ⟨R.l1, l2⟩).1, k _ _ R.l2 (by rw [l3]; omega), R.k1.on tp, R.k2.on tp⟩, l1, l2, l3⟩, h5⟩⟩
theorem LwH.setWk (L : LwH H lab t sr fi sk ph wk sl al ro sts fis rAs sks phs wks slv qs first ρs) (zs : List Int) : LwH (upd H wk (.lst (zs.map V.int))) lab t sr fi sk ph wk sl al ro sts fis rAs sks phs zs slv qs first ρs := by
  have hl := L.hwk.2
  have k := kl_set (H := H) (o := .lst (zs.map V.int)) hl
  have k1 : ∀ {b : Addr} {u : HO}, H b = some u ∧ lab b = 1 → upd H wk (.lst (zs.map V.int)) b = some u ∧ lab b = 1 := fun {b u} h => ⟨k b u h.1 (by rw [h.2]; decide), h.2⟩
  have k2 : ∀ {b : Addr} {u : HO}, H b = some u ∧ lab b = 2 → b ≠ wk → upd H wk (.lst (zs.map V.int)) b = some u ∧ lab b = 2 := fun {b u} h n => ⟨by rw [upd_ne n]; exact h.1, h.2⟩
  have tp : ∀ b xs, H b = some (.tup xs) → upd H wk (.lst (zs.map V.int)) b = some (.tup xs) := fun b xs e => by rw [upd_ne (ne_of e L.hwk.1 (by intro z; cases z))]; exact e
  have nd := L.nd
  simp only [List.nodup_cons, List.mem_cons, List.not_mem_nil, or_false, not_or] at nd
  obtain ⟨⟨n1, n2, n3, n4⟩, ⟨n5, n6, n7⟩, ⟨n8, n9⟩, n10, _⟩ := nd
  exact ⟨k1 L.hsr, k1 L.hfi, k2 L.hsk n2, k2 L.hph n5, ⟨upd_same, hl⟩, k2 L.hsl (Ne.symm n8), k1 L.hal, k2 L.hro (Ne.symm n9), L.nd, L.cl.on tp, fun a ha => k1 (L.tf a ha), fun j hj => let ⟨a, h1, h2⟩ := L.fa j hj; ⟨a, h1, k1 h2⟩, fun j hj => let ⟨a, h1, h2, h3, h4, h5⟩ := L.rw j hj; ⟨a, h1, (k1 ⟨h2, h3⟩).1, h3, fun ρ hρ => let ⟨R, l1, l2, l3⟩ := h4 ρ hρ; ⟨⟨(k1 ⟨R.ob, l1⟩).1, (k1 ⟨R.l1, l2⟩).1, k _ _ R.l2 (by rw [l3]; omega), R.k1.on tp, R.k2.on tp⟩, l1, l2, l3⟩, h5⟩⟩
theorem LwH.setSl (L : LwH H lab t sr fi sk ph wk sl al ro sts fis rAs sks phs wks slv qs first ρs) (zs : List V) : LwH (upd H sl (.lst (zs))) lab t sr fi sk ph wk sl al ro sts fis rAs sks phs wks zs qs first ρs := by
  have hl := L.hsl.2
  have k := kl_set (H := H) (o := .lst (zs)) hl
  have k1 : ∀ {b : Addr} {u : HO}, H b = some u ∧ lab b = 1 → upd H sl (.lst (zs)) b = some u ∧ lab b = 1 := fun {b u} h => ⟨k b u h.1 (by rw [h.2]; decide), h.2⟩
  have k2 : ∀ {b : Addr} {u : HO}, H b = some u ∧ lab b = 2 → b ≠ sl → upd H sl (.lst (zs)) b = some u ∧ lab b = 2 := fun {b u} h n => ⟨by rw [upd_ne n]; exact h.1, h.2⟩
  have tp : ∀ b xs, H b = some (.tup xs) → upd H sl (.lst (zs)) b = some (.tup xs) := fun b xs e => by rw [upd_ne (ne_of e L.hsl.1 (by intro z; cases z))]; exact e
  have nd := L.nd
  simp only [List.nodup_cons, List.mem_cons, List.not_mem_nil, or_false, not_or] at nd
  obtain ⟨⟨n1, n2, n3, n4⟩, ⟨n5, n6, n7⟩, ⟨n8, n9⟩, n10, _⟩ := nd
  exact ⟨k1 L.hsr, k1 L.hfi, k2 L.hsk n3, k2 L.hph n6, k2 L.hwk n8, ⟨upd_same, hl⟩, k1 L.hal, k2 L.hro (Ne.symm n10), L.nd, L.cl.on tp, fun a ha => k1 (L.tf a ha), fun j hj => let ⟨a, h1, h2⟩ := L.fa j hj; ⟨a, h1, k1 h2⟩, fun j hj => let ⟨a, h1, h2, h3, h4, h5⟩ := L.rw j hj; ⟨a, h1, (k1 ⟨h2, h3⟩).1, h3, fun ρ hρ => let ⟨R, l1, l2, l3⟩ := h4 ρ hρ; ⟨⟨(k1 ⟨R.ob, l1⟩).1, (k1 ⟨R.l1, l2⟩).1, k _ _ R.l2 (by rw [l3]; omega), R.k1.on tp, R.k2.on tp⟩, l1, l2, l3⟩, h5⟩⟩
end
end Dk

set_option maxHeartbeats 4000000
/-! rows[thread] = .. -/
namespace Dk
open PySem PySem.Spec PyProof.Rows L2
theorem LwH.setRo {H : Hp} {lab : Addr → Nat} {t i : Nat} {sts fis rAs : List Addr} {sr fi sk ph wk sl al ro rA : Addr} {sks : List V} {phs : List Str} {wks : List Int} {slv : List V} {qs : QL} {first : Nat → List Int} {ρs : Nat → List Rx} {zs : List Rx} (L : LwH H lab t sr fi sk ph wk sl al ro sts fis rAs sks phs wks slv qs first ρs) (hi : i < rAs.length)
    (hA : H rA = some (.lst (zs.map fun ρ => V.ref ρ.a)) ∧ lab rA = 1) (hz : ∀ ρ, ρ ∈ zs → RxAt H ρ ∧ lab ρ.a = 1 ∧ lab ρ.c1 = 1 ∧ lab ρ.c2 = 3 * i + 5) (hn : (zs.map Rx.c2).Nodup) :
    LwH (upd H ro (.lst ((rAs.set i rA).map V.ref))) lab t sr fi sk ph wk sl al ro sts fis (rAs.set i rA) sks phs wks slv qs first (upN ρs i zs) := by
  have hl := L.hro.2
  have k := kl_set (H := H) (o := .lst ((rAs.set i rA).map V.ref)) hl
  have k1 : ∀ {b : Addr} {u : HO}, H b = some u ∧ lab b = 1 → upd H ro (.lst ((rAs.set i rA).map V.ref)) b = some u ∧ lab b = 1 := fun {b u} h => ⟨k b u h.1 (by rw [h.2]; decide), h.2⟩
  have k2 : ∀ {b : Addr} {u : HO}, H b = some u ∧ lab b = 2 → b ≠ ro → upd H ro (.lst ((rAs.set i rA).map V.ref)) b = some u ∧ lab b = 2 := fun {b u} h n => ⟨by rw [upd_ne n]; exact h.1, h.2⟩
  have tp : ∀ b xs, H b = some (.tup xs) → upd H ro (.lst ((rAs.set i rA).map V.ref)) b = some (.tup xs) := fun b xs e => by rw [upd_ne (ne_of e L.hro.1 (by intro z; cases z))]; exact e
  have nd := L.nd
  simp only [List.nodup_cons, List.mem_cons, List.not_mem_nil, or_false, not_or] at nd
  obtain ⟨⟨n1, n2, n3, n4⟩, ⟨n5, n6, n7⟩, ⟨n8, n9⟩, n10, _⟩ := nd
  have row : ∀ {ρ : Rx} {j : Nat}, RxAt H ρ ∧ lab ρ.a = 1 ∧ lab ρ.c1 = 1 ∧ lab ρ.c2 = 3 * j + 5 → RxAt (upd H ro (.lst ((rAs.set i rA).map V.ref))) ρ ∧ lab ρ.a = 1 ∧ lab ρ.c1 = 1 ∧ lab ρ.c2 = 3 * j + 5 := fun {ρ j} ⟨R, l1, l2, l3⟩ =>
    ⟨⟨(k1 ⟨R.ob, l1⟩).1, (k1 ⟨R.l1, l2⟩).1, k _ _ R.l2 (by rw [l3]; omega), R.k1.on tp, R.k2.on tp⟩, l1, l2, l3⟩
  refine ⟨k1 L.hsr, k1 L.hfi, k2 L.hsk n4, k2 L.hph n7, k2 L.hwk n9, k2 L.hsl n10, k1 L.hal, ⟨upd_same, hl⟩, L.nd, L.cl.on tp, fun a ha => k1 (L.tf a ha), fun j hj => let ⟨a, h1, h2⟩ := L.fa j hj; ⟨a, h1, k1 h2⟩, fun j hj => ?_⟩
  by_cases cj : j = i
  · subst cj
    rw [upN_same]
    exact ⟨rA, List.getElem?_set_self hi, (k1 hA).1, hA.2, fun ρ hρ => row (hz ρ hρ), hn⟩
  · obtain ⟨a, h1, h2, h3, h4, h5⟩ := L.rw j hj
    rw [upN_ne cj]
    exact ⟨a, (List.getElem?_set_ne fun z => cj z.symm).trans h1, (k1 ⟨h2, h3⟩).1, h3, fun ρ hρ => row (h4 ρ hρ), h5⟩
end Dk

set_option maxHeartbeats 4000000
/-! the law k09: a pick of a thread that enters or leaves, its end: the call is noted -/
namespace Dk
open PySem PySem.Spec PyProof.Rows L2 StX
theorem eq_nilC (cs : List Call) : PyData.eqv (.list (cs.map cD)) (.list []) = decide (cs = []) := by
  cases cs with
  | nil => rfl
  | cons a b => rfl
theorem ixNn {n j : Nat} (hj : j < n) : ixN n (j : Int) = some j := by
  unfold ixN
  rw [if_pos (by omega), if_pos (by omega)]
  rfl
/-- the law's list of calls is another -/
theorem LwH.setAl {H : Hp} {lab : Addr → Nat} {t : Nat} {sts fis rAs : List Addr} {sr fi sk ph wk sl al al' ro : Addr} {sks : List V} {phs : List Str} {wks : List Int} {slv : List V} {qs qs' : QL} {first : Nat → List Int} {ρs : Nat → List Rx} (L : LwH H lab t sr fi sk ph wk sl al ro sts fis rAs sks phs wks slv qs first ρs) (h : H al' = some (.lst (refs qs')) ∧ lab al' = 1) (hc : CL H qs') : LwH H lab t sr fi sk ph wk sl al' ro sts fis rAs sks phs wks slv qs' first ρs :=
  ⟨L.hsr, L.hfi, L.hsk, L.hph, L.hwk, L.hsl, h, L.hro, L.nd, hc, L.tf, L.fa, L.rw⟩
theorem Ms.gr {c : Cv} {H H' : Hp} {lab lab' : Addr → Nat} {t : Nat} {sks : List V} {sts : List Addr} {phx : Nat → Ph} (h : Ms c H lab t sks sts phx) (g : Gr lab H lab' H') : Ms c H' lab' t sks sts phx := fun j x hj hx => let ⟨k, s, a, b, d⟩ := h j x hj hx; ⟨k, s, a, b, d.gr g⟩
def rqH : Rq → Str
  | .read _ => "read"
  | .write _ _ => "write"
  | .swap _ _ _ => "swap"
  | .decide _ _ => "decide"
  | .flush _ => "flush"
  | .fence => "fence"
theorem rqH_at (rq : Rq) : rq.vs[0]? = some (.str (rqH rq)) := by cases rq <;> rfl
theorem rqH_rd (rq : Rq) : rqH rq = ("read" : Str) ↔ ∃ n, rq = .read n := by
  cases rq with
  | read n => exact ⟨fun _ => ⟨n, rfl⟩, fun _ => rfl⟩
  | write i v => exact ⟨fun h => absurd (show ("write" : Str) = "read" from h) (by decide), fun ⟨n, h⟩ => by cases h⟩
  | swap i o n => exact ⟨fun h => absurd (show ("swap" : Str) = "read" from h) (by decide), fun ⟨n, h⟩ => by cases h⟩
  | decide i n => exact ⟨fun h => absurd (show ("decide" : Str) = "read" from h) (by decide), fun ⟨n, h⟩ => by cases h⟩
  | flush i => exact ⟨fun h => absurd (show ("flush" : Str) = "read" from h) (by decide), fun ⟨n, h⟩ => by cases h⟩
  | fence => exact ⟨fun h => absurd (show ("fence" : Str) = "read" from h) (by decide), fun ⟨n, h⟩ => by cases h⟩
section
variable {P : Program} {w : World} {K : PySem.W.Frag} {mg : Str → Option Value} {base : Heap} {C M : Addr} {c : Cv}
theorem law_g5 {f : Addr} {cdv : Value} {A0 : Around} {outer : List Env} {s : Shared} {Hs : Hp} {E : XK} (hr : Room 20 (A0.deeper (envOfC "law" (defScope sLaw) s.heap.objs.size f cdv))) (B0 : Bn mg) (TM : MTxt K M)
    (GPk : MO P w K mg base CX0 M 8 "peek" ["self", "cell"] (spPeek C M)) (GLg : MO P w K mg base CX0 M 1 "log" ["self"] (spLog C M)) :
    ∃ t1, PSs (cxOf CX0 P w K mg base NLaw "law" (defScope sLaw) f cdv A0 outer s Hs E).nox ((elseBody sPick).drop 5) t1 ∧
      ∀ (De : Ends) (a tp : Addr) (t : Nat) (m sr fi sk ph wk sl al ro : Addr) (serN i : Nat) (v13 v14 v16 v17 : Option V) (sv : V) (v19 v20 v21 v22 v23 v24 v25 : Option V) (H : Hp) (lab : Addr → Nat) (la : Addr) (r B : Nat) (A : Adr) (X : MS) (e : Int) (ps : List V) (sts fis rAs : List Addr) (sks : List V) (phs : List Str) (wks : List Int) (slv : List V) (qs : QL) (fr out : Nat → List Int) (rows : Nat → Rp) (first : Nat → List Int) (ρs : Nat → List Rx) (phx : Nat → Ph) (p : Str),
        NOk t 3 r → LF c C M H lab m la t r B A X e ps sts fr out rows first → LwH H lab t sr fi sk ph wk sl al ro sts fis rAs sks phs wks slv qs first ρs → Ms c H lab t sks sts phx → i < t → phs[i]? = some p → slv.length = t → qs.length < 1000 →
        (p ≠ ("entering" : Str) → De.nx (lw a tp t m sr fi sk ph wk sl al serN ro v13 v14 (some (.int (i : Int))) v16 v17 (some sv) v19 v20 v21 v22 v23 v24 v25) H) →
        (p = ("entering" : Str) → ∃ lg x n rq pv, X.log = lg ++ [x] ∧ LogIs H x n i rq ∧ ps[i]? = some pv ∧ (pv = .non ∨ ∃ z : Int, pv = .int z) ∧ (∀ y, y ∈ cs_ qs → y.1 ≠ i) ∧ (sv = .non ∨ ∃ z : Int, sv = .int z) ∧
          (¬ ((∃ n, rq = .read n) ∧ pv ≠ .non ∧ sv = .int e) → ∀ v20 H' lab', Gr lab H lab' H' → De.nx (lw a tp t m sr fi sk ph wk sl al serN ro v13 v14 (some (.int (i : Int))) v16 v17 (some sv) v19 v20 v21 v22 v23 v24 v25) H') ∧
          (((∃ n, rq = .read n) ∧ pv ≠ .non ∧ sv = .int e) → ∀ v20 H' lab' al' q, LF c C M H' lab' m la t r B A X e ps sts fr out rows first → LwH H' lab' t sr fi sk ph wk sl al' ro sts fis rAs sks phs wks (slv.set i (.int e)) (qs ++ [(q, (i, serN + 1))]) first ρs → Ms c H' lab' t sks sts phx → De.nx (lw a tp t m sr fi sk ph wk sl al' ((serN + 1 : Nat) : Int) ro v13 v14 (some (.int (i : Int))) v16 v17 (some sv) v19 v20 v21 v22 v23 v24 v25) H')) →
        t1 De (lw a tp t m sr fi sk ph wk sl al serN ro v13 v14 (some (.int (i : Int))) v16 v17 (some sv) v19 v20 v21 v22 v23 v24 v25) H := by
  have nd := scLaw.nd
  have hr1 : Room 1 _ := hr.mono (by decide)
  have hr8 : Room 8 _ := hr.mono (by decide)
  refine ⟨_, (pss_one (ps_if (PW.pt (pw_and (pt_cmpR op_eq (pe_ix ix_list (pv 7) (pv 15) (fun _ _ => rfl)) pe_str (nomark _)) (pw_and (pt_cmpR op_eq (pe_ix ix_tup (pe_ix ix_tup (pe_ix ix_list (pm0_ GLg TM.cl hr1 (pv 3)) (pe_un un_neg pe_int) (fun _ _ => rfl)) pe_int (fun _ _ => rfl)) pe_int (fun _ _ => rfl)) pe_str (nomark _)) (pw_and1 (pt_cmpR op_notN (pm_ GPk TM.cl hr8 (pv 3) (pa_cons (pe_op op_add pe_int (pv 15)) pa_nil)) pe_non (nomark _))))))
  (pss_cons (ps_set (i := 20) nd rfl (Or.inl rfl) (pm_ GPk TM.cl hr8 (pv 3) (pa_cons pe_int pa_nil)))
  (pss_one (ps_if (PW.pt (pw_and (pt_cmpR op_eq (pv 18) (pv 20) (nomark _)) (pw_and1 (pt_cmpR (op_eqD hr.units) (pe_lc (own := [("call", 25)]) (g := (gName 25)) (tt := tTest (tOp rEq (tOp (rIxT K) (tVar 25) (tC (.int 0))) (tVar 15))) rfl nd (pi_list (pv 10)) (blkOk_by (N := ["script", "tape", "threads", "memory", "stores", "first", "stacks", "phases", "work", "slots", "active", "serial", "rows", "k", "number", "thread", "store", "taken", "slot", "moved", "request", "other", "others", "row", "cell", "call"]) (sc := defScope sLaw) (by decide +kernel)) (fun _ _ _ _ _ => (pg_name (i := 25) nd rfl (Or.inl rfl))) (fun _ _ _ _ _ => pts_one (pt_cmpR op_eq (pe_ix ix_tup (pv 25) pe_int (fun _ _ => rfl)) (pv 15) (nomark _))) (fun _ _ _ _ _ => (pv 25))) (pe_lst pa_nil) (nomark _)))))
  (pss_cons (ps_set (i := 11) nd rfl (Or.inl rfl) (pe_op op_add (pv 11) pe_int))
  (pss_cons (ps_asg (pv 20) (pg_sub (pv 9) (pv 15) set_list))
  (pss_one (ps_set (i := 10) nd rfl (Or.inr rfl) (pe_op op_cat (pv 10) (pe_lst (pa_cons (pe_tup (pa_cons (pv 15) (pa_cons (pv 11) pa_nil))) pa_nil)))))))
  pss_nil)))
  pss_nil)), ?_⟩
  intro De a tp t m sr fi sk ph wk sl al ro serN i v13 v14 v16 v17 sv v19 v20 v21 v22 v23 v24 v25 H lab la r B A X e ps sts fis rAs sks phs wks slv qs fr out rows first ρs phx p nok L W ms hi hp zs zq kA kB
  have hsl : sizeLine = 16777216 := sizeLine_eq
  obtain ⟨dm, hm⟩ := L.wd.D.ob
  have hpv : (phs.map V.str)[i]? = some (.str p) := by rw [List.getElem?_map, hp]; rfl
  refine ⟨_, rfl, _, rfl, ph, _, (i : Int), .str p, rfl, rfl, SqL.of W.hph.1, atI_nat hpv, rfl, _, rfl, ?_⟩
  by_cases cp : p = ("entering" : Str)
  · obtain ⟨lg, x, n, rq, pv, hlg, LI, hpi, hpt, hna, hsv, kN, kY⟩ := kB cp
    refine iteC1 (by rw [cp]; simp) ?_
    obtain ⟨u, q, rfl, hu, hq⟩ := LI
    refine ⟨_, rfl, m, dm, _, rfl, hm, rfl, m, t, 3, r, A, X, rfl, L.wd.D, fun D hD => ?_⟩
    have sD := up1 (o := HO.lst X.log) hD
    have eD : upd H D (HO.lst X.log) D = some (.lst (lg ++ [V.ref u])) := by rw [upd_same, hlg]
    generalize upd H D (HO.lst X.log) = H1 at sD eD ⊢
    have g1 : Gr lab H (relG lab H fun _ => 1) H1 := Gr.of sD
    generalize relG lab H (fun _ => 1) = lab1 at g1
    have L1 := L.gr g1 (Nat.le_refl _)
    have W1 := W.gr g1
    have ms1 := ms.gr g1
    obtain ⟨dm1, hm1⟩ := L1.wd.D.ob
    have hpk : X.ps[1 + i]? = some pv := by rw [L.ps, show 1 + i = i + 1 by omega]; exact hpi
    refine ⟨_, rfl, D, _, -1, .ref u, rfl, rfl, SqL.of eD, atI_getLast List.getLast?_concat, u, _, 2, .ref q, rfl, rfl, SqT.of (sD _ _ hu), atI_nat (j := 2) rfl, q, _, 0, .str (rqH rq), rfl, rfl, SqT.of (sD _ _ hq), atI_nat (j := 0) (rqH_at rq), rfl, _, rfl, ?_⟩
    by_cases ch : rqH rq = ("read" : Str)
    · refine iteC1 (by rw [ch]; simp) ?_
      refine ⟨_, rfl, m, dm1, _, rfl, hm1, rfl, _, rfl, _, _, rfl, rfl, m, t, 3, r, 1 + i, A, X, pv, by simp, L1.wd.D, by omega, ps_cell hpk (by omega), rfl, _, rfl, ?_⟩
      by_cases cpv : pv = .non
      · rw [decide_eq_true cpv]
        exact iteF (kN (fun z => z.2.1 cpv) v20 H1 lab1 g1)
      rw [decide_eq_false cpv]
      have h0 : X.ps[0]? = some (.int e) := by rw [L.ps]; rfl
      refine iteT ⟨_, rfl, m, dm1, _, rfl, hm1, rfl, m, t, 3, r, 0, A, X, .int e, rfl, L1.wd.D, by omega, ps_cell h0 (by omega), ?_⟩
      rcases hsv with rfl | ⟨z, rfl⟩
      · refine ⟨_, rfl, _, rfl, rfl, _, rfl, iteC (by simp) ?_⟩
        exact kN (fun z => by cases z.2.2) _ H1 lab1 g1
      by_cases ce : z = e
      · subst ce
        refine ⟨_, rfl, _, rfl, rfl, _, rfl, iteC1 (by simp) ?_⟩
        refine ⟨_, rfl, al, rfl, ⟨_, SqL.of W1.hal.1⟩, fun D2 hD2 => lc_list (K := K) (a := al) (xs := refs qs) (fun n H2 => H2 D2 = some (.lst []) ∧ Same H1 H2) ⟨upd_same, up1 hD2⟩ (fun n H2 _ q => SqL.of (q.2 _ _ W1.hal.1)) ?_ ?_⟩
        · rintro n x H2 hn ⟨hD2, s2⟩
          rw [List.getElem?_map] at hn
          obtain ⟨y, hy, rfl⟩ := Option.map_eq_some_iff.mp hn
          have hym := List.mem_of_getElem? hy
          have hp2 := s2 _ _ (W1.cl y hym)
          have hne := hna y.2 (List.mem_map.mpr ⟨y, hym, rfl⟩)
          refine ⟨rfl, ?_⟩
          refine ⟨_, rfl, y.1, _, 0, .int (y.2.1 : Int), rfl, rfl, SqT.of hp2, at_head, _, rfl, rfl, _, rfl, iteC (by simp; omega) ⟨hD2, s2⟩⟩
        rintro H2 ⟨hD2, s2⟩
        dsimp only [tLst, tNil]
        refine ⟨Nat.zero_le _, fun q2 hq2 => ?_⟩
        have s3 := s2.trans (up1 (o := HO.lst []) hq2)
        have q3 : upd H2 q2 (HO.lst []) q2 = some (.lst []) := upd_same
        have hD3 := up1 (o := HO.lst []) hq2 _ _ hD2
        generalize upd H2 q2 (HO.lst []) = H3 at s3 q3 hD3 ⊢
        refine ⟨.list [], .list [], .lst (SqL.of hD3) .nil, .lst (SqL.of q3) .nil, (by decide +kernel), (by decide +kernel), _, rfl, iteC1 (by decide +kernel) ?_⟩
        have g3 : Gr lab1 H1 (relG lab1 H1 fun _ => 1) H3 := Gr.of s3
        generalize relG lab1 H1 (fun _ => 1) = lab3 at g3
        have L3 := L1.gr g3 (Nat.le_refl _)
        have W3 := W1.gr g3
        have ms3 := ms1.gr g3
        refine ⟨_, rfl, _, _, rfl, rfl, ?_⟩
        refine ⟨_, rfl, _, rfl, _, rfl, sl, slv, (i : Int), i, rfl, rfl, W3.hsl.1, ixNn (by omega), ?_⟩
        have L4 := L3.set (o := HO.lst (slv.set i (.int z))) W3.hsl.2
        have W4 := W3.setSl (slv.set i (.int z))
        have ms4 := ms3.set (o := HO.lst (slv.set i (.int z))) W3.hsl.2 W3.hsl.1
        generalize upd H3 sl (HO.lst (slv.set i (.int z))) = H4 at L4 W4 ms4 ⊢
        refine ⟨_, rfl, _, rfl, _, rfl, (by show 2 ≤ sizeLine; omega), fun q5 hq5 => ⟨(by show 1 ≤ sizeLine; omega), fun q6 hq6 => ?_⟩⟩
        have s5 : Same H4 (upd H4 q5 (HO.tup [V.int (i : Int), V.int ((serN : Int) + 1)])) := up1 hq5
        have e5 : upd H4 q5 (HO.tup [V.int (i : Int), V.int ((serN : Int) + 1)]) q5 = some (.tup [V.int (i : Int), V.int ((serN : Int) + 1)]) := upd_same
        show rCat (V.ref al) (V.ref q6) (upd (upd H4 q5 (HO.tup [V.int (i : Int), V.int ((serN : Int) + 1)])) q6 (HO.lst [V.ref q5])) _
        have hq6' : upd H4 q5 (HO.tup [V.int (i : Int), V.int ((serN : Int) + 1)]) q6 = none := hq6
        clear hq6
        generalize upd H4 q5 (HO.tup [V.int (i : Int), V.int ((serN : Int) + 1)]) = H5 at s5 e5 hq6' ⊢
        have s6 := s5.trans (up1 (o := HO.lst [V.ref q5]) hq6')
        have e6 : upd H5 q6 (HO.lst [V.ref q5]) q6 = some (.lst [V.ref q5]) := upd_same
        have e56 := up1 (o := HO.lst [V.ref q5]) hq6' _ _ e5
        generalize upd H5 q6 (HO.lst [V.ref q5]) = H6 at s6 e6 e56 ⊢
        refine ⟨al, q6, _, _, rfl, rfl, s6 _ _ W4.hal.1, e6, (by rw [List.length_map]; show qs.length + 1 ≤ sizeLine; omega), fun q7 hq7 => ?_⟩
        have s7 := s6.trans (up1 (o := HO.lst (refs qs ++ [V.ref q5])) hq7)
        have e7 : upd H6 q7 (HO.lst (refs qs ++ [V.ref q5])) q7 = some (.lst (refs qs ++ [V.ref q5])) := upd_same
        have e57 := up1 (o := HO.lst (refs qs ++ [V.ref q5])) hq7 _ _ e56
        have hq7' := s6.free hq7
        generalize upd H6 q7 (HO.lst (refs qs ++ [V.ref q5])) = H7 at s7 e7 e57 ⊢
        have g7 : Gr lab3 H4 (relG lab3 H4 fun _ => 1) H7 := Gr.of s7
        have l7 : relG lab3 H4 (fun _ => 1) q7 = 1 := relG_new hq7'
        generalize relG lab3 H4 (fun _ => 1) = lab7 at g7 l7
        have W7 := W4.gr g7
        refine kY ⟨(rqH_rd rq).mp ch, cpv, rfl⟩ _ H7 lab7 q7 q5 (L4.gr g7 (Nat.le_refl _)) (W7.setAl ⟨?_, l7⟩ (W7.cl.app ?_)) (ms4.gr g7)
        · rw [refs_app]; exact e7
        · intro x hx
          rw [List.mem_singleton.mp hx]
          exact e57
      · refine ⟨_, rfl, _, rfl, rfl, _, rfl, iteC (by simp; intro q; exact ce (by simpa using q)) ?_⟩
        exact kN (fun q => ce (by have := q.2.2; cases this; rfl)) _ H1 lab1 g1
    · exact iteC (by simp; intro z; exact ch (by simpa using z)) (kN (fun z => ch ((rqH_rd rq).mpr z.1)) v20 H1 lab1 g1)
  · exact iteC (by simp; intro z; exact cp (by simpa using z)) (kA cp)
end
end Dk

set_option maxHeartbeats 4000000
/-! the law k09: a pick of a thread that enters or leaves, behind its step -/
namespace Dk
open PySem PySem.Spec PyProof.Rows L2 StX
section
variable {P : Program} {w : World} {K : PySem.W.Frag} {mg : Str → Option Value} {base : Heap} {C M : Addr} {c : Cv}
theorem law_g3 {f : Addr} {cdv : Value} {A0 : Around} {outer : List Env} {s : Shared} {Hs : Hp} {E : XK} (hr : Room 20 (A0.deeper (envOfC "law" (defScope sLaw) s.heap.objs.size f cdv))) (B0 : Bn mg) (TM : MTxt K M)
    (GPk : MO P w K mg base CX0 M 8 "peek" ["self", "cell"] (spPeek C M)) (GLg : MO P w K mg base CX0 M 1 "log" ["self"] (spLog C M)) :
    ∃ t1, PSs (cxOf CX0 P w K mg base NLaw "law" (defScope sLaw) f cdv A0 outer s Hs E).nox ((elseBody sPick).drop 3) t1 ∧
      ∀ (De : Ends) (a tp : Addr) (t : Nat) (m sr fi sk ph wk sl al ro : Addr) (serN i : Nat) (v13 : Option V) (nm : Int) (v16 v17 : Option V) (sv : V) (mv : Bool) (v20 v21 v22 v23 v24 v25 : Option V) (H : Hp) (lab : Addr → Nat) (la : Addr) (r B : Nat) (A : Adr) (X : MS) (e : Int) (ps : List V) (sts fis rAs : List Addr) (sks : List V) (phs : List Str) (wks : List Int) (slv : List V) (qs : QL) (fr out : Nat → List Int) (rows : Nat → Rp) (first : Nat → List Int) (ρs : Nat → List Rx) (phx : Nat → Ph) (p : Str) (pv : V),
        NOk t 3 r → LF c C M H lab m la t r B A X e ps sts fr out rows first → LwH H lab t sr fi sk ph wk sl al ro sts fis rAs sks phs wks slv qs first ρs → Ms c H lab t sks sts phx → i < t → phs[i]? = some p → phs.length = t → wks.length = t → slv.length = t → qs.length < 1000 → ps[i]? = some pv → (pv = .non ∨ ∃ z : Int, pv = .int z) → (sv = .non ∨ ∃ z : Int, sv = .int z) →
        ((p = ("entering" : Str) ∧ mv = true ∧ ∃ lg x n rq, X.log = lg ++ [x] ∧ LogIs H x n i rq ∧ (∀ y, y ∈ cs_ qs → y.1 ≠ i) ∧
          (¬ ((∃ n, rq = .read n) ∧ pv ≠ .non ∧ sv = .int e) → ∀ v20 H' lab', Gr lab H lab' H' → De.nx (lw a tp t m sr fi sk ph wk sl al serN ro v13 (some (.int nm)) (some (.int (i : Int))) v16 v17 (some sv) (some (.bl mv)) v20 v21 v22 v23 v24 v25) H') ∧
          (((∃ n, rq = .read n) ∧ pv ≠ .non ∧ sv = .int e) → ∀ v20 H' lab' al' q, LF c C M H' lab' m la t r B A X e ps sts fr out rows first → LwH H' lab' t sr fi sk ph wk sl al' ro sts fis rAs sks phs wks (slv.set i (.int e)) (qs ++ [(q, (i, serN + 1))]) first ρs → Ms c H' lab' t sks sts phx → De.nx (lw a tp t m sr fi sk ph wk sl al' ((serN + 1 : Nat) : Int) ro v13 (some (.int nm)) (some (.int (i : Int))) v16 v17 (some sv) (some (.bl mv)) v20 v21 v22 v23 v24 v25) H')) ∨
         (p = ("entering" : Str) ∧ mv = false ∧ ∀ z H', LF c C M H' lab m la t r B A X e ps sts fr out rows first → LwH H' lab t sr fi sk ph wk sl al ro sts fis rAs sks (phs.set i "in") (wks.set i z) slv qs first ρs → Ms c H' lab t sks sts phx → De.nx (lw a tp t m sr fi sk ph wk sl al serN ro v13 (some (.int nm)) (some (.int (i : Int))) v16 v17 (some sv) (some (.bl mv)) v20 v21 v22 v23 v24 v25) H') ∨
         (p = ("leaving" : Str) ∧ mv = true ∧ ∀ H' lab' al' qs', ((sv ≠ .non ∧ pv = .non ∧ cs_ qs' = (cs_ qs).filter (fun c => decide (c.1 ≠ i)) ∧ qs'.length ≤ qs.length) ∨ (¬ (sv ≠ .non ∧ pv = .non) ∧ qs' = qs)) → LF c C M H' lab' m la t r B A X e ps sts fr out rows first → LwH H' lab' t sr fi sk ph wk sl al' ro sts fis rAs sks phs wks slv qs' first ρs → Ms c H' lab' t sks sts phx → De.nx (lw a tp t m sr fi sk ph wk sl al' serN ro v13 (some (.int nm)) (some (.int (i : Int))) v16 v17 (some sv) (some (.bl mv)) v20 v21 v22 v23 v24 v25) H') ∨
         (p = ("leaving" : Str) ∧ mv = false ∧ sv = .non ∧ ∀ H', LF c C M H' lab m la t r B A X e ps sts fr out rows first → LwH H' lab t sr fi sk ph wk sl al ro sts fis rAs sks (phs.set i "out") wks slv qs first ρs → Ms c H' lab t sks sts phx → De.nx (lw a tp t m sr fi sk ph wk sl al serN ro v13 (some (.int nm)) (some (.int (i : Int))) v16 v17 (some sv) (some (.bl mv)) v20 v21 v22 v23 v24 v25) H')) →
        t1 De (lw a tp t m sr fi sk ph wk sl al serN ro v13 (some (.int nm)) (some (.int (i : Int))) v16 v17 (some sv) (some (.bl mv)) v20 v21 v22 v23 v24 v25) H := by
  have nd := scLaw.nd
  have hr1 : Room 1 _ := hr.mono (by decide)
  have hr8 : Room 8 _ := hr.mono (by decide)
  obtain ⟨t5, h5, k5⟩ := law_g5 (f := f) (cdv := cdv) (outer := outer) (s := s) (Hs := Hs) (E := E) hr B0 TM GPk GLg (c := c)
  refine ⟨_, (pss_cons (ps_if (PW.pt (pw_and (pt_cmpR op_eq (pe_ix ix_list (pv 7) (pv 15) (fun _ _ => rfl)) pe_str (nomark _)) (pw_and (pt_cmpR op_notN (pv 18) pe_non (nomark _)) (pw_and1 (pt_cmpR op_isN (pm_ GPk TM.cl hr8 (pv 3) (pa_cons (pe_op op_add pe_int (pv 15)) pa_nil)) pe_non (nomark _))))))
  (pss_one (ps_set (i := 10) nd rfl (Or.inr rfl) (pe_lc (own := [("call", 25)]) (g := (gName 25)) (tt := tTest (tOp rNe (tOp (rIxT K) (tVar 25) (tC (.int 0))) (tVar 15))) rfl nd (pi_list (pv 10)) (blkOk_by (N := ["script", "tape", "threads", "memory", "stores", "first", "stacks", "phases", "work", "slots", "active", "serial", "rows", "k", "number", "thread", "store", "taken", "slot", "moved", "request", "other", "others", "row", "cell", "call"]) (sc := defScope sLaw) (by decide +kernel)) (fun _ _ _ _ _ => (pg_name (i := 25) nd rfl (Or.inl rfl))) (fun _ _ _ _ _ => pts_one (pt_cmpR op_ne (pe_ix ix_tup (pv 25) pe_int (fun _ _ => rfl)) (pv 15) (nomark _))) (fun _ _ _ _ _ => (pv 25)))))
  pss_nil)
  (pss_cons (ps_if (PW.pt (pw_and (pt_not (pt_truth (pv 19) (by intro _; rfl))) (pw_and1 (pt_cmpR op_eq (pe_ix ix_list (pv 7) (pv 15) (fun _ _ => rfl)) pe_str (nomark _)))))
  (pss_cons (ps_asg pe_str (pg_sub (pv 7) (pv 15) set_list))
  (pss_one (ps_asg (pe_op op_add pe_int (pe_op op_mod (pe_op op_fdiv (pv 14) pe_int) pe_int)) (pg_sub (pv 8) (pv 15) set_list))))
  (pss_one (ps_if (pt_not (pt_truth (pv 19) (by intro _; rfl)))
  (pss_one (ps_asg pe_str (pg_sub (pv 7) (pv 15) set_list)))
  pss_nil)))
  h5)), ?_⟩
  intro De a tp t m sr fi sk ph wk sl al ro serN i v13 nm v16 v17 sv mv v20 v21 v22 v23 v24 v25 H lab la r B A X e ps sts fis rAs sks phs wks slv qs fr out rows first ρs phx p pv nok L W ms hi hp zp zw zs zq hpi hpt hsv hc
  obtain ⟨dm, hm⟩ := L.wd.D.ob
  have hpv : (phs.map V.str)[i]? = some (.str p) := by rw [List.getElem?_map, hp]; rfl
  have hpk : X.ps[1 + i]? = some pv := by rw [L.ps, show 1 + i = i + 1 by omega]; exact hpi
  refine ⟨_, rfl, _, rfl, ph, _, (i : Int), .str p, rfl, rfl, SqL.of W.hph.1, atI_nat hpv, rfl, _, rfl, ?_⟩
  rcases hc with ⟨rfl, rfl, lg, x, n, rq, hlg, LI, hna, kN, kY⟩ | ⟨rfl, rfl, kF⟩ | ⟨rfl, rfl, kL⟩ | ⟨rfl, rfl, hs0, kO⟩
  · refine iteC (by decide +kernel) (iteF ⟨_, rfl, _, rfl, iteC (by decide) ⟨_, rfl, _, rfl, iteC (by decide) ?_⟩⟩)
    refine k5 _ _ _ _ _ _ _ _ _ _ _ _ _ _ _ _ _ _ _ _ _ _ _ _ _ _ _ _ _ _ _ _ _ _ _ _ _ _ _ _ _ _ _ _ _ _ _ _ _ phx _ nok L W ms hi hp zs zq (fun z => absurd rfl z) fun _ => ⟨lg, x, n, rq, pv, hlg, LI, hpi, hpt, hna, hsv, kN, kY⟩
  · refine iteC (by decide +kernel) (iteF ⟨_, rfl, _, rfl, iteC1 (by decide) ⟨_, rfl, _, rfl, ph, _, (i : Int), .str "entering", rfl, rfl, SqL.of W.hph.1, atI_nat hpv, rfl, _, rfl, iteC1 (by decide +kernel) ?_⟩⟩)
    refine ⟨_, rfl, _, rfl, ph, _, (i : Int), i, rfl, rfl, W.hph.1, ixNn (by rw [List.length_map]; omega), ?_⟩
    have L1 := L.set (o := HO.lst ((phs.set i "in").map V.str)) W.hph.2
    have W1 := W.setPh (phs.set i "in")
    have ms1 := ms.set (o := HO.lst ((phs.set i "in").map V.str)) W.hph.2 W.hph.1
    rw [show (phs.map V.str).set i (.str "in") = (phs.set i "in").map V.str from (List.map_set).symm]
    generalize upd H ph (HO.lst ((phs.set i "in").map V.str)) = H1 at L1 W1 ms1 ⊢
    refine ⟨_, rfl, _, _, rfl, rfl, ⟨by decide, by decide⟩, _, _, rfl, rfl, (by show (0 : Int) < 6; decide), _, _, rfl, rfl, ?_⟩
    refine ⟨_, rfl, _, rfl, wk, _, (i : Int), i, rfl, rfl, W1.hwk.1, ixNn (by rw [List.length_map]; omega), ?_⟩
    show t5 De (lw a tp t m sr fi sk ph wk sl al (↑serN) ro v13 (some (V.int nm)) (some (V.int ↑i)) v16 v17 (some sv) (some (V.bl false)) v20 v21 v22 v23 v24 v25) (upd H1 wk (.lst ((wks.map V.int).set i (V.int (1 + nm / 4 % 6)))))
    have L2' := L1.set (o := HO.lst ((wks.set i (1 + nm / 4 % 6)).map V.int)) W1.hwk.2
    have W2 := W1.setWk (wks.set i (1 + nm / 4 % 6))
    have ms2 := ms1.set (o := HO.lst ((wks.set i (1 + nm / 4 % 6)).map V.int)) W1.hwk.2 W1.hwk.1
    rw [show (wks.map V.int).set i (.int (1 + nm / 4 % 6)) = (wks.set i (1 + nm / 4 % 6)).map V.int from (List.map_set).symm]
    generalize upd H1 wk (HO.lst ((wks.set i (1 + nm / 4 % 6)).map V.int)) = H2 at L2' W2 ms2 ⊢
    refine k5 _ _ _ _ _ _ _ _ _ _ _ _ _ _ _ _ _ _ _ _ _ _ _ _ _ _ _ _ _ _ _ _ _ _ _ _ _ _ _ _ _ _ _ _ _ _ _ _ _ phx _ nok L2' W2 ms2 hi (List.getElem?_set_self (by omega)) zs zq (fun _ => kF _ H2 L2' W2 ms2) fun z => absurd z (by decide)
  · refine iteC1 (by decide +kernel) ?_
    have fin : ∀ H' lab' al' qs', ((sv ≠ .non ∧ pv = .non ∧ cs_ qs' = (cs_ qs).filter (fun c => decide (c.1 ≠ i)) ∧ qs'.length ≤ qs.length) ∨ (¬ (sv ≠ .non ∧ pv = .non) ∧ qs' = qs)) → LF c C M H' lab' m la t r B A X e ps sts fr out rows first → LwH H' lab' t sr fi sk ph wk sl al' ro sts fis rAs sks phs wks slv qs' first ρs → Ms c H' lab' t sks sts phx → qs'.length < 1000 → 
        tSeq (tIfS (tAnd (tNot fun σ H Q => tVar 19 σ H fun x H' => ∃ k, TruV (cxOf CX0 P w K mg base NLaw (Str.ofString "law") (defScope sLaw) f cdv A0 outer s Hs E).nox.K x H' k ∧ Q k H') (tTest (tOp rEq (tOp (rIxL (cxOf CX0 P w K mg base NLaw (Str.ofString "law") (defScope sLaw) f cdv A0 outer s Hs E).nox.K) (tVar 7) (tVar 15)) (tC (V.str (Str.ofString "entering"))))))
                  (tSeq (tAsg (tC (V.str (Str.ofString "in"))) (gSub (tVar 7) (tVar 15) rSetL))
                    (tAsg
                      (tOp (rI0 fun i j => V.int (i + j)) (tC (V.int 1))
                        (tOp (rI (fun x j => 0 < j) fun i j => V.int (i % j))
                          (tOp (rI CDiv fun i j => V.int (i / j)) (tVar 14) (tC (V.int 4))) (tC (V.int 6))))
                      (gSub (tVar 8) (tVar 15) rSetL)))
                  (tIfS (tNot fun σ H Q => tVar 19 σ H fun x H' => ∃ k, TruV (cxOf CX0 P w K mg base NLaw (Str.ofString "law") (defScope sLaw) f cdv A0 outer s Hs E).nox.K x H' k ∧ Q k H')
                    (tAsg (tC (V.str (Str.ofString "out"))) (gSub (tVar 7) (tVar 15) rSetL)) tNext)) t5 De (lw a tp t m sr fi sk ph wk sl al' (↑serN) ro v13 (some (V.int nm)) (some (V.int ↑i)) v16 v17 (some sv) (some (V.bl true)) v20 v21 v22 v23 v24 v25) H' := fun H' lab' al' qs' hq L' W' ms' zq' => by
      refine ⟨_, rfl, _, rfl, iteC (by decide) ⟨_, rfl, _, rfl, iteC (by decide) ?_⟩⟩
      refine k5 _ _ _ _ _ _ _ _ _ _ _ _ _ _ _ _ _ _ _ _ _ _ _ _ _ _ _ _ _ _ _ _ _ _ _ _ _ _ _ _ _ _ _ _ _ _ _ _ _ phx _ nok L' W' ms' hi hp zs zq' (fun _ => kL H' lab' al' qs' hq L' W' ms') fun z => absurd z (by decide)
    rcases hsv with rfl | ⟨z, rfl⟩
    · exact ⟨_, rfl, rfl, _, rfl, iteC (by simp) (iteF (fin H lab al qs (.inr ⟨fun z => z.1 rfl, rfl⟩) L W ms zq))⟩
    refine ⟨_, rfl, rfl, _, rfl, iteC1 (by simp) ?_⟩
    refine ⟨_, rfl, m, dm, _, rfl, hm, rfl, _, rfl, _, _, rfl, rfl, m, t, 3, r, 1 + i, A, X, pv, by simp, L.wd.D, by omega, ps_cell hpk (by omega), rfl, _, rfl, ?_⟩
    by_cases cpv : pv = .non
    · rw [decide_eq_true cpv]
      refine iteT ?_
      refine ⟨_, rfl, al, rfl, ⟨_, SqL.of W.hal.1⟩, fun D2 hD2 => lc_list (K := K) (a := al) (xs := refs qs) (fun n H2 => H2 D2 = some (.lst (refs ((qs.take n).filter fun x => decide (x.2.1 ≠ i)))) ∧ Same H H2) ⟨upd_same, up1 hD2⟩ (fun n H2 _ q => SqL.of (q.2 _ _ W.hal.1)) ?_ ?_⟩
      · rintro n x H2 hn ⟨hx2, s2⟩
        rw [List.getElem?_map] at hn
        obtain ⟨y, hy, rfl⟩ := Option.map_eq_some_iff.mp hn
        have hp2 := s2 _ _ (W.cl y (List.mem_of_getElem? hy))
        have hsl : sizeLine = 16777216 := sizeLine_eq
        have zn : (refs ((qs.take n).filter fun x => decide (x.2.1 ≠ i))).length < sizeLine := by
          rw [List.length_map]
          have := List.length_filter_le (fun x : Addr × Call => decide (x.2.1 ≠ i)) (qs.take n)
          rw [List.length_take] at this
          omega
        refine ⟨rfl, ?_⟩
        by_cases cy : y.2.1 = i
        · refine ⟨_, rfl, y.1, _, 0, .int (y.2.1 : Int), rfl, rfl, SqT.of hp2, at_head, _, rfl, rfl, _, rfl, iteC (by simp; omega) ⟨?_, s2⟩⟩
          rw [gfil_f hy (by simp [cy])]
          exact hx2
        · refine ⟨_, rfl, y.1, _, 0, .int (y.2.1 : Int), rfl, rfl, SqT.of hp2, at_head, _, rfl, rfl, _, rfl, iteC1 (by simp; omega) ⟨_, rfl, _, hx2, zn, ?_, fun b o e => by rw [upd_ne (ne_of_none e hD2)]; exact s2 b o e⟩⟩
          rw [upd_same, gfil_t hy (by simp [cy])]
          show _ = some (HO.lst (List.map _ (_ ++ [y])))
          rw [List.map_append]
          rfl
      rintro H2 ⟨hx2, s2⟩
      rw [List.length_map, List.take_length] at hx2
      have g2 : Gr lab H (relG lab H fun _ => 1) H2 := Gr.of s2
      have l2 : relG lab H (fun _ => 1) D2 = 1 := relG_new hD2
      generalize relG lab H (fun _ => 1) = lab2 at g2 l2
      have W2 := W.gr g2
      have zf := List.length_filter_le (fun x : Addr × Call => decide (x.2.1 ≠ i)) qs
      refine fin H2 lab2 D2 (qs.filter fun x => decide (x.2.1 ≠ i)) (.inl ⟨by simp, cpv, ?_, zf⟩) (L.gr g2 (Nat.le_refl _)) (W2.setAl ⟨hx2, l2⟩ (W2.cl.sub fun x hx => (List.mem_filter.mp hx).1)) (ms.gr g2) (by omega)
      rw [List.filter_map]
      rfl
    · rw [decide_eq_false cpv]
      exact iteF (fin H lab al qs (.inr ⟨fun z => cpv z.2, rfl⟩) L W ms zq)
  · refine iteC1 (by decide +kernel) ?_
    subst hs0
    refine ⟨_, rfl, rfl, _, rfl, iteC (by simp) (iteF ?_)⟩
    refine ⟨_, rfl, _, rfl, iteC1 (by decide) ⟨_, rfl, _, rfl, ph, _, (i : Int), .str "leaving", rfl, rfl, SqL.of W.hph.1, atI_nat hpv, rfl, _, rfl, iteC (by decide +kernel) ?_⟩⟩
    refine ⟨_, rfl, _, rfl, iteC1 (by decide) ⟨_, rfl, _, rfl, ph, _, (i : Int), i, rfl, rfl, W.hph.1, ixNn (by rw [List.length_map]; omega), ?_⟩⟩
    have L1 := L.set (o := HO.lst ((phs.set i "out").map V.str)) W.hph.2
    have W1 := W.setPh (phs.set i "out")
    have ms1 := ms.set (o := HO.lst ((phs.set i "out").map V.str)) W.hph.2 W.hph.1
    rw [show (phs.map V.str).set i (.str "out") = (phs.set i "out").map V.str from (List.map_set).symm]
    generalize upd H ph (HO.lst ((phs.set i "out").map V.str)) = H1 at L1 W1 ms1 ⊢
    refine k5 _ _ _ _ _ _ _ _ _ _ _ _ _ _ _ _ _ _ _ _ _ _ _ _ _ _ _ _ _ _ _ _ _ _ _ _ _ _ _ _ _ _ _ _ _ _ _ _ _ phx _ nok L1 W1 ms1 hi (List.getElem?_set_self (by omega)) zs zq (fun _ => kO H1 L1 W1 ms1) fun z => absurd z (by decide)
end
end Dk

set_option maxHeartbeats 4000000
/-! from between two picks to between the next -/
namespace Dk
open PySem PySem.Spec PyProof.Rows L2
theorem StgAt.ob {c : Cv} {H : Hp} {lab : Addr → Nat} {t i : Nat} {st k : Addr} {g : Stg} (G : StgAt c H lab t i st k g) : ∃ dk ml ms v, StkAt c.S H k dk ml ms v := by
  have ms : ∀ {CM dk ml a dx : Addr} {wv : V} {l : Addr} {th : V} {left : List V} {rest : List (Str × V)}, MSk c.S CM H lab i k dk ml a dx wv l th left rest → ∃ dk ml ms v, StkAt c.S H k dk ml ms v := fun s => ⟨_, _, _, _, s.sk⟩
  have lv : ∀ {gm : Addr} {rq : Rq} {nx : Bool} {ep : Int} {os : List Nat}, LvAt c H lab i st k gm rq nx ep os → ∃ dk ml ms v, StkAt c.S H k dk ml ms v := fun {gm rq nx ep os} G => by
    obtain ⟨dk, ml, a, dx, q, l, qm, sl, left, s, _⟩ := G
    exact ms s
  cases g with
  | e0 => obtain ⟨dk, ml, a, dx, q, l, qm, s, _⟩ := G; exact ms s
  | e1 ep => obtain ⟨dk, ml, a, dx, q, l, qm, q2, s, _⟩ := G; exact ms s
  | e2 ep => obtain ⟨dk, ml, a, dx, q, l, qm, s, _⟩ := G; exact ms s
  | l0 => obtain ⟨ep, G⟩ := G; exact lv G
  | l1 wt => obtain ⟨ep, G⟩ := G; exact lv G
  | l2 => obtain ⟨ep, G⟩ := G; exact lv G
  | l3 ep j' os => exact lv G
  | l4 ep => exact lv G
  | dn => obtain ⟨dk, ml, v, s⟩ := G; exact ⟨_, _, _, _, s.sk⟩
section
variable {t i : Nat} {e e' : Int} {ps ps' : List V} {g g' : Stg} {rq : Rq} {fr fr' out out' : List Int} {rows rows' : Rp}
theorem Tr1.zr (T : Tr1 t i e ps fr out rows g rq g' e' ps' fr' out' rows') : rows'.length ≤ rows.length + 1 := by
  cases T with
  | l0 => rw [List.length_append]; exact Nat.le_refl _
  | l3f pm => exact Nat.le_succ_of_le (List.length_filter_le _ _)
  | l4 pm => exact Nat.le_succ_of_le (List.length_filter_le _ _)
  | l4n ne pm => exact Nat.le_succ_of_le (List.length_filter_le _ _)
  | _ => exact Nat.le_succ _
theorem Tr1.oo (T : Tr1 t i e ps fr out rows g rq g' e' ps' fr' out' rows') (h : g ≠ .l0 → out = []) : out' = [] := by
  cases T with
  | l0 => rfl
  | _ => exact h (by intro z; cases z)
end
section
variable {c : Cv} {C M : Addr} {H H' : Hp} {lab lab' : Addr → Nat} {m la : Addr} {t r B n n2 i : Nat} {A A' : Adr} {X X' : MS} {sts fis rAs rAs' : List Addr} {sr fi sk ph wk sl al al' ro : Addr} {sks sks' : List V} {phs phs' : List Str} {wks wks' : List Int} {slv slv' : List V} {qs qs' : QL} {first : Nat → List Int} {ρs ρs' : Nat → List Rx} {e e' : Int} {ps ps' : List V} {fr out : Nat → List Int} {rows : Nat → Rp} {phx : Nat → Ph} {slots slots' : Nat → V} {ser ser' : Nat} {fr' out' : List Int} {rows' : Rp} {p : Ph}
theorem LF.up (L : LF c C M H lab m la t r B A X e ps sts fr out rows first) {B' : Nat} (h : B ≤ B') : LF c C M H lab m la t r B' A X e ps sts fr out rows first := L.gr .refl h
theorem Ms.drop (h : Ms c H lab t sks sts phx) (hp : ∀ g, ¬ (p = .en g ∨ p = .lv g)) : Ms c H lab t sks sts (upN phx i p) := fun j g hj hg => by
  by_cases cj : j = i
  · rw [cj, upN_same] at hg
    exact absurd hg (hp g)
  · rw [upN_ne cj] at hg
    exact h j g hj hg
/-- what one pick of thread i makes of it -/
theorem Ls.nxt (S : Ls c C M H lab m la t r B n n2 A X sr fi sk ph wk sl al ro sts fis rAs sks phs wks slv qs first ρs e ps fr out rows phx slots ser) (hi : i < t) {B2 : Nat} (hlf : LF c C M H' lab' m la t r B2 A' X' e' ps' sts (upN fr i fr') (upN out i out') (upN rows i rows') first)
    (hlh : LwH H' lab' t sr fi sk ph wk sl al' ro sts fis rAs' sks' phs' wks' slv' qs' first ρs') (hms : Ms c H' lab' t sks' sts (upN phx i p)) (hinv : Inv t e' ps' (upN phx i p) (cs_ qs') ser' slots') (mv : Mv i e ps (cs_ qs) ser e' ps' (cs_ qs') ser') (hp : phs'.length = t ∧ phs'[i]? = some (phS p) ∧ ∀ j, j ≠ i → phs'[j]? = phs[j]?)
    (hsv : ∀ x, x ∈ cs_ qs' → slv'[x.1]? = some (slots' x.1)) (hρ : ∀ j, j ≠ i → ρs' j = ρs j) (hr : ∀ ρ, ρ ∈ ρs' i → RhoOk e' ps' (cs_ qs') ser' fr' rows' ρ.rho) (hoo : (p = .out ∨ (∃ g, p = .en g) ∨ ∃ g, p = .lv g ∧ g ≠ .l0) → out' = [])
    (hz : rows'.length ≤ n + 1) (hq : qs'.length ≤ n + 1) (ln : sks'.length = t ∧ wks'.length = t ∧ slv'.length = t ∧ rAs'.length = t) (zp : (ρs' i).length ≤ 5 * (n + 1) ∧ ∀ ρ, ρ ∈ ρs' i → ρ.q1.length ≤ n + 1 ∧ ρ.q2.length ≤ n2) :
    Ls c C M H' lab' m la t r B2 (n + 1) n2 A' X' sr fi sk ph wk sl al' ro sts fis rAs' sks' phs' wks' slv' qs' first ρs' e' ps' (upN fr i fr') (upN out i out') (upN rows i rows') (upN phx i p) slots' ser' := by
  refine ⟨hlf, hlh, hinv, hms, fun j hj => ?_, hsv, fun j hj ρ h => ?_, fun j hj h => ?_, S.asc, ⟨S.ln.1, ln.1, hp.1, ln.2.1, ln.2.2.1, ln.2.2.2⟩, fun j hj => ?_, hq, fun j hj => ?_⟩
  · by_cases cj : j = i
    · rw [cj, upN_same]; exact hp.2.1
    · rw [upN_ne cj, hp.2.2 j cj]; exact S.pp j hj
  · by_cases cj : j = i
    · subst cj
      rw [upN_same, upN_same]; exact hr ρ h
    · rw [upN_ne cj, upN_ne cj]
      rw [hρ j cj] at h
      exact (S.rho j hj ρ h).mv mv
  · by_cases cj : j = i
    · subst cj
      rw [upN_same] at h ⊢
      exact hoo h
    · rw [upN_ne cj] at h ⊢
      exact S.oo j hj h
  · by_cases cj : j = i
    · rw [cj, upN_same]; exact hz
    · rw [upN_ne cj]; exact Nat.le_succ_of_le (S.zr j hj)
  · by_cases cj : j = i
    · subst cj; exact zp
    · rw [hρ j cj]
      obtain ⟨a, b⟩ := S.zp j hj
      exact ⟨by omega, fun ρ h => ⟨Nat.le_succ_of_le (b ρ h).1, (b ρ h).2⟩⟩
end
end Dk

set_option maxHeartbeats 4000000
/-! the law k09: a pick of a thread that enters or leaves, its step -/
namespace Dk
open PySem PySem.Spec PyProof.Rows L2 StX
/-- behind a pick -/
def Kd (De : Ends) (c : Cv) (C M : Addr) (a tp : Addr) (t : Nat) (m la : Addr) (r B n n2 : Nat) (sr fi sk ph wk sl ro : Addr) (v13 v14 v15 v16 v21 v22 v23 v24 v25 : Option V) (sts fis : List Addr) (first : Nat → List Int) : Prop :=
  ∀ (v17 v18 v19 v20 : Option V) (al : Addr) (ser : Nat) (H : Hp) (lab : Addr → Nat) (A : Adr) (X : MS) (e : Int) (ps : List V) (rAs : List Addr) (sks : List V) (phs : List Str) (wks : List Int) (slv : List V) (qs : QL) (ρs : Nat → List Rx) (fr out : Nat → List Int) (rows : Nat → Rp) (phx : Nat → Ph) (slots : Nat → V),
    Ls c C M H lab m la t r (B + 2) (n + 1) n2 A X sr fi sk ph wk sl al ro sts fis rAs sks phs wks slv qs first ρs e ps fr out rows phx slots ser → De.nx (lw a tp t m sr fi sk ph wk sl al (ser : Int) ro v13 v14 v15 v16 v17 v18 v19 v20 v21 v22 v23 v24 v25) H
section
variable {P : Program} {w : World} {K : PySem.W.Frag} {mg : Str → Option Value} {base : Heap} {C M fE fL : Addr} {c : Cv}
theorem law_g1 {f : Addr} {cdv : Value} {A0 : Around} {outer : List Env} {s : Shared} {Hs : Hp} {E : XK} (hr : Room 20 (A0.deeper (envOfC "law" (defScope sLaw) s.heap.objs.size f cdv))) (B0 : Bn mg) (KTt : KT P w K mg base c C fE fL) (TM : MTxt K M) (TK : KTx K c.S)
    (GSt : MO P w K mg base CX0 c.S 18 "step" ["self", "memory", "thread"] (spKStL P w K mg base 6 c.S C M)) (GPk : MO P w K mg base CX0 M 8 "peek" ["self", "cell"] (spPeek C M)) (GLg : MO P w K mg base CX0 M 1 "log" ["self"] (spLog C M)) :
    ∃ t1, PSs (cxOf CX0 P w K mg base NLaw "law" (defScope sLaw) f cdv A0 outer s Hs E).nox ((elseBody sPick).drop 1) t1 ∧
      ∀ (De : Ends) (a tp : Addr) (t : Nat) (m sr fi sk ph wk sl al ro : Addr) (ser i : Nat) (v13 : Option V) (nm : Int) (v16 v17 v18 v19 v20 v21 v22 v23 v24 v25 : Option V) (H : Hp) (lab : Addr → Nat) (la : Addr) (r B n n2 : Nat) (A : Adr) (X : MS) (e : Int) (ps : List V) (sts fis rAs : List Addr) (sks : List V) (phs : List Str) (wks : List Int) (slv : List V) (qs : QL) (fr out : Nat → List Int) (rows : Nat → Rp) (first : Nat → List Int) (ρs : Nat → List Rx) (phx : Nat → Ph) (slots : Nat → V) (g : Stg),
        NOk t 3 r → i < t → n < 900 → B + 6 < sizeLine → Ls c C M H lab m la t r B n n2 A X sr fi sk ph wk sl al ro sts fis rAs sks phs wks slv qs first ρs e ps fr out rows phx slots ser → (phx i = .en g ∨ phx i = .lv g) →
        Kd De c C M a tp t m la r B n n2 sr fi sk ph wk sl ro v13 (some (.int nm)) (some (.int (i : Int))) v16 v21 v22 v23 v24 v25 sts fis first →
        t1 De (lw a tp t m sr fi sk ph wk sl al ser ro v13 (some (.int nm)) (some (.int (i : Int))) v16 v17 v18 v19 v20 v21 v22 v23 v24 v25) H := by
  have nd := scLaw.nd
  have hr8 : Room 8 _ := hr.mono (by decide)
  have hrS : Room 18 _ := hr.mono (by decide)
  obtain ⟨t3, h3, k3⟩ := law_g3 (f := f) (cdv := cdv) (outer := outer) (s := s) (Hs := Hs) (E := E) hr B0 TM GPk GLg (c := c)
  refine ⟨_, (pss_cons (ps_set (i := 18) nd rfl (Or.inl rfl) (pm_ GPk TM.cl hr8 (pv 3) (pa_cons (pe_op op_add pe_int (pv 15)) pa_nil)))
  (pss_cons (ps_set (i := 19) nd rfl (Or.inl rfl) (pm_ GSt TK.cl hrS (pe_ix ix_list (pv 6) (pv 15) (fun _ _ => rfl)) (pa_cons (pv 3) (pa_cons (pv 15) pa_nil))))
  h3)), ?_⟩
  intro De a tp t m sr fi sk ph wk sl al ro ser i v13 nm v16 v17 v18 v19 v20 v21 v22 v23 v24 v25 H lab la r B n n2 A X e ps sts fis rAs sks phs wks slv qs fr out rows first ρs phx slots g nok hi zn hB S hp kD
  have L := S.lf
  have W := S.lh
  obtain ⟨l1, l2, l3, l4, l5, l6⟩ := S.ln
  obtain ⟨dm, hm⟩ := L.wd.D.ob
  obtain ⟨sv, hsv, hst⟩ : ∃ v, ps[i]? = some v ∧ (v = .non ∨ ∃ z : Int, v = .int z) := by
    rcases S.inv.sl i hi with h | ⟨z, h⟩
    · exact ⟨_, h, .inl rfl⟩
    · exact ⟨_, h, .inr ⟨z, rfl⟩⟩
  have hpk : X.ps[1 + i]? = some sv := by rw [L.ps, show 1 + i = i + 1 by omega]; exact hsv
  obtain ⟨k, st, hk, hstk, G⟩ := S.ms i g hi hp
  obtain ⟨dk, _, _, _, sko⟩ := G.ob
  have hko := sko.ob
  obtain ⟨st', hst', R, ck, f9, r9⟩ := L.st i hi
  rw [hstk] at hst'
  cases hst'
  refine ⟨_, rfl, m, dm, _, rfl, hm, rfl, _, rfl, _, _, rfl, rfl, m, t, 3, r, 1 + i, A, X, sv, by simp, L.wd.D, by omega, ps_cell hpk (by omega), ?_⟩
  refine ⟨_, rfl, _, rfl, sk, sks, (i : Int), .ref k, rfl, rfl, SqL.of W.hsk.1, atI_nat hk, k, dk, _, rfl, hko, rfl, _, rfl, _, rfl, ?_⟩
  have zq := S.zq
  have zr := S.zr i hi
  have zpi := S.zp i hi
  dsimp only [tNil]
  by_cases cd : g = .dn
  · subst cd
    refine st_dn nok hi L.wd hB G ?_
    rcases hp with hp | hp
    · have hph := S.pp i hi
      rw [hp] at hph
      refine k3 _ _ _ _ _ _ _ _ _ _ _ _ _ _ _ _ _ _ _ _ _ _ _ _ _ _ _ _ _ _ _ _ _ _ _ _ _ _ _ _ _ _ _ _ _ _ _ _ _ phx _ sv nok L W S.ms hi hph l3 l4 l5 (by omega) hsv hst hst (.inr (.inl ⟨rfl, rfl, fun z H1 L1 W1 ms1 => ?_⟩))
      refine kD _ _ _ _ _ _ _ _ _ _ _ _ _ _ _ _ _ _ _ _ _ _ _ _ (S.nxt (p := .inn) (fr' := fr i) (out' := out i) (rows' := rows i) hi (by rw [upN_id, upN_id, upN_id]; exact L1.up (by omega)) W1 (ms1.drop fun g h => by rcases h with h | h <;> cases h) (S.inv.go hi .inn trivial fun _ => rfl) Mv.refl ⟨by rw [List.length_set]; exact l3, List.getElem?_set_self (by omega), fun j h => List.getElem?_set_ne (Ne.symm h)⟩ S.sv (fun _ _ => rfl) (S.rho i hi) (fun h => by rcases h with h | ⟨g, h⟩ | ⟨g, h, _⟩ <;> cases h) (by omega) (by omega) ⟨l2, by rw [List.length_set]; exact l4, l5, l6⟩ ⟨by omega, fun ρ h => ⟨Nat.le_succ_of_le (zpi.2 ρ h).1, (zpi.2 ρ h).2⟩⟩)
    · have hph := S.pp i hi
      rw [hp] at hph
      have own := S.inv.iph i hi
      rw [hp] at own
      have own : ps[i]? = some .non := own
      have hs0 : sv = .non := by
        rw [own] at hsv
        cases hsv
        rfl
      refine k3 _ _ _ _ _ _ _ _ _ _ _ _ _ _ _ _ _ _ _ _ _ _ _ _ _ _ _ _ _ _ _ _ _ _ _ _ _ _ _ _ _ _ _ _ _ _ _ _ _ phx _ sv nok L W S.ms hi hph l3 l4 l5 (by omega) hsv hst hst (.inr (.inr (.inr ⟨rfl, rfl, hs0, fun H1 L1 W1 ms1 => ?_⟩)))
      refine kD _ _ _ _ _ _ _ _ _ _ _ _ _ _ _ _ _ _ _ _ _ _ _ _ (S.nxt (p := .out) (fr' := fr i) (out' := out i) (rows' := rows i) hi (by rw [upN_id, upN_id, upN_id]; exact L1.up (by omega)) W1 (ms1.drop fun g h => by rcases h with h | h <;> cases h) (S.inv.go hi .out own (by rw [hp]; intro z; cases z)) Mv.refl ⟨by rw [List.length_set]; exact l3, List.getElem?_set_self (by omega), fun j h => List.getElem?_set_ne (Ne.symm h)⟩ S.sv (fun _ _ => rfl) (S.rho i hi) (fun _ => S.oo i hi (.inr (.inr ⟨.dn, hp, by intro z; cases z⟩))) (by omega) (by omega) ⟨l2, l4, l5, l6⟩ ⟨by omega, fun ρ h => ⟨Nat.le_succ_of_le (zpi.2 ρ h).1, (zpi.2 ρ h).2⟩⟩)
  · refine st_all KTt nok hi L.wd hB G R L.lay L.ps S.inv.sl ⟨by omega, fun kk => by have := ck.bound kk; omega⟩ cd (fun ep j os hg => ?_) fun rq g' e' ps' fr' out' rows' T x A' X' H2 lab' ea ps1 lo LI Wd2 F2 G2 R2 => ?_
    · have own := S.inv.iph i hi
      rcases hp with hp | hp
      · rw [hp, hg] at own
        exact own.elim
      · rw [hp, hg] at own
        exact own.2.2.1 j List.mem_cons_self
    have W2 := W.fr F2
    have zT := T.zr
    rcases hp with hp | hp
    · have hph := S.pp i hi
      rw [hp] at hph
      obtain ⟨rfl, rfl, rfl, rfl, na, hI⟩ := inv_en S.inv hi hp T
      have L2' := L.stp F2 Wd2 ea ps1 (Int.le_refl _) hstk R2 ck r9
      have ms2 : Ms c H2 lab' t sks sts (upN phx i (.en g')) := Ms.stp S.ms F2 (fun _ _ => rfl) fun g'' h => ⟨k, st, hk, hstk, by rcases h with h | h <;> cases h; exact G2⟩
      have hph2 : phs.length = t ∧ phs[i]? = some (phS (.en g')) ∧ ∀ j, j ≠ i → phs[j]? = phs[j]? := ⟨l3, hph, fun _ _ => rfl⟩
      have hoo2 : (Ph.en g' = .out ∨ (∃ g, Ph.en g' = .en g) ∨ ∃ g, Ph.en g' = .lv g ∧ g ≠ .l0) → out i = [] := fun _ => S.oo i hi (.inr (.inl ⟨g, hp⟩))
      have zp2 : (ρs i).length ≤ 5 * (n + 1) ∧ ∀ ρ, ρ ∈ ρs i → ρ.q1.length ≤ n + 1 ∧ ρ.q2.length ≤ n2 := ⟨by omega, fun ρ h => ⟨Nat.le_succ_of_le (zpi.2 ρ h).1, (zpi.2 ρ h).2⟩⟩
      rcases hI with ⟨nA, I', mv⟩ | ⟨yA, I', mv⟩
      · obtain ⟨pv, hpv, hpt⟩ : ∃ v, ps'[i]? = some v ∧ (v = .non ∨ ∃ z : Int, v = .int z) := by
          rcases I'.sl i hi with h | ⟨z, h⟩
          · exact ⟨_, h, .inl rfl⟩
          · exact ⟨_, h, .inr ⟨z, rfl⟩⟩
        refine k3 _ _ _ _ _ _ _ _ _ _ _ _ _ _ _ _ _ _ _ _ _ _ _ _ _ _ _ _ _ _ _ _ _ _ _ _ _ _ _ _ _ _ _ _ _ _ _ _ _ _ _ pv nok L2' W2 ms2 hi hph l3 l4 l5 (by omega) hpv hpt hst (.inl ⟨rfl, rfl, X.log, x, _, rq, lo, LI, na, fun _ v20 H' lab'' gr => ?_, fun h => absurd ⟨h.1, (by rw [hpv]; intro z; cases z; exact h.2.1 rfl), by rw [hsv, h.2.2]⟩ nA⟩)
        exact kD _ _ _ _ _ _ _ _ _ _ _ _ _ _ _ _ _ _ _ _ _ _ _ _ (S.nxt hi (L2'.gr gr (Nat.le_refl _)) (W2.gr gr) (ms2.gr gr) I' mv hph2 S.sv (fun _ _ => rfl) (fun ρ h => (S.rho i hi ρ h).mv mv) hoo2 (by omega) (by omega) ⟨l2, l4, l5, l6⟩ zp2)
      · obtain ⟨pv, hpv, hpt⟩ : ∃ v, ps'[i]? = some v ∧ (v = .non ∨ ∃ z : Int, v = .int z) := by
          rcases I'.sl i hi with h | ⟨z, h⟩
          · exact ⟨_, h, .inl rfl⟩
          · exact ⟨_, h, .inr ⟨z, rfl⟩⟩
        have cy : (∃ n, rq = .read n) ∧ pv ≠ .non ∧ sv = .int e' := ⟨yA.1, fun z => yA.2.1 (by rw [hpv, z]), by have := yA.2.2; rw [hsv] at this; cases this; rfl⟩
        refine k3 _ _ _ _ _ _ _ _ _ _ _ _ _ _ _ _ _ _ _ _ _ _ _ _ _ _ _ _ _ _ _ _ _ _ _ _ _ _ _ _ _ _ _ _ _ _ _ _ _ _ _ pv nok L2' W2 ms2 hi hph l3 l4 l5 (by omega) hpv hpt hst (.inl ⟨rfl, rfl, X.log, x, _, rq, lo, LI, na, fun h => absurd cy h, fun _ v20 H' lab'' al' q L3 W3 ms3 => ?_⟩)
        have ecs : cs_ (qs ++ [(q, (i, ser + 1))]) = cs_ qs ++ [(i, ser + 1)] := cs_app
        refine kD _ _ _ _ _ _ _ _ _ _ _ _ _ _ _ _ _ _ _ _ _ _ _ _ (S.nxt hi L3 W3 ms3 (by rw [ecs]; exact I') (by rw [ecs]; exact mv) hph2 (fun x hx => ?_) (fun _ _ => rfl) (fun ρ h => by rw [ecs]; exact (S.rho i hi ρ h).mv mv) hoo2 (by omega) (by rw [List.length_append]; show qs.length + 1 ≤ _; omega) ⟨l2, l4, by rw [List.length_set]; exact l5, l6⟩ zp2)
        rw [ecs] at hx
        by_cases cx : x.1 = i
        · rw [cx, upN_same, List.getElem?_set_self (by omega)]
        · rw [upN_ne cx, List.getElem?_set_ne (Ne.symm cx)]
          rcases List.mem_append.mp hx with h | h
          · exact S.sv x h
          · rw [List.mem_singleton.mp h] at cx
            exact absurd rfl cx
    · have hph := S.pp i hi
      rw [hp] at hph
      obtain ⟨act', hact, I', mv, hr', hc'⟩ := inv_lv (first := first i) S.inv hi hp T
      have le : e ≤ e' := by rcases mv.me with q | q <;> omega
      have L2' := L.stp F2 Wd2 ea ps1 le hstk R2 (hc' ck) (by omega)
      have ms2 : Ms c H2 lab' t sks sts (upN phx i (.lv g')) := Ms.stp S.ms F2 (fun _ _ => rfl) fun g'' h => ⟨k, st, hk, hstk, by rcases h with h | h <;> cases h; exact G2⟩
      obtain ⟨pv, hpv, hpt⟩ : ∃ v, ps'[i]? = some v ∧ (v = .non ∨ ∃ z : Int, v = .int z) := by
        rcases I'.sl i hi with h | ⟨z, h⟩
        · exact ⟨_, h, .inl rfl⟩
        · exact ⟨_, h, .inr ⟨z, rfl⟩⟩
      refine k3 _ _ _ _ _ _ _ _ _ _ _ _ _ _ _ _ _ _ _ _ _ _ _ _ _ _ _ _ _ _ _ _ _ _ _ _ _ _ _ _ _ _ _ _ _ _ _ _ _ _ _ pv nok L2' W2 ms2 hi hph l3 l4 l5 (by omega) hpv hpt hst (.inr (.inr (.inl ⟨rfl, rfl, fun H' lab'' al' qs' hq' L3 W3 ms3 => ?_⟩)))
      have ecs : cs_ qs' = act' := by
        rcases hq' with ⟨a1, a2, a3, _⟩ | ⟨a1, rfl⟩
        · rcases hact with ⟨_, _, b⟩ | ⟨b, _⟩
          · rw [a3, b]
          · exact absurd ⟨(by rw [hsv]; intro z; cases z; exact a1 rfl), by rw [hpv, a2]⟩ b
        · rcases hact with ⟨b1, b2, _⟩ | ⟨_, b⟩
          · refine absurd ⟨fun z => b1 (by rw [hsv, z]), ?_⟩ a1
            rw [hpv] at b2
            cases b2
            rfl
          · exact b.symm
      have zq' : qs'.length ≤ qs.length := by
        rcases hq' with ⟨_, _, _, h⟩ | ⟨_, rfl⟩
        · exact h
        · exact Nat.le_refl _
      have sub : ∀ x, x ∈ cs_ qs' → x ∈ cs_ qs := fun x hx => by
        rcases hq' with ⟨_, _, a3, _⟩ | ⟨_, rfl⟩
        · rw [a3] at hx
          exact (List.mem_filter.mp hx).1
        · exact hx
      subst ecs
      exact kD _ _ _ _ _ _ _ _ _ _ _ _ _ _ _ _ _ _ _ _ _ _ _ _ (S.nxt hi L3 W3 ms3 I' mv ⟨l3, hph, fun _ _ => rfl⟩ (fun x hx => S.sv x (sub x hx)) (fun _ _ => rfl) (fun ρ h => hr' _ ((S.rho i hi ρ h).mv mv)) (fun _ => T.oo fun ng => S.oo i hi (.inr (.inr ⟨g, hp, ng⟩))) (by omega) (by omega) ⟨l2, l4, l5, l6⟩ ⟨by omega, fun ρ h => ⟨Nat.le_succ_of_le (zpi.2 ρ h).1, (zpi.2 ρ h).2⟩⟩)
end
end Dk

set_option maxHeartbeats 4000000
/-! the law k09: a pick of a thread that enters or leaves -/
namespace Dk
open PySem PySem.Spec PyProof.Rows L2 StX
section
variable {P : Program} {w : World} {K : PySem.W.Frag} {mg : Str → Option Value} {base : Heap} {C M fE fL fMkE fSk : Addr} {c : Cv} {fdE fdSk : FuncData}
theorem law_go {f : Addr} {cdv : Value} {A0 : Around} {outer : List Env} {s : Shared} {Hs : Hp} {E : XK} (hr : Room 20 (A0.deeper (envOfC "law" (defScope sLaw) s.heap.objs.size f cdv))) (B0 : Bn mg) (KTt : KT P w K mg base c C fE fL) (TM : MTxt K M) (TK : KTx K c.S)
    (gSk : mg "Stack" = some (.ref c.S)) (MSk : Mk K c.S fSk) (FSk : FnOk P w K mg base CX0 1 fSk fdSk ["self", "machine"] (spKInit c.S)) (bSk : Binds K fdSk ["self", "machine"] [])
    (gE : mg "Entering" = some (.ref c.CE)) (MkE : Mk K c.CE fMkE) (FE : FnOk P w K mg base CX0 2 fMkE fdE ["self", "store"] (spEnInit C c.St c.CE c.gE)) (bE : Binds K fdE ["self", "store"] [])
    (GSt : MO P w K mg base CX0 c.S 18 "step" ["self", "memory", "thread"] (spKStL P w K mg base 6 c.S C M)) (GPk : MO P w K mg base CX0 M 8 "peek" ["self", "cell"] (spPeek C M)) (GLg : MO P w K mg base CX0 M 1 "log" ["self"] (spLog C M)) :
    ∃ t1, PSs (cxOf CX0 P w K mg base NLaw "law" (defScope sLaw) f cdv A0 outer s Hs E).nox (elseBody sPick) t1 ∧
      ∀ (De : Ends) (a tp : Addr) (t : Nat) (m sr fi sk ph wk sl al ro : Addr) (ser i : Nat) (v13 : Option V) (nm : Int) (st : Addr) (v17 v18 v19 v20 v21 v22 v23 v24 v25 : Option V) (H : Hp) (lab : Addr → Nat) (la : Addr) (r B n n2 : Nat) (A : Adr) (X : MS) (e : Int) (ps : List V) (sts fis rAs : List Addr) (sks : List V) (phs : List Str) (wks : List Int) (slv : List V) (qs : QL) (fr out : Nat → List Int) (rows : Nat → Rp) (first : Nat → List Int) (ρs : Nat → List Rx) (phx : Nat → Ph) (slots : Nat → V),
        NOk t 3 r → i < t → n < 900 → B + 6 < sizeLine → Ls c C M H lab m la t r B n n2 A X sr fi sk ph wk sl al ro sts fis rAs sks phs wks slv qs first ρs e ps fr out rows phx slots ser → phx i ≠ .inn → sts[i]? = some st →
        Kd De c C M a tp t m la r B n n2 sr fi sk ph wk sl ro v13 (some (.int nm)) (some (.int (i : Int))) (some (.ref st)) v21 v22 v23 v24 v25 sts fis first →
        t1 De (lw a tp t m sr fi sk ph wk sl al ser ro v13 (some (.int nm)) (some (.int (i : Int))) (some (.ref st)) v17 v18 v19 v20 v21 v22 v23 v24 v25) H := by
  have nd := scLaw.nd
  have hr2 : Room (1 + 1) _ := hr.mono (by decide)
  have hrE : Room (2 + 1) _ := hr.mono (by decide)
  obtain ⟨t1, h1, k1⟩ := law_g1 (f := f) (cdv := cdv) (outer := outer) (s := s) (Hs := Hs) (E := E) hr B0 KTt TM TK GSt GPk GLg (c := c)
  refine ⟨_, (pss_cons (ps_if (pt_cmpR op_eq (pe_ix ix_list (pv 7) (pv 15) (fun _ _ => rfl)) pe_str (nomark _))
  (pss_cons (ps_asg pe_str (pg_sub (pv 7) (pv 15) set_list))
  (pss_one (ps_asg (pe_make MSk FSk hr2 rfl gSk bSk .nil pass0 (pa_cons (pe_make MkE FE hrE rfl gE bE .nil pass0 (pa_cons (pv 16) pa_nil)) pa_nil)) (pg_sub (pv 6) (pv 15) set_list))))
  pss_nil)
  h1), ?_⟩
  intro De a tp t m sr fi sk ph wk sl al ro ser i v13 nm st v17 v18 v19 v20 v21 v22 v23 v24 v25 H lab la r B n n2 A X e ps sts fis rAs sks phs wks slv qs fr out rows first ρs phx slots nok hi zn hB S hni hst kD
  have L := S.lf
  have W := S.lh
  obtain ⟨l1, l2, l3, l4, l5, l6⟩ := S.ln
  have hpp := S.pp i hi
  have hpv : (phs.map V.str)[i]? = some (.str (phS (phx i))) := by rw [List.getElem?_map, hpp]; rfl
  refine ⟨_, rfl, _, rfl, ph, _, (i : Int), .str (phS (phx i)), rfl, rfl, SqL.of W.hph.1, atI_nat hpv, rfl, _, rfl, ?_⟩
  have go : ∀ g, (phx i = .en g ∨ phx i = .lv g) → t1 De (lw a tp t m sr fi sk ph wk sl al ser ro v13 (some (.int nm)) (some (.int (i : Int))) (some (.ref st)) v17 v18 v19 v20 v21 v22 v23 v24 v25) H := fun g hg =>
    k1 _ _ _ _ _ _ _ _ _ _ _ _ _ _ _ _ _ _ _ _ _ _ _ _ _ _ _ _ _ _ _ _ _ _ _ _ _ _ _ _ _ _ _ _ _ _ _ _ _ _ _ _ _ _ nok hi zn hB S hg kD
  cases hp : phx i with
  | inn => exact absurd hp hni
  | en g => exact iteC (show decide (V.str ("entering" : Str) = V.str ("out" : Str)) = false by decide +kernel) (go g (.inl hp))
  | lv g => exact iteC (show decide (V.str ("leaving" : Str) = V.str ("out" : Str)) = false by decide +kernel) (go g (.inr hp))
  | out =>
    refine iteC1 (by decide +kernel) ?_
    refine ⟨_, rfl, _, rfl, ph, _, (i : Int), i, rfl, rfl, W.hph.1, ixNn (by rw [List.length_map]; omega), ?_⟩
    have L1 := L.set (o := HO.lst ((phs.set i "entering").map V.str)) W.hph.2
    have W1 := W.setPh (phs.set i "entering")
    have ms1 : Ms c _ lab t sks sts phx := Ms.set (o := HO.lst ((phs.set i "entering").map V.str)) S.ms W.hph.2 W.hph.1
    rw [show (phs.map V.str).set i (.str "entering") = (phs.set i "entering").map V.str from (List.map_set).symm]
    generalize upd H ph (HO.lst ((phs.set i "entering").map V.str)) = H1 at L1 W1 ms1 ⊢
    obtain ⟨st', hst', R, ck, f9, r9⟩ := L1.st i hi
    rw [hst] at hst'
    cases hst'
    obtain ⟨da, hla⟩ := id L1.wd.D.lay
    refine ⟨_, rfl, fun x dx nx ndx nex => mk_enM (n := 2) (H0 := H1) L1.wd L1.lay R (fun b e => e) (fun H2 g2 ma2 => ⟨rfl, fun k dk nk ndk nek => stk_of (H0 := H1) (n := 2) (L1.wd.gr g2) (R.gr g2) ma2 ⟨_, hla⟩ (.inr rfl) (fun H4 lab4 s4 k4 lq4 W4 R4 G4 => ⟨rfl, ?_⟩) nk ndk⟩) nx ndx nex⟩
    have g4 : Gr lab H1 lab4 H4 := ⟨g2.s.trans s4, fun b o e => (k4 b o (g2.s _ _ e) (by rw [e]; simp)).trans (g2.l b o e)⟩
    have Lf4 := L1.gr g4 (Nat.le_refl _)
    have Lh4 := W1.gr g4
    have ms4 := ms1.gr g4
    refine ⟨_, rfl, _, rfl, sk, sks, (i : Int), i, rfl, rfl, Lh4.hsk.1, ixNn (by omega), ?_⟩
    have ms4' : Ms c H4 lab4 t (sks.set i (.ref k)) sts (upN phx i (.en .e0)) := Ms.stp ms4 (Gr.refl.fr i) (fun j h => List.getElem?_set_ne (Ne.symm h)) fun g h => ⟨k, st, List.getElem?_set_self (by omega), hst, by rcases h with h | h <;> cases h; exact G4⟩
    have L5 := Lf4.set (o := HO.lst (sks.set i (.ref k))) Lh4.hsk.2
    have W5 := Lh4.setSk (sks.set i (.ref k))
    have ms5 := ms4'.set (o := HO.lst (sks.set i (.ref k))) Lh4.hsk.2 Lh4.hsk.1
    generalize upd H4 sk (HO.lst (sks.set i (.ref k))) = H5 at L5 W5 ms5 ⊢
    have own := S.inv.iph i hi
    rw [hp] at own
    refine k1 _ _ _ _ _ _ _ _ _ _ _ _ _ _ _ _ _ _ _ _ _ _ _ _ _ _ _ _ _ _ _ _ _ _ _ _ _ _ _ _ _ _ _ _ _ _ _ _ _ _ _ (upN phx i (.en .e0)) _ .e0 nok hi zn hB ⟨L5, W5, S.inv.go hi (.en .e0) own (by rw [hp]; intro z; cases z), ms5, fun j hj => ?_, S.sv, S.rho, fun j hj h => ?_, S.asc, ⟨l1, by rw [List.length_set]; exact l2, by rw [List.length_set]; exact l3, l4, l5, l6⟩, S.zr, S.zq, S.zp⟩ (.inl upN_same) kD
    · by_cases cj : j = i
      · rw [cj, upN_same]; exact List.getElem?_set_self (by omega)
      · rw [upN_ne cj, List.getElem?_set_ne (Ne.symm cj)]; exact S.pp j hj
    · by_cases cj : j = i
      · rw [cj]; exact S.oo i hi (.inl hp)
      · rw [upN_ne cj] at h; exact S.oo j hj h
end
end Dk

set_option maxHeartbeats 4000000
/-! the law k09: a pick of a thread that is in its call, its end: it leaves -/
namespace Dk
open PySem PySem.Spec PyProof.Rows L2 StX
section
variable {P : Program} {w : World} {K : PySem.W.Frag} {mg : Str → Option Value} {base : Heap} {C M fMkV fSk : Addr} {c : Cv} {fdV fdSk : FuncData}
theorem law_i3 {f : Addr} {cdv : Value} {A0 : Around} {outer : List Env} {s : Shared} {Hs : Hp} {E : XK} (hr : Room 20 (A0.deeper (envOfC "law" (defScope sLaw) s.heap.objs.size f cdv))) (B0 : Bn mg)
    (gSk : mg "Stack" = some (.ref c.S)) (MSk : Mk K c.S fSk) (FSk : FnOk P w K mg base CX0 1 fSk fdSk ["self", "machine"] (spKInit c.S)) (bSk : Binds K fdSk ["self", "machine"] [])
    (gV : mg "Leaving" = some (.ref c.CL)) (MkV : Mk K c.CL fMkV) (FV : FnOk P w K mg base CX0 3 fMkV fdV ["self", "store"] (spLvInit C c.St c.CL c.gSt c.gEp c.gHe)) (bV : Binds K fdV ["self", "store"] []) :
    ∃ t1, PSs (cxOf CX0 P w K mg base NLaw "law" (defScope sLaw) f cdv A0 outer s Hs E).nox ((thenBody sPick).drop 3) t1 ∧
      ∀ (De : Ends) (a tp : Addr) (t : Nat) (m sr fi sk ph wk sl al ro : Addr) (ser i : Nat) (v13 : Option V) (nm : Int) (st : Addr) (v17 v18 v19 v20 v21 v22 v23 v24 v25 : Option V) (H : Hp) (lab : Addr → Nat) (la : Addr) (r B n n2 : Nat) (A : Adr) (X : MS) (e : Int) (ps : List V) (sts fis rAs : List Addr) (sks : List V) (phs : List Str) (wks : List Int) (slv : List V) (qs : QL) (fr out : Nat → List Int) (rows : Nat → Rp) (first : Nat → List Int) (ρs : Nat → List Rx) (phx : Nat → Ph) (slots : Nat → V),
        NOk t 3 r → i < t → Ls c C M H lab m la t r (B + 2) (n + 1) n2 A X sr fi sk ph wk sl al ro sts fis rAs sks phs wks slv qs first ρs e ps fr out rows phx slots ser → phx i = .inn → sts[i]? = some st →
        Kd De c C M a tp t m la r B n n2 sr fi sk ph wk sl ro v13 (some (.int nm)) (some (.int (i : Int))) (some (.ref st)) v21 v22 v23 v24 v25 sts fis first →
        t1 De (lw a tp t m sr fi sk ph wk sl al ser ro v13 (some (.int nm)) (some (.int (i : Int))) (some (.ref st)) v17 v18 v19 v20 v21 v22 v23 v24 v25) H := by
  have nd := scLaw.nd
  have hr2 : Room (1 + 1) _ := hr.mono (by decide)
  have hrV : Room (3 + 1) _ := hr.mono (by decide)
  refine ⟨_, (pss_one (ps_if (pt_cmpR op_le (pe_ix ix_list (pv 8) (pv 15) (fun _ _ => rfl)) pe_int (nomark _))
  (pss_cons (ps_asg pe_str (pg_sub (pv 7) (pv 15) set_list))
  (pss_one (ps_asg (pe_make MSk FSk hr2 rfl gSk bSk .nil pass0 (pa_cons (pe_make MkV FV hrV rfl gV bV .nil pass0 (pa_cons (pv 16) pa_nil)) pa_nil)) (pg_sub (pv 6) (pv 15) set_list))))
  pss_nil)), ?_⟩
  intro De a tp t m sr fi sk ph wk sl al ro ser i v13 nm st v17 v18 v19 v20 v21 v22 v23 v24 v25 H lab la r B n n2 A X e ps sts fis rAs sks phs wks slv qs fr out rows first ρs phx slots nok hi S hp hst kD
  have L := S.lf
  have W := S.lh
  obtain ⟨l1, l2, l3, l4, l5, l6⟩ := S.ln
  obtain ⟨wv, hwv⟩ : ∃ v, wks[i]? = some v := ⟨_, List.getElem?_eq_getElem (by omega)⟩
  have hwv' : (wks.map V.int)[i]? = some (.int wv) := by rw [List.getElem?_map, hwv]; rfl
  refine ⟨_, rfl, _, rfl, wk, _, (i : Int), .int wv, rfl, rfl, SqL.of W.hwk.1, atI_nat hwv', _, _, rfl, rfl, _, rfl, ?_⟩
  by_cases cw : wv ≤ 0
  · refine iteC1 (decide_eq_true cw) ?_
    refine ⟨_, rfl, _, rfl, ph, _, (i : Int), i, rfl, rfl, W.hph.1, ixNn (by rw [List.length_map]; omega), ?_⟩
    have L1 := L.set (o := HO.lst ((phs.set i "leaving").map V.str)) W.hph.2
    have W1 := W.setPh (phs.set i "leaving")
    have ms1 : Ms c _ lab t sks sts phx := Ms.set (o := HO.lst ((phs.set i "leaving").map V.str)) S.ms W.hph.2 W.hph.1
    rw [show (phs.map V.str).set i (.str "leaving") = (phs.set i "leaving").map V.str from (List.map_set).symm]
    generalize upd H ph (HO.lst ((phs.set i "leaving").map V.str)) = H1 at L1 W1 ms1 ⊢
    obtain ⟨st', hst', R, ck, f9, r9⟩ := L1.st i hi
    rw [hst] at hst'
    cases hst'
    obtain ⟨da, hla⟩ := id L1.wd.D.lay
    have t3 := nok.t3
    refine ⟨_, rfl, fun x dx nx ndx nex => mk_lvM (n := 1) (H0 := H1) L1.wd (by omega) L1.lay R (fun b e => e) (fun H2 g2 ma2 => ⟨rfl, fun k dk nk ndk nek => stk_of (H0 := H1) (n := 1) (L1.wd.gr g2) (R.gr g2) ma2 ⟨_, hla⟩ (.inl rfl) (fun H4 lab4 s4 k4 lq4 W4 R4 G4 => ⟨rfl, ?_⟩) nk ndk⟩) nx ndx nex⟩
    have g4 : Gr lab H1 lab4 H4 := ⟨g2.s.trans s4, fun b o e => (k4 b o (g2.s _ _ e) (by rw [e]; simp)).trans (g2.l b o e)⟩
    have Lf4 := L1.gr g4 (Nat.le_refl _)
    have Lh4 := W1.gr g4
    have ms4 := ms1.gr g4
    refine ⟨_, rfl, _, rfl, sk, sks, (i : Int), i, rfl, rfl, Lh4.hsk.1, ixNn (by omega), ?_⟩
    have ms4' : Ms c H4 lab4 t (sks.set i (.ref k)) sts (upN phx i (.lv (lvS (out i) (rows i)))) := Ms.stp ms4 (Gr.refl.fr i) (fun j h => List.getElem?_set_ne (Ne.symm h)) fun g h => ⟨k, st, List.getElem?_set_self (by omega), hst, by rcases h with h | h <;> cases h; exact G4⟩
    have L5 := Lf4.set (o := HO.lst (sks.set i (.ref k))) Lh4.hsk.2
    have W5 := Lh4.setSk (sks.set i (.ref k))
    have ms5 := ms4'.set (o := HO.lst (sks.set i (.ref k))) Lh4.hsk.2 Lh4.hsk.1
    generalize upd H4 sk (HO.lst (sks.set i (.ref k))) = H5 at L5 W5 ms5 ⊢
    have own : PhOk t e ps (cs_ qs) i (.lv (lvS (out i) (rows i))) := by
      unfold lvS
      split <;> trivial
    have ac : (Ph.lv (lvS (out i) (rows i))).act = true := by
      unfold lvS
      split <;> rfl
    refine kD _ _ _ _ _ _ _ _ _ _ _ _ _ _ _ _ _ _ _ _ _ _ (upN phx i (.lv (lvS (out i) (rows i)))) _ ⟨L5, W5, S.inv.go hi _ own fun _ => ac, ms5, fun j hj => ?_, S.sv, S.rho, fun j hj h => ?_, S.asc, ⟨l1, by rw [List.length_set]; exact l2, by rw [List.length_set]; exact l3, l4, l5, l6⟩, S.zr, S.zq, S.zp⟩
    · by_cases cj : j = i
      · rw [cj, upN_same]; exact List.getElem?_set_self (by omega)
      · rw [upN_ne cj, List.getElem?_set_ne (Ne.symm cj)]; exact S.pp j hj
    · by_cases cj : j = i
      · subst cj
        rw [upN_same] at h
        rcases h with h | ⟨g, h⟩ | ⟨g, h, hg⟩
        · cases h
        · cases h
        · have h : lvS (out j) (rows j) = g := by injection h
          unfold lvS at h
          by_cases co : out j = []
          · exact co
          · rw [if_neg co] at h
            exact absurd h.symm hg
      · rw [upN_ne cj] at h; exact S.oo j hj h
  · refine iteC (decide_eq_false cw) ?_
    exact kD _ _ _ _ _ _ _ _ _ _ _ _ _ _ _ _ _ _ _ _ _ _ _ _ S
end
end Dk

set_option maxHeartbeats 4000000
/-! the law k09: what a store that gives cells out leaves of the rest -/
namespace Dk
open PySem PySem.Spec PyProof.Rows L2
section
variable {c : Cv} {C M SS : Addr} {H H' : Hp} {lab lab' nl : Addr → Nat} {m la : Addr} {t r B n n2 i : Nat} {A : Adr} {X : MS} {sts fis rAs : List Addr} {sr fi sk ph wk sl al ro : Addr} {sks : List V} {phs : List Str} {wks : List Int} {slv : List V} {qs : QL} {first : Nat → List Int} {ρs : Nat → List Rx} {e : Int} {ps : List V} {fr out : Nat → List Int} {rows : Nat → Rp} {phx : Nat → Ph} {slots : Nat → V} {ser : Nat} {st fa wa oa fa' oa' : Addr} {fr0 fr' out0 out' : List Int} {rw' : List Rw}
theorem sto_chg (R : StAt SS H st la (i : Int) fa wa oa fr0 out0 rw') (oz : ∀ b, Ow st fa wa oa rw' b → lab b = lS i) (R' : StAt SS H' st la (i : Int) fa' wa oa' fr' out' rw') (hf : fa' = fa ∨ (H fa' = none ∧ nl fa' = lS i)) (ho : oa' = oa ∨ (H oa' = none ∧ nl oa' = lS i)) (kp : Kept st H H') :
    Fr i lab H (relG lab H nl) H' ∧ Sto SS H' (relG lab H nl) i st la fr' out' (rwP rw') := by
  have zst : lab st = lS i := oz st (.inl rfl)
  obtain ⟨dx, hob⟩ := R.ob
  refine ⟨⟨fun b o e _ => relG_old e, fun b o e _ _ n2 => kp b o e fun z => n2 (by rw [z]; exact zst), fun b o e im => kp b o e fun z => ?_⟩, fa', wa, oa', rw', R', rfl, fun b hb => ?_⟩
  · rw [z, hob] at e
    cases e
    exact nimm_ins im
  · have old : Ow st fa wa oa rw' b → relG lab H nl b = lS i := fun h => by
      obtain ⟨o, e⟩ := ow_some R b h
      rw [relG_old e]
      exact oz b h
    rcases hb with z | z | z | z | z
    · exact old (.inl z)
    · rcases hf with q | ⟨q1, q2⟩
      · exact old (.inr (.inl (z.trans q)))
      · rw [z, relG_new q1]; exact q2
    · exact old (.inr (.inr (.inl z)))
    · rcases ho with q | ⟨q1, q2⟩
      · exact old (.inr (.inr (.inr (.inl (z.trans q)))))
      · rw [z, relG_new q1]; exact q2
    · exact old (.inr (.inr (.inr (.inr z))))
theorem Wd.kp1 {t w : Nat} (W : Wd C M H m t w r B A X lab) (l : ∀ b o, H b = some o → lab' b = lab b) (k : ∀ b o, H b = some o → b ≠ st → H' b = some o) (zst : lab st = lS i) : Wd C M H' m t w r B A X lab' := by
  have n0 : ∀ b, lab b ≠ lS i → b ≠ st := fun b n z => n (by rw [z]; exact zst)
  obtain ⟨da, hla⟩ := id W.D.lay
  exact ⟨W.D.on (fun b o e hf => k b o e (n0 b (by rw [W.fo b hf]; exact lS0.symm))) (fun o e => k _ o e (n0 _ (by rw [W.la]; exact lS1.symm))), W.so, fun b hf => by obtain ⟨u, hu⟩ := foot_some W.D hf; rw [l b _ hu]; exact W.fo b hf, by rw [l _ _ hla]; exact W.la⟩
theorem Ls.mono (S : Ls c C M H lab m la t r B n n2 A X sr fi sk ph wk sl al ro sts fis rAs sks phs wks slv qs first ρs e ps fr out rows phx slots ser) : Ls c C M H lab m la t r B (n + 1) n2 A X sr fi sk ph wk sl al ro sts fis rAs sks phs wks slv qs first ρs e ps fr out rows phx slots ser :=
  ⟨S.lf, S.lh, S.inv, S.ms, S.pp, S.sv, S.rho, S.oo, S.asc, S.ln, fun j hj => Nat.le_succ_of_le (S.zr j hj), Nat.le_succ_of_le S.zq, fun j hj => ⟨by have := (S.zp j hj).1; omega, fun ρ h => ⟨Nat.le_succ_of_le ((S.zp j hj).2 ρ h).1, ((S.zp j hj).2 ρ h).2⟩⟩⟩
end
end Dk

set_option maxHeartbeats 4000000
/-! the law k09: a pick of a thread that is in its call: it takes cells out -/
namespace Dk
open PySem PySem.Spec PyProof.Rows L2 StX
section
variable {P : Program} {w : World} {K : PySem.W.Frag} {mg : Str → Option Value} {base : Heap} {C M fMkV fSk : Addr} {c : Cv} {fdV fdSk : FuncData}
theorem law_i2 {f : Addr} {cdv : Value} {A0 : Around} {outer : List Env} {s : Shared} {Hs : Hp} {E : XK} (hr : Room 20 (A0.deeper (envOfC "law" (defScope sLaw) s.heap.objs.size f cdv))) (B0 : Bn mg) (T : STxt K mg c.St) (zn : mg "min" = none)
    (gSk : mg "Stack" = some (.ref c.S)) (MSk : Mk K c.S fSk) (FSk : FnOk P w K mg base CX0 1 fSk fdSk ["self", "machine"] (spKInit c.S)) (bSk : Binds K fdSk ["self", "machine"] [])
    (gV : mg "Leaving" = some (.ref c.CL)) (MkV : Mk K c.CL fMkV) (FV : FnOk P w K mg base CX0 3 fMkV fdV ["self", "store"] (spLvInit C c.St c.CL c.gSt c.gEp c.gHe)) (bV : Binds K fdV ["self", "store"] [])
    (GTk : MO P w K mg base CX0 c.St 1 "take" ["self", "many"] (spTake c.St)) (GTo : MO P w K mg base CX0 c.St 1 "take_out" ["self", "cells"] (spTOut c.St)) (GFc : MO P w K mg base CX0 c.St 1 "free_cells" ["self"] (spFreeC c.St)) :
    ∃ t1, PSs (cxOf CX0 P w K mg base NLaw "law" (defScope sLaw) f cdv A0 outer s Hs E).nox ((thenBody sPick).drop 2) t1 ∧
      ∀ (De : Ends) (a tp : Addr) (t : Nat) (m sr fi sk ph wk sl al ro : Addr) (ser i : Nat) (v13 : Option V) (nm : Nat) (st : Addr) (v17 v18 v19 v20 v21 v22 v23 v24 v25 : Option V) (H : Hp) (lab : Addr → Nat) (la : Addr) (r B n n2 : Nat) (A : Adr) (X : MS) (e : Int) (ps : List V) (sts fis rAs : List Addr) (sks : List V) (phs : List Str) (wks : List Int) (slv : List V) (qs : QL) (fr out : Nat → List Int) (rows : Nat → Rp) (first : Nat → List Int) (ρs : Nat → List Rx) (phx : Nat → Ph) (slots : Nat → V),
        NOk t 3 r → i < t → n < 900 → n ≤ n2 → Ls c C M H lab m la t r (B + 2) n n2 A X sr fi sk ph wk sl al ro sts fis rAs sks phs wks slv qs first ρs e ps fr out rows phx slots ser → phx i = .inn → sts[i]? = some st →
        Kd De c C M a tp t m la r B n n2 sr fi sk ph wk sl ro v13 (some (.int (nm : Int))) (some (.int (i : Int))) (some (.ref st)) v21 v22 v23 v24 v25 sts fis first →
        t1 De (lw a tp t m sr fi sk ph wk sl al ser ro v13 (some (.int (nm : Int))) (some (.int (i : Int))) (some (.ref st)) v17 v18 v19 v20 v21 v22 v23 v24 v25) H := by
  have nd := scLaw.nd
  have hr1 : Room 1 _ := hr.mono (by decide)
  obtain ⟨t3, h3, k3⟩ := law_i3 (f := f) (cdv := cdv) (outer := outer) (s := s) (Hs := Hs) (E := E) hr B0 gSk MSk FSk bSk gV MkV FV bV (M := M)
  refine ⟨_, (pss_cons (ps_if (pt_cmpR op_eq (pe_op op_mod (pe_op op_fdiv (pv 14) pe_int) pe_int) pe_int (nomark _))
  (pss_cons (ps_set (i := 17) nd rfl (Or.inr rfl) (pm_ GTk T.cl hr1 (pv 16) (pa_cons (pe_callB (call_min2 rfl) (by rfl) zn (by decide +kernel) (pa_cons (pe_op op_mod (pe_op op_fdiv (pv 14) pe_int) pe_int) (pa_cons (pe_callB call_len_seq (by rfl) B0.len PySem.boot_len (pa_cons (pm0_ GFc T.cl hr1 (pv 16)) pa_nil)) pa_nil))) pa_nil)))
  (pss_cons (ps_expr (pm_ GTo T.cl hr1 (pv 16) (pa_cons (pv 17) pa_nil)))
  (pss_cons (ps_asg (pe_lc (own := [("row", 23)]) (g := (gName 23)) (tt := tTest (tOp (rIn K true) (tOp (rIxL K) (tVar 23) (tC (.int 0))) (tVar 17))) rfl nd (pi_list (pe_ix ix_list (pv 12) (pv 15) (fun _ _ => rfl))) (blkOk_by (N := ["script", "tape", "threads", "memory", "stores", "first", "stacks", "phases", "work", "slots", "active", "serial", "rows", "k", "number", "thread", "store", "taken", "slot", "moved", "request", "other", "others", "row", "cell", "call"]) (sc := defScope sLaw) (by decide +kernel)) (fun _ _ _ _ _ => (pg_name (i := 23) nd rfl (Or.inl rfl))) (fun _ _ _ _ _ => pts_one (pt_cmpR op_notIn_seq (pe_ix ix_list (pv 23) pe_int (fun _ _ => rfl)) (pv 17) (by with_unfolding_all rfl))) (fun _ _ _ _ _ => (pv 23))) (pg_sub (pv 12) (pv 15) set_list))
  (pss_one (ps_asg (pe_op op_cat (pe_ix ix_list (pv 12) (pv 15) (fun _ _ => rfl)) (pe_lc (own := [("cell", 24)]) (g := (gName 24)) (tt := tYes) rfl nd (pi_list (pv 17)) (blkOk_by (N := ["script", "tape", "threads", "memory", "stores", "first", "stacks", "phases", "work", "slots", "active", "serial", "rows", "k", "number", "thread", "store", "taken", "slot", "moved", "request", "other", "others", "row", "cell", "call"]) (sc := defScope sLaw) (by decide +kernel)) (fun _ _ _ _ _ => (pg_name (i := 24) nd rfl (Or.inl rfl))) (fun _ _ _ _ _ => pts_nil) (fun _ _ _ _ _ => (pe_lst (pa_cons (pv 24) (pa_cons (pe_callTy (T := "list") (r := rLof K) call_list_of (by rfl) B0.list (by decide +kernel) (pa_cons (pv 10) pa_nil)) (pa_cons (pe_callTy (T := "list") (r := rLof K) call_list_of (by rfl) B0.list (by decide +kernel) (pa_cons (pv 10) pa_nil)) pa_nil))))))) (pg_sub (pv 12) (pv 15) set_list))))))
  pss_nil)
  h3), ?_⟩
  intro De a tp t m sr fi sk ph wk sl al ro ser i v13 nm st v17 v18 v19 v20 v21 v22 v23 v24 v25 H lab la r B n n2 A X e ps sts fis rAs sks phs wks slv qs fr out rows first ρs phx slots nok hi zn hn2 S hp hst kD
  have hsl : sizeLine = 16777216 := sizeLine_eq
  have L := S.lf
  have W := S.lh
  obtain ⟨l1, l2, l3, l4, l5, l6⟩ := S.ln
  refine ⟨_, rfl, _, _, rfl, rfl, ⟨by decide, by decide⟩, _, _, rfl, rfl, (by show (0 : Int) < 3; decide), rfl, _, rfl, ?_⟩
  by_cases c3 : (nm : Int) / 4 % 3 = 0
  · refine iteC1 (by show decide (V.int ((nm : Int) / 4 % 3) = V.int 0) = true; rw [c3]; decide) ?_
    obtain ⟨st', hst', ⟨fa, wa, oa, rw', R0, er, oz⟩, ck, f9, r9⟩ := L.st i hi
    rw [hst] at hst'
    cases hst'
    obtain ⟨dst, hob⟩ := R0.ob
    have zfr : (fr i).length + (upP 0 (rows i)).length ≤ _ := ck.bound 0
    -- taken
    refine ⟨_, rfl, st, dst, _, rfl, hob, rfl, _, rfl, _, _, rfl, rfl, ⟨by decide, by decide⟩, _, _, rfl, rfl, (by show (0 : Int) < 5; decide), ?_⟩
    dsimp only [tNil]
    refine ⟨_, rfl, st, dst, _, rfl, hob, rfl, st, la, (i : Int), fa, wa, oa, fr i, out i, rw', rfl, R0, fun H1 p0 np0 e0 s1 => ?_⟩
    refine ⟨p0, _, rfl, .inl (SqL.of e0), _, _, rfl, ?_⟩
    obtain ⟨kN, hkN, zk1, zk2⟩ : ∃ kN : Nat, (if ((((fr i).map V.int).length : Nat) : Int) < (nm : Int) / 12 % 5 then ((((fr i).map V.int).length : Nat) : Int) else (nm : Int) / 12 % 5) = (kN : Int) ∧ kN ≤ (fr i).length ∧ kN ≤ 4 := by
      rw [List.length_map]
      split
      · exact ⟨(fr i).length, rfl, Nat.le_refl _, by omega⟩
      · exact ⟨((nm : Int) / 12 % 5).toNat, by omega, by omega, by omega⟩
    rw [hkN]
    have lo : (out i).length ≤ (first i).length := by
      have := ck.pm.length_eq
      rw [List.length_append, List.length_append] at this
      omega
    refine ⟨st, la, (i : Int), fa, wa, oa, fr i, out i, rw', kN, rfl, R0.same s1, by omega, fun h => absurd h (by omega), fun _ H2 p2 fa2 np2 nfa2 ne2 e2 R2 kp2 => ?_⟩
    obtain ⟨dst2, hob2⟩ := R2.ob
    refine ⟨_, rfl, st, dst2, _, rfl, hob2, rfl, _, rfl, st, la, (i : Int), fa2, wa, oa, (fr i).drop kN, out i, rw', p2, (fr i).take kN, rfl, R2, e2, (by rw [List.length_take]; omega), fun H3 oa3 noa3 R3 kp3 => ?_⟩
    have zst : lab st = lS i := oz st (.inl rfl)
    have kp13 : ∀ b o, H b = some o → b ≠ st → H3 b = some o := fun b o e n => kp3 b o (kp2 b o (s1 b o e) n) n
    have nfa0 := s1.free nfa2
    have np0' := s1.free np2
    have noa0 : H oa3 = none := by
      cases e : H oa3 with
      | none => rfl
      | some o =>
        by_cases z : oa3 = st
        · rw [z, hob2] at noa3; cases noa3
        · rw [kp2 _ _ (s1 _ _ e) z] at noa3; cases noa3
    have p2_st : p2 ≠ st := (ne_of_none hob np0').symm
    have p2_oa : p2 ≠ oa3 := ne_of_none e2 noa3
    obtain ⟨F3, R3'⟩ := sto_chg (nl := fun b => if b = fa2 ∨ b = oa3 then lS i else 1) R0 oz R3 (.inr ⟨nfa0, if_pos (.inl rfl)⟩) (.inr ⟨noa0, if_pos (.inr rfl)⟩) kp13
    have l3o : ∀ b o, H b = some o → relG lab H (fun b => if b = fa2 ∨ b = oa3 then lS i else 1) b = lab b := fun b o e => relG_old e
    have l3p : relG lab H (fun b => if b = fa2 ∨ b = oa3 then lS i else 1) p2 = 1 := by
      rw [relG_new np0', if_neg]
      rintro (z | z)
      · exact ne2 z
      · exact p2_oa z
    generalize relG lab H (fun b => if b = fa2 ∨ b = oa3 then lS i else 1) = lab3 at F3 R3' l3o l3p
    rw [er] at R3'
    have Wd3 := L.wd.kp1 l3o kp13 zst
    have L3 := L.stp F3 Wd3 rfl L.ps (Int.le_refl _) hst R3' (ck.take kN) r9
    have W3 := W.fr F3
    have ms3 : Ms c H3 lab3 t sks sts phx := fun j g hj hg => by
      have cj : j ≠ i := fun z => by rw [z, hp] at hg; rcases hg with h | h <;> cases h
      obtain ⟨k, s', h1, h2, h3⟩ := S.ms j g hj hg
      exact ⟨k, s', h1, h2, h3.fr F3 cj⟩
    have e3 : H3 p2 = some (.lst (((fr i).take kN).map V.int)) := kp3 _ _ e2 p2_st
    obtain ⟨rA, hrA, hrA2, lrA, hR, hnd⟩ := W3.rw i hi
    have hrv : (rAs.map V.ref)[i]? = some (.ref rA) := by rw [List.getElem?_map, hrA]; rfl
    -- rows[thread] = [row for row in rows[thread] if row[0] not in taken]
    refine ⟨_, rfl, _, rfl, ro, _, (i : Int), .ref rA, rfl, rfl, SqL.of W3.hro.1, atI_nat hrv, ?_⟩
    refine ⟨rA, rfl, ⟨_, SqL.of hrA2⟩, fun D hD => lc_list (K := K) (a := rA) (xs := (ρs i).map fun ρ => V.ref ρ.a) (fun n H' => H' D = some (.lst (((((ρs i).take n).filter fun ρ => !decide (ρ.cell ∈ (fr i).take kN))).map fun ρ => V.ref ρ.a)) ∧ Same H3 H') ⟨upd_same, up1 hD⟩ (fun n H' _ q => SqL.of (q.2 _ _ hrA2)) ?_ ?_⟩
    · rintro n0 x H' hn ⟨hD', s'⟩
      rw [List.getElem?_map] at hn
      obtain ⟨ρ, hρ, rfl⟩ := Option.map_eq_some_iff.mp hn
      obtain ⟨hR1, _⟩ := hR ρ (List.mem_of_getElem? hρ)
      have ha := s' _ _ hR1.ob
      have zpi := (S.zp i hi).1
      have zn' : ((((ρs i).take n0).filter fun ρ => !decide (ρ.cell ∈ (fr i).take kN)).map fun ρ => V.ref ρ.a).length < sizeLine := by
        rw [List.length_map]
        have := List.length_filter_le (fun ρ : Rx => !decide (ρ.cell ∈ (fr i).take kN)) ((ρs i).take n0)
        rw [List.length_take] at this
        omega
      refine ⟨rfl, ?_⟩
      refine ⟨_, rfl, ρ.a, _, 0, .int ρ.cell, rfl, rfl, SqL.of ha, atI_nat (j := 0) rfl, _, rfl, p2, _, rfl, .inl (SqL.of (s' _ _ e3)), rfl, flat_ints _, _, rfl, ?_⟩
      by_cases cm : ρ.cell ∈ (fr i).take kN
      · refine iteC (by rw [if_pos rfl, inV_ints, decide_eq_true cm]; rfl) ⟨?_, s'⟩
        rw [gfil_f hρ (by rw [decide_eq_true cm]; rfl)]
        exact hD'
      · refine iteC1 (by rw [if_pos rfl, inV_ints, decide_eq_false cm]; rfl) ⟨_, rfl, _, hD', zn', ?_, fun b o e => by rw [upd_ne (ne_of_none e hD)]; exact s' b o e⟩
        rw [upd_same, gfil_t hρ (by rw [decide_eq_false cm]; rfl), List.map_append]
        rfl
    rintro H4 ⟨hD4, s4⟩
    rw [List.length_map, List.take_length] at hD4
    have g4 : Gr lab3 H3 (relG lab3 H3 fun _ => 1) H4 := Gr.of s4
    have lD : relG lab3 H3 (fun _ => 1) D = 1 := relG_new hD
    generalize relG lab3 H3 (fun _ => 1) = lab4 at g4 lD
    have L4 := L3.gr g4 (Nat.le_refl _)
    have W4 := W3.gr g4
    have ms4 := ms3.gr g4
    have e4 := s4 _ _ e3
    have l4p := (g4.l _ _ e3).trans l3p
    obtain ⟨rA4, hrA4, hrA42, lrA4, hR4, hnd4⟩ := W4.rw i hi
    have hnd4' : (((ρs i).filter fun ρ => !decide (ρ.cell ∈ (fr i).take kN)).map Rx.c2).Nodup := hnd4.sublist (List.filter_sublist.map _)
    have W5 := W4.setRo (zs := (ρs i).filter fun ρ => !decide (ρ.cell ∈ (fr i).take kN)) (i := i) (rA := D) (by omega) ⟨hD4, lD⟩ (fun ρ h => hR4 ρ (List.mem_filter.mp h).1) hnd4'
    have L5 := L4.set (o := HO.lst ((rAs.set i D).map V.ref)) W4.hro.2
    have ms5 := ms4.set (o := HO.lst ((rAs.set i D).map V.ref)) W4.hro.2 W4.hro.1
    have e5 : upd H4 ro (HO.lst ((rAs.set i D).map V.ref)) p2 = some (.lst (((fr i).take kN).map V.int)) := kl_set W4.hro.2 _ _ e4 (by rw [l4p]; decide)
    refine ⟨_, rfl, _, rfl, ro, _, (i : Int), i, rfl, rfl, W4.hro.1, ixNn (by rw [List.length_map]; omega), ?_⟩
    rw [show (rAs.map V.ref).set i (.ref D) = (rAs.set i D).map V.ref from (List.map_set).symm]
    generalize upd H4 ro (HO.lst ((rAs.set i D).map V.ref)) = H5 at L5 W5 ms5 e5 ⊢
    have hrv5 : ((rAs.set i D).map V.ref)[i]? = some (.ref D) := by rw [List.getElem?_map, List.getElem?_set_self (by omega)]; rfl
    obtain ⟨rA5, hrA5, hrA52, lrA5, hR5, hnd5⟩ := W5.rw i hi
    rw [upN_same] at hrA52 hR5 hnd5
    have hAD : rA5 = D := by
      rw [List.getElem?_set_self (by omega)] at hrA5
      cases hrA5
      rfl
    subst hAD
    -- rows[thread] + [..]
    refine ⟨_, rfl, _, rfl, ro, _, (i : Int), .ref rA5, rfl, rfl, SqL.of W5.hro.1, atI_nat hrv5, ?_⟩
    refine ⟨_, rfl, p2, rfl, ⟨_, SqL.of e5⟩, fun D6 hD6 => lc_list (K := K) (a := p2) (xs := ((fr i).take kN).map V.int) (fun n H' => ∃ zs : List Rx, H' D6 = some (.lst (zs.map fun ρ => V.ref ρ.a)) ∧ Same H5 H' ∧ zs.map Rx.cell = ((fr i).take kN).take n ∧ (∀ ρ, ρ ∈ zs → RxAt H' ρ ∧ ρ.q1 = qs ∧ ρ.q2 = qs ∧ H5 ρ.c2 = none ∧ H5 ρ.a = none ∧ H5 ρ.c1 = none ∧ D6 ≠ ρ.c2 ∧ D6 ≠ ρ.a ∧ D6 ≠ ρ.c1) ∧ (zs.map Rx.c2).Nodup ∧ ∀ ρ ρ', ρ ∈ zs → ρ' ∈ zs → ρ.a ≠ ρ'.c2 ∧ ρ.c1 ≠ ρ'.c2) ⟨[], upd_same, up1 hD6, rfl, fun ρ h => (by cases h), List.nodup_nil, fun ρ ρ' h => (by cases h)⟩ (fun n H' _ q => by obtain ⟨_, _, q, _⟩ := q; exact SqL.of (q _ _ e5)) ?_ ?_⟩
    · rintro n0 x H' hn ⟨zs, hD', s', ez, hz, hzn, hza⟩
      rw [List.getElem?_map] at hn
      obtain ⟨cell, hcell, rfl⟩ := Option.map_eq_some_iff.mp hn
      have hal := s' _ _ W5.hal.1
      have zz : zs.length ≤ 4 := by
        have := congrArg List.length ez
        rw [List.length_map, List.length_take, List.length_take] at this
        omega
      refine ⟨rfl, _, rfl, _, rfl, al, _, rfl, .inl (SqL.of hal), fun c1 n1 => ?_⟩
      have sA := up1 (o := HO.lst (refs qs)) n1
      have eA : upd H' c1 (HO.lst (refs qs)) c1 = some (.lst (refs qs)) := upd_same
      generalize upd H' c1 (HO.lst (refs qs)) = HA at sA eA ⊢
      refine ⟨_, rfl, al, _, rfl, .inl (SqL.of (sA _ _ hal)), fun c2 n2' => ?_⟩
      have sB := up1 (o := HO.lst (refs qs)) n2'
      have eB : upd HA c2 (HO.lst (refs qs)) c2 = some (.lst (refs qs)) := upd_same
      generalize upd HA c2 (HO.lst (refs qs)) = HB at sB eB ⊢
      refine ⟨(by show 3 ≤ sizeLine; omega), fun ra nra => ?_⟩
      have sC := up1 (o := HO.lst [.int cell, .ref c1, .ref c2]) nra
      have eC : upd HB ra (HO.lst [.int cell, .ref c1, .ref c2]) ra = some (.lst [.int cell, .ref c1, .ref c2]) := upd_same
      generalize upd HB ra (HO.lst [.int cell, .ref c1, .ref c2]) = HC at sC eC ⊢
      have sall : Same H' HC := (sA.trans sB).trans sC
      have f2 := sA.free n2'
      have fr' := (sA.trans sB).free nra
      have eA' := sC _ _ (sB _ _ eA)
      have eB' := sC _ _ eB
      have c12 : c1 ≠ c2 := ne_of_none eA n2'
      have r2 : ra ≠ c2 := (ne_of_none eB nra).symm
      have dq : ∀ {b : Addr}, H' b = none → D6 ≠ b := fun {b} h => ne_of_none hD' h
      have kp : ∀ b o, H' b = some o → b ≠ D6 → upd HC D6 (HO.lst (zs.map (fun ρ => V.ref ρ.a) ++ [.ref ra])) b = some o := fun b o e n => by rw [upd_ne n]; exact sall _ _ e
      have tp : ∀ b xs, H' b = some (.tup xs) → upd HC D6 (HO.lst (zs.map (fun ρ => V.ref ρ.a) ++ [.ref ra])) b = some (.tup xs) := fun b xs e => kp b _ e (ne_of e hD' (by intro z; cases z))
      have clq : CL (upd HC D6 (HO.lst (zs.map (fun ρ => V.ref ρ.a) ++ [.ref ra]))) qs := W5.cl.on fun b xs e => tp b xs (s' _ _ e)
      refine ⟨_, sall _ _ hD', (by rw [List.length_map]; omega), zs ++ [⟨ra, c1, c2, cell, qs, qs⟩], ?_, ?_, ?_, ?_, ?_, ?_⟩
      · rw [upd_same, List.map_append]
        rfl
      · exact fun b o e => by rw [upd_ne (ne_of_none e hD6)]; exact sall _ _ (s' b o e)
      · obtain ⟨hl, rfl⟩ := List.getElem?_eq_some_iff.mp hcell
        rw [List.map_append, ez, List.take_succ_eq_append_getElem hl]
        rfl
      · intro ρ hρ
        rcases List.mem_append.mp hρ with h | h
        · obtain ⟨R, h1, h2, h3, h4, h5, h6, h7, h8⟩ := hz ρ h
          exact ⟨⟨kp _ _ R.ob h7.symm, kp _ _ R.l1 h8.symm, kp _ _ R.l2 h6.symm, R.k1.on tp, R.k2.on tp⟩, h1, h2, h3, h4, h5, h6, h7, h8⟩
        · rw [List.mem_singleton.mp h]
          exact ⟨⟨by rw [upd_ne (dq fr').symm]; exact eC, by rw [upd_ne (dq n1).symm]; exact eA', by rw [upd_ne (dq f2).symm]; exact eB', clq, clq⟩, rfl, rfl, s'.free f2, s'.free fr', s'.free n1, dq f2, dq fr', dq n1⟩
      · rw [List.map_append]
        refine List.nodup_append.mpr ⟨hzn, List.nodup_cons.mpr ⟨List.not_mem_nil, List.nodup_nil⟩, fun x hx y hy z => ?_⟩
        obtain ⟨ρ, hρ, rfl⟩ := List.mem_map.mp hx
        rw [List.mem_singleton.mp hy] at z
        exact ne_of_none (hz ρ hρ).1.l2 f2 z
      · intro ρ ρ' hρ hρ'
        rcases List.mem_append.mp hρ with h | h <;> rcases List.mem_append.mp hρ' with h' | h'
        · exact hza ρ ρ' h h'
        · rw [List.mem_singleton.mp h']
          exact ⟨ne_of_none (hz ρ h).1.ob f2, ne_of_none (hz ρ h).1.l1 f2⟩
        · rw [List.mem_singleton.mp h]
          exact ⟨(ne_of_none (hz ρ' h').1.l2 fr').symm, (ne_of_none (hz ρ' h').1.l2 n1).symm⟩
        · rw [List.mem_singleton.mp h, List.mem_singleton.mp h']
          exact ⟨r2, c12⟩
    rintro H7 ⟨zs, hD7, s7, ez, hz, hzn, hza⟩
    rw [List.length_map, List.take_length] at ez
    have zz : zs.length ≤ 4 := by
      have := congrArg List.length ez
      rw [List.length_map, List.length_take] at this
      omega
    have zpi := S.zp i hi
    have zf := List.length_filter_le (fun ρ : Rx => !decide (ρ.cell ∈ (fr i).take kN)) (ρs i)
    refine ⟨rA5, D6, _, _, rfl, rfl, s7 _ _ hrA52, hD7, (by rw [List.length_map, List.length_map]; omega), fun D8 nD8 => ?_⟩
    rw [← List.map_append]
    have s8 := up1 (o := HO.lst ((((ρs i).filter fun ρ => !decide (ρ.cell ∈ (fr i).take kN)) ++ zs).map fun ρ => V.ref ρ.a)) nD8
    have e8 : upd H7 D8 (HO.lst ((((ρs i).filter fun ρ => !decide (ρ.cell ∈ (fr i).take kN)) ++ zs).map fun ρ => V.ref ρ.a)) D8 = some (.lst ((((ρs i).filter fun ρ => !decide (ρ.cell ∈ (fr i).take kN)) ++ zs).map fun ρ => V.ref ρ.a)) := upd_same
    generalize upd H7 D8 (HO.lst ((((ρs i).filter fun ρ => !decide (ρ.cell ∈ (fr i).take kN)) ++ zs).map fun ρ => V.ref ρ.a)) = H8 at s8 e8 ⊢
    have g8 : Gr lab4 H5 (relG lab4 H5 fun b => if b ∈ zs.map Rx.c2 then 3 * i + 5 else 1) H8 := Gr.of (s7.trans s8)
    have lf8 : ∀ b, H5 b = none → (∀ ρ, ρ ∈ zs → b ≠ ρ.c2) → relG lab4 H5 (fun b => if b ∈ zs.map Rx.c2 then 3 * i + 5 else 1) b = 1 := fun b h n => by
      rw [relG_new h, if_neg fun z => by obtain ⟨ρ, hρ, z⟩ := List.mem_map.mp z; exact n ρ hρ z.symm]
    have lc8 : ∀ ρ, ρ ∈ zs → relG lab4 H5 (fun b => if b ∈ zs.map Rx.c2 then 3 * i + 5 else 1) ρ.c2 = 3 * i + 5 := fun ρ h => by
      rw [relG_new (hz ρ h).2.2.2.1, if_pos (List.mem_map.mpr ⟨ρ, h, rfl⟩)]
    generalize relG lab4 H5 (fun b => if b ∈ zs.map Rx.c2 then 3 * i + 5 else 1) = lab8 at g8 lf8 lc8
    have L8 := L5.gr g8 (Nat.le_refl _)
    have W8 := W5.gr g8
    have ms8 := ms5.gr g8
    have l8 : lab8 D8 = 1 := lf8 D8 (s7.free nD8) fun ρ h => (ne_of_none (hz ρ h).1.l2 nD8).symm
    have tp8 : ∀ b xs, H7 b = some (.tup xs) → H8 b = some (.tup xs) := fun b xs e => s8 _ _ e
    obtain ⟨rA8, hrA8, hrA82, lrA8, hR8, hnd8⟩ := W8.rw i hi
    rw [upN_same] at hR8 hnd8
    have hRz : ∀ ρ, ρ ∈ ((ρs i).filter fun ρ => !decide (ρ.cell ∈ (fr i).take kN)) ++ zs → RxAt H8 ρ ∧ lab8 ρ.a = 1 ∧ lab8 ρ.c1 = 1 ∧ lab8 ρ.c2 = 3 * i + 5 := fun ρ h => by
      rcases List.mem_append.mp h with h | h
      · exact hR8 ρ h
      · obtain ⟨R, h1, h2, h3, h4, h5, h6, h7, h8⟩ := hz ρ h
        exact ⟨⟨s8 _ _ R.ob, s8 _ _ R.l1, s8 _ _ R.l2, R.k1.on tp8, R.k2.on tp8⟩, lf8 _ h4 fun ρ' h' => (hza ρ ρ' h h').1, lf8 _ h5 fun ρ' h' => (hza ρ ρ' h h').2, lc8 ρ h⟩
    have hRn : ((((ρs i).filter fun ρ => !decide (ρ.cell ∈ (fr i).take kN)) ++ zs).map Rx.c2).Nodup := by
      rw [List.map_append]
      refine List.nodup_append.mpr ⟨hnd8, hzn, fun x hx y hy z => ?_⟩
      obtain ⟨ρ, hρ, rfl⟩ := List.mem_map.mp hx
      obtain ⟨ρ', hρ', rfl⟩ := List.mem_map.mp hy
      exact ne_of_none (hR5 ρ hρ).1.l2 (hz ρ' hρ').2.2.2.1 z
    have W9 := W8.setRo (i := i) (rA := D8) (by rw [List.length_set]; omega) ⟨e8, l8⟩ hRz hRn
    have L9 := L8.set (o := HO.lst (((rAs.set i rA5).set i D8).map V.ref)) W8.hro.2
    have ms9 := ms8.set (o := HO.lst (((rAs.set i rA5).set i D8).map V.ref)) W8.hro.2 W8.hro.1
    refine ⟨_, rfl, _, rfl, ro, _, (i : Int), i, rfl, rfl, W8.hro.1, ixNn (by rw [List.length_map, List.length_set]; omega), ?_⟩
    rw [show ((rAs.set i rA5).map V.ref).set i (.ref D8) = ((rAs.set i rA5).set i D8).map V.ref from (List.map_set).symm]
    generalize upd H8 ro (HO.lst (((rAs.set i rA5).set i D8).map V.ref)) = H9 at L9 W9 ms9 ⊢
    have eph : upN phx i .inn = phx := by rw [← hp]; exact upN_id
    have hph := S.pp i hi
    rw [hp] at hph
    refine k3 _ _ _ _ _ _ _ _ _ _ _ _ _ _ _ _ _ _ _ _ _ _ _ _ _ _ _ _ _ _ _ _ _ _ _ _ _ _ _ _ _ _ _ _ _ _ _ _ _ _ _ _ _  nok hi (S.nxt (p := .inn) hi L9 W9 (by rw [eph]; exact ms9) (by rw [eph]; exact S.inv) Mv.refl ⟨l3, hph, fun _ _ => rfl⟩ S.sv (fun j hj => by rw [upN_ne hj, upN_ne hj]) (fun ρ h => ?_) (fun h => by rcases h with h | ⟨g, h⟩ | ⟨g, h, _⟩ <;> cases h) (by have := S.zr i hi; omega) (by have := S.zq; omega) ⟨l2, l4, l5, by rw [List.length_set, List.length_set]; exact l6⟩ (by
      rw [upN_same]
      refine ⟨by rw [List.length_append]; omega, fun ρ h => ?_⟩
      rcases List.mem_append.mp h with h | h
      · have := zpi.2 ρ (List.mem_filter.mp h).1
        omega
      · obtain ⟨_, h1, h2, _⟩ := hz ρ h
        have := S.zq
        rw [h1, h2]
        omega)) upN_same hst kD
    rw [upN_same] at h
    rcases List.mem_append.mp h with h | h
    · exact (S.rho i hi ρ (List.mem_filter.mp h).1).sub fun x hx => List.mem_of_mem_drop hx
    · obtain ⟨_, h1, h2, _⟩ := hz ρ h
      have hc : ρ.cell ∈ (fr i).take kN := by rw [← ez]; exact List.mem_map.mpr ⟨ρ, h, rfl⟩
      have er2 : ρ.rho = ⟨ρ.cell, cs_ qs, cs_ qs⟩ := by unfold Rx.rho; rw [h1, h2]
      rw [er2]
      exact RhoOk.new S.inv (ck.apart hc).1 (ck.apart hc).2
  · refine iteC (by simp; intro z; exact c3 (by simpa using z)) ?_
    exact k3 _ _ _ _ _ _ _ _ _ _ _ _ _ _ _ _ _ _ _ _ _ _ _ _ _ _ _ _ _ _ _ _ _ _ _ _ _ _ _ _ _ _ _ _ _ _ _ _ _ _ _ _ _ nok hi S.mono hp hst kD
end
end Dk

set_option maxHeartbeats 4000000
/-! the law k09: a pick of a thread that is in its call -/
namespace Dk
open PySem PySem.Spec PyProof.Rows L2 StX
theorem res_any {K : PySem.W.Frag} {X X' : MS} {t th i : Nat} {H H' : Hp} {v : V} {c : Int} {l : List V} (R : Res K ((X.withCount c).withLog l) t th H H' (.read i) v X') : X'.ps = X.ps := by
  obtain ⟨_, rfl⟩ := R
  rfl
section
variable {P : Program} {w : World} {K : PySem.W.Frag} {mg : Str → Option Value} {base : Heap} {C M fMkV fSk : Addr} {c : Cv} {fdV fdSk : FuncData}
theorem law_in {f : Addr} {cdv : Value} {A0 : Around} {outer : List Env} {s : Shared} {Hs : Hp} {E : XK} (hr : Room 20 (A0.deeper (envOfC "law" (defScope sLaw) s.heap.objs.size f cdv))) (B0 : Bn mg) (TL : LTxt K mg C) (T : STxt K mg c.St) (TM : MTxt K M) (zn : mg "min" = none)
    (gSk : mg "Stack" = some (.ref c.S)) (MSk : Mk K c.S fSk) (FSk : FnOk P w K mg base CX0 1 fSk fdSk ["self", "machine"] (spKInit c.S)) (bSk : Binds K fdSk ["self", "machine"] [])
    (gV : mg "Leaving" = some (.ref c.CL)) (MkV : Mk K c.CL fMkV) (FV : FnOk P w K mg base CX0 3 fMkV fdV ["self", "store"] (spLvInit C c.St c.CL c.gSt c.gEp c.gHe)) (bV : Binds K fdV ["self", "store"] [])
    (GAc : MO P w K mg base CX0 M 11 "access" ["self", "thread", "request"] (spAccL K C M)) (GWo : MO P w K mg base CX0 C 3 "word" ["self", "index"] (spL1 C fun t _ _ i => .int (first t + t + i)))
    (GTk : MO P w K mg base CX0 c.St 1 "take" ["self", "many"] (spTake c.St)) (GTo : MO P w K mg base CX0 c.St 1 "take_out" ["self", "cells"] (spTOut c.St)) (GFc : MO P w K mg base CX0 c.St 1 "free_cells" ["self"] (spFreeC c.St)) :
    ∃ t1, PSs (cxOf CX0 P w K mg base NLaw "law" (defScope sLaw) f cdv A0 outer s Hs E).nox (thenBody sPick) t1 ∧
      ∀ (De : Ends) (a tp : Addr) (t : Nat) (m sr fi sk ph wk sl al ro : Addr) (ser i : Nat) (v13 : Option V) (nm : Nat) (st : Addr) (v17 v18 v19 v20 v21 v22 v23 v24 v25 : Option V) (H : Hp) (lab : Addr → Nat) (la : Addr) (r B n n2 : Nat) (A : Adr) (X : MS) (e : Int) (ps : List V) (sts fis rAs : List Addr) (sks : List V) (phs : List Str) (wks : List Int) (slv : List V) (qs : QL) (fr out : Nat → List Int) (rows : Nat → Rp) (first : Nat → List Int) (ρs : Nat → List Rx) (phx : Nat → Ph) (slots : Nat → V),
        NOk t 3 r → i < t → n < 900 → B + 6 < sizeLine → n ≤ n2 → Ls c C M H lab m la t r B n n2 A X sr fi sk ph wk sl al ro sts fis rAs sks phs wks slv qs first ρs e ps fr out rows phx slots ser → phx i = .inn → sts[i]? = some st →
        Kd De c C M a tp t m la r B n n2 sr fi sk ph wk sl ro v13 (some (.int (nm : Int))) (some (.int (i : Int))) (some (.ref st)) v21 v22 v23 v24 v25 sts fis first →
        t1 De (lw a tp t m sr fi sk ph wk sl al ser ro v13 (some (.int (nm : Int))) (some (.int (i : Int))) (some (.ref st)) v17 v18 v19 v20 v21 v22 v23 v24 v25) H := by
  have nd := scLaw.nd
  have hr3 : Room 3 _ := hr.mono (by decide)
  have hrM : Room 11 _ := hr.mono (by decide)
  obtain ⟨t2, h2, k2⟩ := law_i2 (f := f) (cdv := cdv) (outer := outer) (s := s) (Hs := Hs) (E := E) hr B0 T zn gSk MSk FSk bSk gV MkV FV bV GTk GTo GFc (M := M)
  refine ⟨_, (pss_cons (ps_expr (pm_ GAc TM.cl hrM (pv 3) (pa_cons (pv 15) (pa_cons (pe_tup (pa_cons pe_str (pa_cons (pm_ GWo TL.cl hr3 (pe_fld (pv 3) rfl) (pa_cons pe_int pa_nil)) pa_nil))) pa_nil))))
  (pss_cons (ps_asg (pe_op op_sub (pe_ix ix_list (pv 8) (pv 15) (fun _ _ => rfl)) pe_int) (pg_sub (pv 8) (pv 15) set_list))
  h2)), ?_⟩
  intro De a tp t m sr fi sk ph wk sl al ro ser i v13 nm st v17 v18 v19 v20 v21 v22 v23 v24 v25 H lab la r B n n2 A X e ps sts fis rAs sks phs wks slv qs fr out rows first ρs phx slots nok hi zn' hB hn2 S hp hst kD
  have hsl : sizeLine = 16777216 := sizeLine_eq
  have L := S.lf
  have W := S.lh
  obtain ⟨l1, l2, l3, l4, l5, l6⟩ := S.ln
  obtain ⟨dm, hm⟩ := L.wd.D.ob
  obtain ⟨da, hla⟩ := id L.wd.D.lay
  refine ⟨_, rfl, m, dm, _, rfl, hm, rfl, _, rfl, _, rfl, m, M, dm, _, _, rfl, hm, TM.cl, TM.nL, rfl, ?_⟩
  refine ⟨A.a, da, _, rfl, hla, rfl, A.a, t, 3, r, 0, rfl, ⟨da, hla⟩, ?_⟩
  refine ⟨(by show 2 ≤ sizeLine; omega), fun q hq => ?_⟩
  have s1 := up1 (o := HO.tup [V.str "read", V.int (Dk.first (t : Int) + (t : Int) + 0)]) hq
  have e1 : upd H q (HO.tup [V.str "read", V.int (Dk.first (t : Int) + (t : Int) + 0)]) q = some (.tup (Rq.read (1 + t + t)).vs) := by
    rw [upd_same]
    show some (HO.tup [V.str "read", V.int (Dk.first (t : Int) + (t : Int) + 0)]) = some (HO.tup [V.str "read", V.int ((1 + t + t : Nat) : Int)])
    rw [show Dk.first (t : Int) + (t : Int) + 0 = ((1 + t + t : Nat) : Int) by unfold Dk.first; omega]
  have e0 : ∀ Q : Prop, Q → Q := fun _ h => h
  dsimp only [tNil]
  generalize upd H q (HO.tup [V.str "read", V.int (Dk.first (t : Int) + (t : Int) + 0)]) = H1 at s1 e1 ⊢
  have g1 : Gr lab H (relG lab H fun _ => 1) H1 := Gr.of s1
  generalize relG lab H (fun _ => 1) = lab1 at g1
  have L1 := L.gr g1 (Nat.le_refl _)
  have W1 := W.gr g1
  have ms1 := Ms.gr S.ms g1
  have t3 := nok.t3
  refine ⟨m, t, 3, r, i, B, A, X, .read (1 + t + t), q, rfl, nok, L1.wd.D, hi, e1, (by show 1 + t + t < 1 + t + (t + 3 + r); omega), L1.wd.so, hB, trivial, trivial, fun v x p A' X' H2 ea R ep LI so2 D2 st2 => ?_⟩
  obtain ⟨Wd2, F2⟩ := Wd.next (H2 := H2) (i := t) L1.wd st2 ea D2 so2 (fun _ => False) (fun b o e _ => e) (fun b y => y.elim) (fun _ => 0)
  generalize relab lab1 H1 H2 (fun _ => 0) = lab2 at Wd2 F2
  have eps : X'.ps = .int e :: ps := (res_any R).trans L.ps
  have L2' : LF c C M H2 lab2 m la t r (B + 2) A' X' e ps sts fr out rows first := ⟨Wd2, ea.trans L1.lay, eps, fun j hj => let ⟨s', h1, h2, h3⟩ := L1.st j hj; ⟨s', h1, h2.fr F2 (by omega), h3⟩⟩
  have W2 := W1.fr F2
  have ms2 : Ms c H2 lab2 t sks sts phx := fun j g hj hg => let ⟨k, s', h1, h2, h3⟩ := ms1 j g hj hg; ⟨k, s', h1, h2, h3.fr F2 (by omega)⟩
  obtain ⟨wv, hwv⟩ : ∃ v, wks[i]? = some v := ⟨_, List.getElem?_eq_getElem (by omega)⟩
  have hwv' : (wks.map V.int)[i]? = some (.int wv) := by rw [List.getElem?_map, hwv]; rfl
  refine ⟨_, rfl, _, rfl, wk, _, (i : Int), .int wv, rfl, rfl, SqL.of W2.hwk.1, atI_nat hwv', _, _, rfl, rfl, ?_⟩
  refine ⟨_, rfl, _, rfl, wk, _, (i : Int), i, rfl, rfl, W2.hwk.1, ixNn (by rw [List.length_map]; omega), ?_⟩
  have L3 := L2'.set (o := HO.lst ((wks.set i (wv - 1)).map V.int)) W2.hwk.2
  have W3 := W2.setWk (wks.set i (wv - 1))
  have ms3 := ms2.set (o := HO.lst ((wks.set i (wv - 1)).map V.int)) W2.hwk.2 W2.hwk.1
  dsimp only
  rw [show (wks.map V.int).set i (.int (wv - 1)) = (wks.set i (wv - 1)).map V.int from (List.map_set).symm]
  generalize upd H2 wk (HO.lst ((wks.set i (wv - 1)).map V.int)) = H3 at L3 W3 ms3 ⊢
  exact k2 _ _ _ _ _ _ _ _ _ _ _ _ _ _ _ _ _ _ _ _ _ _ _ _ _ _ _ _ _ _ _ _ _ _ _ _ _ _ _ _ _ _ _ _ _ _ _ _ _ _ _ _ _  nok hi zn' hn2 ⟨L3, W3, S.inv, ms3, S.pp, S.sv, S.rho, S.oo, S.asc, ⟨l1, l2, l3, by rw [List.length_set]; exact l4, l5, l6⟩, S.zr, S.zq, S.zp⟩ hp hst kD
end
end Dk

set_option maxHeartbeats 4000000
/-! the law k09: its picks -/
namespace Dk
open PySem PySem.Spec PyProof.Rows L2 StX
section
variable {P : Program} {w : World} {K : PySem.W.Frag} {mg : Str → Option Value} {base : Heap} {C M fE fL fMkE fMkV fSk : Addr} {c : Cv} {fdE fdV fdSk : FuncData}
theorem law_12 {f : Addr} {cdv : Value} {A0 : Around} {outer : List Env} {s : Shared} {Hs : Hp} {E : XK} (hr : Room 20 (A0.deeper (envOfC "law" (defScope sLaw) s.heap.objs.size f cdv))) (B0 : Bn mg) (KTt : KT P w K mg base c C fE fL) (TL : LTxt K mg C) (T : STxt K mg c.St) (TM : MTxt K M) (TK : KTx K c.S) (zn : mg "min" = none)
    (gSk : mg "Stack" = some (.ref c.S)) (MSk : Mk K c.S fSk) (FSk : FnOk P w K mg base CX0 1 fSk fdSk ["self", "machine"] (spKInit c.S)) (bSk : Binds K fdSk ["self", "machine"] [])
    (gE : mg "Entering" = some (.ref c.CE)) (MkE : Mk K c.CE fMkE) (FE : FnOk P w K mg base CX0 2 fMkE fdE ["self", "store"] (spEnInit C c.St c.CE c.gE)) (bE : Binds K fdE ["self", "store"] [])
    (gV : mg "Leaving" = some (.ref c.CL)) (MkV : Mk K c.CL fMkV) (FV : FnOk P w K mg base CX0 3 fMkV fdV ["self", "store"] (spLvInit C c.St c.CL c.gSt c.gEp c.gHe)) (bV : Binds K fdV ["self", "store"] [])
    (GSt : MO P w K mg base CX0 c.S 18 "step" ["self", "memory", "thread"] (spKStL P w K mg base 6 c.S C M)) (GPk : MO P w K mg base CX0 M 8 "peek" ["self", "cell"] (spPeek C M)) (GLg : MO P w K mg base CX0 M 1 "log" ["self"] (spLog C M))
    (GAc : MO P w K mg base CX0 M 11 "access" ["self", "thread", "request"] (spAccL K C M)) (GWo : MO P w K mg base CX0 C 3 "word" ["self", "index"] (spL1 C fun t _ _ i => .int (first t + t + i)))
    (GTk : MO P w K mg base CX0 c.St 1 "take" ["self", "many"] (spTake c.St)) (GTo : MO P w K mg base CX0 c.St 1 "take_out" ["self", "cells"] (spTOut c.St)) (GFc : MO P w K mg base CX0 c.St 1 "free_cells" ["self"] (spFreeC c.St))
    (GKn : GO P w K mg base CX0 1 "_law_known" ["rows", "active"] spKnown) (GHd : GO P w K mg base CX0 2 "_law_held" ["store", "rows", "active"] (spHeld c.St)) (GWh : GO P w K mg base CX0 2 "_law_whole" ["store", "first"] (spLWhole c.St)) (GSl : GO P w K mg base CX0 9 "_law_slots" ["memory", "active", "slots"] (spLSlots C M))
    (GAt : GO P w K mg base CX0 1 "_law_at" ["tape", "k"] (spAt K)) (GAl : GO P w K mg base CX0 19 "_law_alone" ["memory", "store", "thread"] (spAlone c C M)) :
    ∃ t1, PSs (cxOf CX0 P w K mg base NLaw "law" (defScope sLaw) f cdv A0 outer s Hs E).nox ((defBody sLaw).drop 12) t1 ∧
      ∀ (De : Ends) (a tp : Addr) (t : Nat) (m sr fi sk ph wk sl al ro : Addr) (v13 v14 v15 v16 v17 v18 v19 v20 v21 v22 v23 v24 v25 : Option V) (H : Hp) (lab : Addr → Nat) (la : Addr) (r B : Nat) (A : Adr) (X : MS) (e : Int) (ps : List V) (sts fis rAs : List Addr) (sks : List V) (phs : List Str) (wks : List Int) (slv : List V) (qs : QL) (fr out : Nat → List Int) (rows : Nat → Rp) (first : Nat → List Int) (ρs : Nat → List Rx) (phx : Nat → Ph) (slots : Nat → V),
        NOk t 3 r → 1 ≤ t → B + 10000 < sizeLine → Small (first t) → (first t).length ≤ 3780 → first (t + 1) = [(tp : Int)] → Ls c C M H lab m la t r B 0 0 A X sr fi sk ph wk sl al ro sts fis rAs sks phs wks slv qs first ρs e ps fr out rows phx slots 0 → (∀ H', De.rt (.bl true) H') →
        t1 De (lw a tp t m sr fi sk ph wk sl al (0 : Nat) ro v13 v14 v15 v16 v17 v18 v19 v20 v21 v22 v23 v24 v25) H := by
  have nd := scLaw.nd
  have hr1 : Room 1 _ := hr.mono (by decide)
  obtain ⟨ti, hin, ki⟩ := law_in (f := f) (cdv := cdv) (outer := outer) (s := s) (Hs := Hs) (E := E) hr B0 TL T TM zn gSk MSk FSk bSk gV MkV FV bV GAc GWo GTk GTo GFc
  obtain ⟨tg, hgo, kg⟩ := law_go (f := f) (cdv := cdv) (outer := outer) (s := s) (Hs := Hs) (E := E) hr B0 KTt TM TK gSk MSk FSk bSk gE MkE FE bE GSt GPk GLg
  obtain ⟨t4, h4, k4⟩ := law_b4 (f := f) (cdv := cdv) (outer := outer) (s := s) (Hs := Hs) (E := E) hr B0 GKn GHd GWh GSl
  obtain ⟨t13, h13, k13⟩ := law_fin (f := f) (cdv := cdv) (outer := outer) (s := s) (Hs := Hs) (E := E) hr B0 TM GPk GAl
  have hT : PSs (cxOf CX0 P w K mg base NLaw "law" (defScope sLaw) f cdv A0 outer s Hs E).nox ((loopBody ((defBody sLaw).getD 12 (.Pass ⟨0, 0, 0, 0⟩))).drop 3) _ := pss_cons (ps_if (pt_cmpR op_eq (pe_ix ix_list (pv 7) (pv 15) (fun _ _ => rfl)) pe_str (nomark _)) hin hgo) h4
  refine ⟨_, pss_cons (ps_for PassesOwn.never rfl (pi_range1 (by rfl) B0.range (pa_cons (pe_callB (call_min2 rfl) (by rfl) zn (by decide +kernel) (pa_cons pe_int (pa_cons (pe_callB (call_max2 rfl) (by rfl) T.max (by decide +kernel) (pa_cons pe_int (pa_cons (pe_op op_sub (pe_callB call_len_seq (by rfl) B0.len PySem.boot_len (pa_cons (pv 1) pa_nil)) pe_int) pa_nil))) pa_nil))) pa_nil)) (pg_name (i := 13) nd rfl (Or.inl rfl))
    (pss_cons (ps_set (i := 14) nd rfl (Or.inl rfl) (pc_ GAt hr1 (pa_cons (pv 1) (pa_cons (pe_op op_add (pv 13) pe_int) pa_nil))))
  (pss_cons (ps_set (i := 15) nd rfl (Or.inr rfl) (pe_op op_modN (pv 14) (pv 2)))
  (pss_cons (ps_set (i := 16) nd rfl (Or.inl rfl) (pe_ix ix_list (pv 4) (pv 15) (fun _ _ => rfl)))
  hT)))) h13, ?_⟩
  intro De a tp t m sr fi sk ph wk sl al ro v13 v14 v15 v16 v17 v18 v19 v20 v21 v22 v23 v24 v25 H lab la r B A X e ps sts fis rAs sks phs wks slv qs fr out rows first ρs phx slots nok ht hB hsm hml htp S kD
  have hsl : sizeLine = 16777216 := sizeLine_eq
  obtain ⟨htp1, htp2⟩ := S.lh.tf tp (by rw [htp]; exact List.mem_singleton.mpr rfl)
  obtain ⟨N, hN, zN⟩ : ∃ N : Nat, (if (if ((((first t).map V.int).length : Nat) : Int) - 2 > 0 then ((((first t).map V.int).length : Nat) : Int) - 2 else 0) < 200 then (if ((((first t).map V.int).length : Nat) : Int) - 2 > 0 then ((((first t).map V.int).length : Nat) : Int) - 2 else 0) else 200) = (N : Int) ∧ N ≤ 200 := by
    generalize ((((first t).map V.int).length : Nat) : Int) = z
    by_cases h1 : z - 2 > 0
    · rw [if_pos h1]
      by_cases h2 : z - 2 < 200
      · rw [if_pos h2]
        exact ⟨(z - 2).toNat, by omega, by omega⟩
      · rw [if_neg h2]
        exact ⟨200, rfl, Nat.le_refl _⟩
    · rw [if_neg h1]
      exact ⟨0, rfl, by omega⟩
  refine ⟨_, rfl, tp, _, rfl, .inl (SqL.of htp1), _, _, rfl, rfl, _, _, rfl, _, _, rfl, ?_⟩
  rw [hN]
  refine ⟨_, rfl, by omega, by omega, for_range (lo := 0) (n := (N : Int).toNat) (fun n σ H' => ∃ (v13 v14 v15 v16 v17 v18 v19 v20 v21 v22 v23 v24 v25 : Option V) (al : Addr) (ser : Nat) (lab : Addr → Nat) (A : Adr) (X : MS) (e : Int) (ps : List V) (rAs : List Addr) (sks : List V) (phs : List Str) (wks : List Int) (slv : List V) (qs : QL) (ρs : Nat → List Rx) (fr out : Nat → List Int) (rows : Nat → Rp) (phx : Nat → Ph) (slots : Nat → V), σ = lw a tp t m sr fi sk ph wk sl al (ser : Int) ro v13 v14 v15 v16 v17 v18 v19 v20 v21 v22 v23 v24 v25 ∧ Ls c C M H' lab m la t r (B + 2 * n) n (n * (n + 1)) A X sr fi sk ph wk sl al ro sts fis rAs sks phs wks slv qs first ρs e ps fr out rows phx slots ser) ⟨_, _, _, _, _, _, _, _, _, _, _, _, _, al, 0, lab, A, X, e, ps, rAs, sks, phs, wks, slv, qs, ρs, fr, out, rows, phx, slots, rfl, S⟩ ?_ ?_⟩
  · clear S htp1 htp2
    rintro n σ H1 hn ⟨v13, v14, v15, v16, v17, v18, v19, v20, v21, v22, v23, v24, v25, al, ser, lab, A, X, e, ps, rAs, sks, phs, wks, slv, qs, ρs, fr, out, rows, phx, slots, rfl, S⟩
    have hn' : n < 200 := by omega
    obtain ⟨htp1, htp2⟩ := S.lh.tf tp (by rw [htp]; exact List.mem_singleton.mpr rfl)
    obtain ⟨nm, hnm⟩ : ∃ nm : Nat, atD (first t) (n + 1) = (nm : Int) := ⟨(atD (first t) (n + 1)).toNat, by have := (atD_small (k := n + 1) hsm).1; omega⟩
    refine ⟨_, rfl, _, rfl, _, _, rfl, rfl, tp, first t, n + 1, by simp, SqL.of htp1, ?_⟩
    rw [hnm]
    have hit : nm % t < t := Nat.mod_lt _ (by omega)
    refine ⟨_, rfl, _, rfl, _, _, rfl, rfl, (by omega), ?_⟩
    have hfm : (nm : Int).fmod (t : Int) = ((nm % t : Nat) : Int) := by
      rw [Int.fmod_eq_emod_of_nonneg _ (by omega)]
      rfl
    show gName 15 (V.int ((nm : Int).fmod (t : Int))) _ _ _
    rw [hfm]
    generalize nm % t = i at hit
    obtain ⟨l1, l2, l3, l4, l5, l6⟩ := S.ln
    obtain ⟨st, hst⟩ : ∃ v, sts[i]? = some v := ⟨_, List.getElem?_eq_getElem (by omega)⟩
    have hsv : (sts.map V.ref)[i]? = some (.ref st) := by rw [List.getElem?_map, hst]; rfl
    refine ⟨_, rfl, _, rfl, sr, _, (i : Int), .ref st, rfl, rfl, SqL.of S.lh.hsr.1, atI_nat hsv, ?_⟩
    have hpp := S.pp i hit
    have hpv : (phs.map V.str)[i]? = some (.str (phS (phx i))) := by rw [List.getElem?_map, hpp]; rfl
    refine ⟨_, rfl, _, rfl, ph, _, (i : Int), .str (phS (phx i)), rfl, rfl, SqL.of S.lh.hph.1, atI_nat hpv, rfl, _, rfl, ?_⟩
    have nn1 : n ≤ n * (n + 1) := Nat.le_mul_of_pos_right _ (by omega)
    have key : ∀ De' : Ends, (De'.nx = fun σ H' => ∃ (v13 v14 v15 v16 v17 v18 v19 v20 v21 v22 v23 v24 v25 : Option V) (al : Addr) (ser : Nat) (lab : Addr → Nat) (A : Adr) (X : MS) (e : Int) (ps : List V) (rAs : List Addr) (sks : List V) (phs : List Str) (wks : List Int) (slv : List V) (qs : QL) (ρs : Nat → List Rx) (fr out : Nat → List Int) (rows : Nat → Rp) (phx : Nat → Ph) (slots : Nat → V), σ = lw a tp t m sr fi sk ph wk sl al (ser : Int) ro v13 v14 v15 v16 v17 v18 v19 v20 v21 v22 v23 v24 v25 ∧ Ls c C M H' lab m la t r (B + 2 * (n + 1)) (n + 1) ((n + 1) * (n + 1 + 1)) A X sr fi sk ph wk sl al ro sts fis rAs sks phs wks slv qs first ρs e ps fr out rows phx slots ser) → Kd ⟨t4 De', De'.rt, De'.bk, De'.ct⟩ c C M a tp t m la r (B + 2 * n) n (n * (n + 1)) sr fi sk ph wk sl ro (some (.int (0 + (n : Int)))) (some (.int (nm : Int))) (some (.int (i : Int))) (some (.ref st)) v21 v22 v23 v24 v25 sts fis first := by
      intro De' hDe' v17 v18 v19 v20 al ser H2 lab2 A2 X2 e2 ps2 rAs2 sks2 phs2 wks2 slv2 qs2 ρs2 fr2 out2 rows2 phx2 slots2 S2
      have zq2 := S2.zq
      have nz : n * (n + 1) ≤ 200 * 201 := Nat.mul_le_mul (by omega) (by omega)
      refine k4 De' a tp t m sr fi sk ph wk sl al ser ro _ _ _ _ _ _ _ _ _ _ _ _ _ H2 lab2 la r (B + 2 * n + 2) A2 X2 e2 ps2 sts fis rAs2 sks2 phs2 wks2 slv2 qs2 fr2 out2 rows2 first ρs2 phx2 slots2 ser nok S2.lf S2.lh S2.inv S2.sv S2.rho S2.asc (by omega) (fun j hj ρ h => by have := (S2.zp j hj).2 ρ h; omega) fun H3 ρs3 v21' K3 L3 W3 rho3 hb3 => ?_
      rw [hDe']
      refine ⟨_, _, _, _, _, _, _, _, _, _, _, _, _, al, ser, lab2, A2, X2, e2, ps2, rAs2, sks2, phs2, wks2, slv2, qs2, ρs3, fr2, out2, rows2, phx2, slots2, rfl, L3, W3, S2.inv, fun j g hj hg => ?_, S2.pp, S2.sv, rho3, S2.oo, S2.asc, S2.ln, S2.zr, S2.zq, fun j hj => ?_⟩
      · obtain ⟨k, s', h1, h2, h3⟩ := S2.ms j g hj hg
        exact ⟨k, s', h1, h2, h3.on (fun b o e hb => ⟨K3 b o e (.inr fun i' => by rw [hb]; show 3 * j + 3 ≠ 3 * i' + 5; omega), hb⟩) fun b o e im => K3 b o e (.inl im)⟩
      · obtain ⟨z1, z2⟩ := S2.zp j hj
        obtain ⟨a1, ha1, ha2, la1, _⟩ := S2.lh.rw j hj
        obtain ⟨a2, hb1, hb2, _⟩ := W3.rw j hj
        rw [ha1] at hb1
        cases hb1
        have ha3 := K3 _ _ ha2 (.inr fun i' => by rw [la1]; omega)
        rw [ha3] at hb2
        have el : ((ρs2 j).map fun ρ => V.ref ρ.a) = (ρs3 j).map fun ρ => V.ref ρ.a := by injection hb2 with q; injection q
        have el := congrArg List.length el
        rw [List.length_map, List.length_map] at el
        refine ⟨by omega, fun ρ h => ?_⟩
        obtain ⟨ρ0, h0, e1, e2⟩ := hb3 j hj ρ h
        obtain ⟨y1, y2⟩ := z2 ρ0 h0
        rw [e1]
        have ez : (n + 1) * (n + 1 + 1) = n * (n + 1) + 2 * (n + 1) := by
          rw [Nat.mul_add, Nat.add_mul n 1 (n + 1)]
          omega
        exact ⟨y1, by omega⟩
    by_cases cp : phx i = .inn
    · refine iteC1 (by rw [cp]; decide +kernel) ?_
      exact ki _ _ _ _ _ _ _ _ _ _ _ _ _ _ _ _ _ _ _ _ _ _ _ _ _ _ _ _ _ _ _ _ _ _ _ _ _ _ _ _ _ _ _ _ _ _ _ _ _ _ _ _ _ nok hit (by omega) (by omega) nn1 S cp hst (key _ rfl)
    · refine iteC ?_ ?_
      · cases hq : phx i with
        | inn => exact absurd hq cp
        | out => exact (show decide (V.str ("out" : Str) = V.str ("in" : Str)) = false by decide +kernel)
        | en g => exact (show decide (V.str ("entering" : Str) = V.str ("in" : Str)) = false by decide +kernel)
        | lv g => exact (show decide (V.str ("leaving" : Str) = V.str ("in" : Str)) = false by decide +kernel)
      · exact kg _ _ _ _ _ _ _ _ _ _ _ _ _ _ _ _ _ _ _ _ _ _ _ _ _ _ _ _ _ _ _ _ _ _ _ _ _ _ _ _ _ _ _ _ _ _ _ _ _ _ _ _ _ nok hit (by omega) (by omega) S cp hst (key _ rfl)
  · rintro σ H1 ⟨v13, v14, v15, v16, v17, v18, v19, v20, v21, v22, v23, v24, v25, al, ser, lab, A, X, e, ps, rAs, sks, phs, wks, slv, qs, ρs, fr, out, rows, phx, slots, rfl, S⟩
    refine k13 _ _ _ _ _ _ _ _ _ _ _ _ _ _ _ _ _ _ _ _ _ _ _ _ _ _ _ _ lab la r _ A X e ps sts fr out rows first phs nok ?_ S.lf S.inv.len S.lh.hsr.1 S.lh.hsr.2 S.lh.hph.1 S.lh.hph.2 S.ln.2.2.1 (fun j hj => ?_) kD
    · have : ((N : Int).toNat) ≤ 200 := by omega
      omega
    · have hjt : j < t := by
        have := (List.getElem?_eq_some_iff.mp hj).1
        have := S.ln.2.2.1
        omega
      have hpp := S.pp j hjt
      rw [hj] at hpp
      have ho : phx j = .out := by
        cases hq : phx j with
        | out => rfl
        | inn => rw [hq] at hpp; exact absurd (show some ("out" : Str) = some ("in" : Str) from hpp) (by decide +kernel)
        | en g => rw [hq] at hpp; exact absurd (show some ("out" : Str) = some ("entering" : Str) from hpp) (by decide +kernel)
        | lv g => rw [hq] at hpp; exact absurd (show some ("out" : Str) = some ("leaving" : Str) from hpp) (by decide +kernel)
      refine ⟨S.oo j hjt (.inl ho), ?_⟩
      have own := S.inv.iph j hjt
      rw [ho] at own
      exact own
end
end Dk

set_option maxHeartbeats 4000000
/-! the law k09: its lists -/
namespace Dk
open PySem PySem.Spec PyProof.Rows L2 StX
section
variable {P : Program} {w : World} {K : PySem.W.Frag} {mg : Str → Option Value} {base : Heap} {C M : Addr} {c : Cv}
theorem rep_t {x : V} {t : Nat} : (List.replicate ((t : Int).toNat) [x]).flatten = List.replicate t x := by
  rw [Int.toNat_natCast]
  exact List.flatten_replicate_singleton
/-- behind the law's begin -/
def K12 (t12 : TS) (c : Cv) (C M : Addr) : Prop :=
      ∀ (De : Ends) (a tp : Addr) (t : Nat) (m sr fi sk ph wk sl al ro : Addr) (v13 v14 v15 v16 v17 v18 v19 v20 v21 v22 v23 v24 v25 : Option V) (H : Hp) (lab : Addr → Nat) (la : Addr) (r B : Nat) (A : Adr) (X : MS) (e : Int) (ps : List V) (sts fis rAs : List Addr) (sks : List V) (phs : List Str) (wks : List Int) (slv : List V) (qs : QL) (fr out : Nat → List Int) (rows : Nat → Rp) (first : Nat → List Int) (ρs : Nat → List Rx) (phx : Nat → Ph) (slots : Nat → V),
        NOk t 3 r → 1 ≤ t → B + 10000 < sizeLine → Small (first t) → (first t).length ≤ 3780 → first (t + 1) = [(tp : Int)] → Ls c C M H lab m la t r B 0 0 A X sr fi sk ph wk sl al ro sts fis rAs sks phs wks slv qs first ρs e ps fr out rows phx slots 0 → (∀ H', De.rt (.bl true) H') →
        t12 De (lw a tp t m sr fi sk ph wk sl al (0 : Nat) ro v13 v14 v15 v16 v17 v18 v19 v20 v21 v22 v23 v24 v25) H
theorem law_4 {f : Addr} {cdv : Value} {A0 : Around} {outer : List Env} {s : Shared} {Hs : Hp} {E : XK} (hr : Room 20 (A0.deeper (envOfC "law" (defScope sLaw) s.heap.objs.size f cdv))) (B0 : Bn mg) (T : STxt K mg c.St) (GFc : MO P w K mg base CX0 c.St 1 "free_cells" ["self"] (spFreeC c.St)) {t12 : TS} (hl : PSs (cxOf CX0 P w K mg base NLaw "law" (defScope sLaw) f cdv A0 outer s Hs E).nox ((defBody sLaw).drop 12) t12) (k12 : K12 t12 c C M) :
    ∃ t1, PSs (cxOf CX0 P w K mg base NLaw "law" (defScope sLaw) f cdv A0 outer s Hs E).nox ((defBody sLaw).drop 4) t1 ∧
      ∀ (De : Ends) (a tp : Addr) (t : Nat) (m sr : Addr) (v5 v6 v7 v8 v9 v10 v11 v12 v13 v14 v15 v16 v17 v18 v19 v20 v21 v22 v23 v24 v25 : Option V) (H : Hp) (lab : Addr → Nat) (la : Addr) (r : Nat) (A : Adr) (X : MS) (sts : List Addr) (frs : List (List Int)) (ms : List Int),
        NOk t 3 r → 1 ≤ t → Small ms → ms.length ≤ 3780 → Wd C M H m t 3 r 0 A X lab → A.a = la → X.ps = .int 0 :: List.replicate t .non → sts.length = t → frs.length = t → H sr = some (.lst (sts.map V.ref)) → lab sr = 1 → H tp = some (.lst (ms.map V.int)) → lab tp = 1 →
        (∀ j s fr, sts[j]? = some s → frs[j]? = some fr → Sto c.St H lab j s la fr [] [] ∧ Asc fr ∧ fr.Nodup ∧ fr.length < 900) → (∀ H', De.rt (.bl true) H') →
        t1 De [some (.ref a), some (.ref tp), some (.int (t : Int)), some (.ref m), some (.ref sr), v5, v6, v7, v8, v9, v10, v11, v12, v13, v14, v15, v16, v17, v18, v19, v20, v21, v22, v23, v24, v25] H := by
  have nd := scLaw.nd
  have hr1 : Room 1 _ := hr.mono (by decide)
  refine ⟨_, (pss_cons (ps_setLc (i := 5) (own := [("store", 16)]) (g := (gName 16)) (tt := tYes) rfl nd rfl rfl (sw_true rfl rfl rfl (by decide +kernel)) (pi_list (pv 4)) (blkOk_by (N := ["script", "tape", "threads", "memory", "stores", "first", "stacks", "phases", "work", "slots", "active", "serial", "rows", "k", "number", "thread", "store", "taken", "slot", "moved", "request", "other", "others", "row", "cell", "call"]) (sc := defScope sLaw) (by decide +kernel)) (fun _ _ _ _ _ => (pg_name (i := 16) nd rfl (Or.inl rfl))) (fun _ _ _ _ _ => pts_nil) (fun _ _ _ _ _ => (pm0_ GFc T.cl hr1 (pv 16))))
  (pss_cons (ps_set (i := 6) nd rfl (Or.inl rfl) (pe_op op_rep (pe_lst (pa_cons pe_non pa_nil)) (pv 2)))
  (pss_cons (ps_set (i := 7) nd rfl (Or.inl rfl) (pe_op op_rep (pe_lst (pa_cons pe_str pa_nil)) (pv 2)))
  (pss_cons (ps_set (i := 8) nd rfl (Or.inl rfl) (pe_op op_rep (pe_lst (pa_cons pe_int pa_nil)) (pv 2)))
  (pss_cons (ps_set (i := 9) nd rfl (Or.inl rfl) (pe_op op_rep (pe_lst (pa_cons pe_non pa_nil)) (pv 2)))
  (pss_cons (ps_set (i := 10) nd rfl (Or.inr rfl) (pe_lst pa_nil))
  (pss_cons (ps_set (i := 11) nd rfl (Or.inl rfl) pe_int)
  (pss_cons (ps_setLc (i := 12) (own := [("thread", 15)]) (g := (gName 15)) (tt := tYes) rfl nd rfl rfl (sw_true rfl rfl rfl (by decide +kernel)) (pi_range1 (by rfl) B0.range (pa_cons (pv 2) pa_nil)) (blkOk_by (N := ["script", "tape", "threads", "memory", "stores", "first", "stacks", "phases", "work", "slots", "active", "serial", "rows", "k", "number", "thread", "store", "taken", "slot", "moved", "request", "other", "others", "row", "cell", "call"]) (sc := defScope sLaw) (by decide +kernel)) (fun _ _ _ _ _ => (pg_name (i := 15) nd rfl (Or.inl rfl))) (fun _ _ _ _ _ => pts_nil) (fun _ _ _ _ _ => (pe_lst pa_nil)))
  hl)))))))), ?_⟩
  intro De a tp t m sr v5 v6 v7 v8 v9 v10 v11 v12 v13 v14 v15 v16 v17 v18 v19 v20 v21 v22 v23 v24 v25 H lab la r A X sts frs ms nok ht1 sm zm Wm hla hps zs zf hsr lsr htp ltp hst kD
  have hsl : sizeLine = 16777216 := sizeLine_eq
  have t3 := nok.t3
  -- first
  refine ⟨_, rfl, sr, rfl, ⟨_, SqL.of hsr⟩, fun D hD => lc_list (K := K) (a := sr) (xs := sts.map V.ref) (fun n H' => ∃ fis : List Addr, H' D = some (.lst (fis.map V.ref)) ∧ Same H H' ∧ fis.length = n ∧ ∀ (j : Nat) (x : Addr) (fr : List Int), fis[j]? = some x → frs[j]? = some fr → H' x = some (.lst (fr.map V.int)) ∧ H x = none ∧ x ≠ D) ⟨[], upd_same, up1 hD, rfl, fun j x fr h => by simp at h⟩ (fun n H' _ q => by obtain ⟨_, _, q, _⟩ := q; exact SqL.of (q _ _ hsr)) ?_ ?_⟩
  · rintro n x H' hn ⟨fis, hD', s', zfi, hfi⟩
    rw [List.getElem?_map] at hn
    obtain ⟨st, hstn, rfl⟩ := Option.map_eq_some_iff.mp hn
    have hlt : n < t := by have := (List.getElem?_eq_some_iff.mp hstn).1; omega
    obtain ⟨fr, hfr⟩ : ∃ fr, frs[n]? = some fr := ⟨_, List.getElem?_eq_getElem (by omega)⟩
    obtain ⟨⟨fa, wa, oa, rw', R0, er, oz⟩, _⟩ := hst n st fr hstn hfr
    have R' := R0.same s'
    obtain ⟨dst, hob⟩ := R'.ob
    refine ⟨rfl, _, rfl, st, dst, _, rfl, hob, rfl, st, la, (n : Int), fa, wa, oa, fr, [], rw', rfl, R', fun H2 p np e2 s2 => ⟨_, s2 _ _ hD', (by rw [List.length_map]; omega), fis ++ [p], ?_, ?_, ?_, ?_⟩⟩
    · rw [upd_same, List.map_append]
      rfl
    · exact fun b o e => by rw [upd_ne (ne_of_none e hD)]; exact s2 _ _ (s' b o e)
    · rw [List.length_append, zfi]
      rfl
    · intro j x fr' hx hfr'
      have pD : p ≠ D := (ne_of_none hD' np).symm
      by_cases cj : j < n
      · rw [List.getElem?_append_left (by omega)] at hx
        obtain ⟨a1, a2, a3⟩ := hfi j x fr' hx hfr'
        exact ⟨by rw [upd_ne a3]; exact s2 _ _ a1, a2, a3⟩
      · have hj : j = n := by
          have := (List.getElem?_eq_some_iff.mp hx).1
          rw [List.length_append] at this
          have : j < fis.length + 1 := this
          omega
        subst hj
        rw [List.getElem?_append_right (by omega), zfi, Nat.sub_self] at hx
        cases hx
        rw [hfr] at hfr'
        cases hfr'
        exact ⟨by rw [upd_ne pD]; exact e2, s'.free np, pD⟩
  rintro H1 ⟨fis, hD1, s1, zfi, hfi⟩
  rw [List.length_map] at zfi
  refine ⟨(by show 1 ≤ sizeLine; omega), fun p2 np2 => ?_⟩
  have s2a := s1.trans (up1 (o := HO.lst [V.non]) np2)
  have e2a : upd H1 p2 (HO.lst [V.non]) p2 = some (.lst [V.non]) := upd_same
  have u2a := up1 (o := HO.lst [V.non]) np2
  generalize upd H1 p2 (HO.lst [V.non]) = H2a at s2a e2a u2a ⊢
  refine ⟨_, rfl, p2, (t : Int), _, rfl, rfl, e2a, by omega, by omega, (by show 1 * ((t : Int).toNat) ≤ sizeLine; omega), fun sk nsk => ?_⟩
  rw [rep_t]
  have u2 := u2a.trans (up1 (o := HO.lst (List.replicate t V.non)) nsk)
  have s2 := s2a.trans (up1 (o := HO.lst (List.replicate t V.non)) nsk)
  have esk : upd H2a sk (HO.lst (List.replicate t V.non)) sk = some (.lst (List.replicate t V.non)) := upd_same
  have nsk' := u2a.free nsk
  generalize upd H2a sk (HO.lst (List.replicate t V.non)) = H2 at u2 s2 esk ⊢
  refine ⟨(by show 1 ≤ sizeLine; omega), fun p3 np3 => ?_⟩
  have s3a := s2.trans (up1 (o := HO.lst [V.str "out"]) np3)
  have e3a : upd H2 p3 (HO.lst [V.str "out"]) p3 = some (.lst [V.str "out"]) := upd_same
  have u3a := up1 (o := HO.lst [V.str "out"]) np3
  generalize upd H2 p3 (HO.lst [V.str "out"]) = H3a at s3a e3a u3a ⊢
  refine ⟨_, rfl, p3, (t : Int), _, rfl, rfl, e3a, by omega, by omega, (by show 1 * ((t : Int).toNat) ≤ sizeLine; omega), fun ph nph => ?_⟩
  rw [rep_t]
  have u3 := u3a.trans (up1 (o := HO.lst (List.replicate t (V.str "out"))) nph)
  have s3 := s3a.trans (up1 (o := HO.lst (List.replicate t (V.str "out"))) nph)
  have eph : upd H3a ph (HO.lst (List.replicate t (V.str "out"))) ph = some (.lst (List.replicate t (V.str "out"))) := upd_same
  have nph' := u3a.free nph
  generalize upd H3a ph (HO.lst (List.replicate t (V.str "out"))) = H3 at u3 s3 eph ⊢
  refine ⟨(by show 1 ≤ sizeLine; omega), fun p4 np4 => ?_⟩
  have s4a := s3.trans (up1 (o := HO.lst [V.int 0]) np4)
  have e4a : upd H3 p4 (HO.lst [V.int 0]) p4 = some (.lst [V.int 0]) := upd_same
  have u4a := up1 (o := HO.lst [V.int 0]) np4
  generalize upd H3 p4 (HO.lst [V.int 0]) = H4a at s4a e4a u4a ⊢
  refine ⟨_, rfl, p4, (t : Int), _, rfl, rfl, e4a, by omega, by omega, (by show 1 * ((t : Int).toNat) ≤ sizeLine; omega), fun wk nwk => ?_⟩
  rw [rep_t]
  have u4 := u4a.trans (up1 (o := HO.lst (List.replicate t (V.int 0))) nwk)
  have s4 := s4a.trans (up1 (o := HO.lst (List.replicate t (V.int 0))) nwk)
  have ewk : upd H4a wk (HO.lst (List.replicate t (V.int 0))) wk = some (.lst (List.replicate t (V.int 0))) := upd_same
  have nwk' := u4a.free nwk
  generalize upd H4a wk (HO.lst (List.replicate t (V.int 0))) = H4 at u4 s4 ewk ⊢
  refine ⟨(by show 1 ≤ sizeLine; omega), fun p5 np5 => ?_⟩
  have s5a := s4.trans (up1 (o := HO.lst [V.non]) np5)
  have e5a : upd H4 p5 (HO.lst [V.non]) p5 = some (.lst [V.non]) := upd_same
  have u5a := up1 (o := HO.lst [V.non]) np5
  generalize upd H4 p5 (HO.lst [V.non]) = H5a at s5a e5a u5a ⊢
  refine ⟨_, rfl, p5, (t : Int), _, rfl, rfl, e5a, by omega, by omega, (by show 1 * ((t : Int).toNat) ≤ sizeLine; omega), fun sl nsl => ?_⟩
  rw [rep_t]
  have u5 := u5a.trans (up1 (o := HO.lst (List.replicate t V.non)) nsl)
  have s5 := s5a.trans (up1 (o := HO.lst (List.replicate t V.non)) nsl)
  have esl : upd H5a sl (HO.lst (List.replicate t V.non)) sl = some (.lst (List.replicate t V.non)) := upd_same
  have nsl' := u5a.free nsl
  generalize upd H5a sl (HO.lst (List.replicate t V.non)) = H5 at u5 s5 esl ⊢
  -- active, serial, rows
  refine ⟨(by show 0 ≤ sizeLine; omega), fun al nal => ?_⟩
  have u6 := up1 (o := HO.lst []) nal
  have s6 := s5.trans u6
  have eal : upd H5 al (HO.lst []) al = some (.lst []) := upd_same
  generalize upd H5 al (HO.lst []) = H6 at u6 s6 eal ⊢
  refine ⟨_, rfl, _, rfl, by omega, by omega, fun ro nro => lc_range (lo := 0) (n := (t : Int).toNat) (fun n H' => ∃ rAs : List Addr, H' ro = some (.lst (rAs.map V.ref)) ∧ Same H6 H' ∧ rAs.length = n ∧ ∀ x, x ∈ rAs → H' x = some (.lst []) ∧ H6 x = none ∧ x ≠ ro) ⟨[], upd_same, up1 nro, rfl, fun x h => by cases h⟩ ?_ ?_⟩
  · rintro n H' hn ⟨rAs, hro', s', zr, hr'⟩
    refine ⟨rfl, ?_⟩
    refine ⟨(by show 0 ≤ sizeLine; omega), fun x nx => ⟨_, up1 nx _ _ hro', (by rw [List.length_map]; omega), rAs ++ [x], ?_, ?_, ?_, ?_⟩⟩
    · rw [upd_same, List.map_append]
      rfl
    · exact fun b o e => by rw [upd_ne (ne_of_none e nro), upd_ne (ne_of_none (s' b o e) nx)]; exact s' b o e
    · rw [List.length_append, zr]
      rfl
    · intro y hy
      have xr : x ≠ ro := (ne_of_none hro' nx).symm
      rcases List.mem_append.mp hy with h | h
      · obtain ⟨a1, a2, a3⟩ := hr' y h
        exact ⟨by rw [upd_ne a3]; exact up1 nx _ _ a1, a2, a3⟩
      · rw [List.mem_singleton.mp h]
        exact ⟨by rw [upd_ne xr]; exact upd_same, s'.free nx, xr⟩
  rintro H7 ⟨rAs, hro7, s7, zr, hr7⟩
  have s17 := s6.trans s7
  -- where each is
  have k3 := u3.trans (u4.trans (u5.trans u6))
  have esk3 := u3 _ _ esk
  have esk4 := u4 _ _ esk3
  have esk5 := u5 _ _ esk4
  have esk6 := u6 _ _ esk5
  have eph4 := u4 _ _ eph
  have eph5 := u5 _ _ eph4
  have eph6 := u6 _ _ eph5
  have ewk5 := u5 _ _ ewk
  have ewk6 := u6 _ _ ewk5
  have esl6 := u6 _ _ esl
  have hsk0 := s1.free nsk'
  have hph0 := s2.free nph'
  have hwk0 := s3.free nwk'
  have hsl0 := s4.free nsl'
  have hal0 := s5.free nal
  have hro0 := s6.free nro
  have g7 : Gr lab H (relG lab H fun b => if b = sk ∨ b = ph ∨ b = wk ∨ b = sl ∨ b = ro then 2 else 1) H7 := Gr.of s17
  have lab2 : ∀ x, H x = none → x = sk ∨ x = ph ∨ x = wk ∨ x = sl ∨ x = ro → relG lab H (fun b => if b = sk ∨ b = ph ∨ b = wk ∨ b = sl ∨ b = ro then 2 else 1) x = 2 := fun x h h' => by rw [relG_new h, if_pos h']
  have lab1 : ∀ x, H x = none → x ≠ sk → x ≠ ph → x ≠ wk → x ≠ sl → x ≠ ro → relG lab H (fun b => if b = sk ∨ b = ph ∨ b = wk ∨ b = sl ∨ b = ro then 2 else 1) x = 1 := fun x h h1 h2 h3 h4 h5 => by
    rw [relG_new h, if_neg]
    rintro (z | z | z | z | z)
    · exact h1 z
    · exact h2 z
    · exact h3 z
    · exact h4 z
    · exact h5 z
  generalize relG lab H (fun b => if b = sk ∨ b = ph ∨ b = wk ∨ b = sl ∨ b = ro then 2 else 1) = lab7 at g7 lab1 lab2
  have Wd7 := Wm.gr g7
  have ltp7 := (g7.l _ _ htp).trans ltp
  have lsr7 := (g7.l _ _ hsr).trans lsr
  have F1 : ∀ j, j < t → (if j < t then (frs[j]?).getD [] else if j = t then ms else [(tp : Int)]) = (frs[j]?).getD [] := fun j h => if_pos h
  have F2 : (if t < t then (frs[t]?).getD [] else if t = t then ms else [(tp : Int)]) = ms := by rw [if_neg (Nat.lt_irrefl t), if_pos rfl]
  have F3 : (if t + 1 < t then (frs[t + 1]?).getD [] else if t + 1 = t then ms else [(tp : Int)]) = [(tp : Int)] := by rw [if_neg (by omega), if_neg (by omega)]
  have fr_at : ∀ j, j < t → ∃ fr, frs[j]? = some fr ∧ (frs[j]?).getD [] = fr := fun j h => by
    obtain ⟨fr, hfr⟩ : ∃ fr, frs[j]? = some fr := ⟨_, List.getElem?_eq_getElem (by omega)⟩
    exact ⟨fr, hfr, by rw [hfr]; rfl⟩
  have st_at : ∀ j, j < t → ∃ x, sts[j]? = some x := fun j h => ⟨_, List.getElem?_eq_getElem (by omega)⟩
  show t12 De (lw a tp t m sr D sk ph wk sl al (0 : Nat) ro v13 v14 v15 v16 v17 v18 v19 v20 v21 v22 v23 v24 v25) H7
  refine k12 De a tp t m sr D sk ph wk sl al ro v13 v14 v15 v16 v17 v18 v19 v20 v21 v22 v23 v24 v25 H7 lab7 la r 0 A X 0 (List.replicate t .non) sts fis rAs (List.replicate t .non) (List.replicate t "out") (List.replicate t 0) (List.replicate t .non) [] (fun j => (frs[j]?).getD []) (fun _ => []) (fun _ => []) (fun j => if j < t then (frs[j]?).getD [] else if j = t then ms else [(tp : Int)]) (fun _ => []) (fun _ => .out) (fun _ => .non) nok ht1 (by omega) (by rw [F2]; exact sm) (by rw [F2]; exact zm) F3 ⟨?_, ?_, ?_, ?_, ?_, ?_, ?_, ?_, ?_, ?_, ?_, ?_, ?_⟩ kD
  · -- lf
    refine ⟨Wd7, hla, hps, fun j hj => ?_⟩
    obtain ⟨x, hx⟩ := st_at j hj
    obtain ⟨fr, hfr, efr⟩ := fr_at j hj
    obtain ⟨R, asc, ndf, zfr⟩ := hst j x fr hx hfr
    rw [F1 j hj, efr]
    exact ⟨x, hx, R.gr g7, ⟨by simp, ndf, fun r h => by cases h⟩, zfr, by decide⟩
  · -- lh
    refine ⟨⟨s17 _ _ hsr, lsr7⟩, ⟨?_, ?_⟩, ⟨s7 _ _ esk6, lab2 _ hsk0 (.inl rfl)⟩, ⟨by rw [List.map_replicate]; exact s7 _ _ eph6, lab2 _ hph0 (.inr (.inl rfl))⟩, ⟨by rw [List.map_replicate]; exact s7 _ _ ewk6, lab2 _ hwk0 (.inr (.inr (.inl rfl)))⟩, ⟨s7 _ _ esl6, lab2 _ hsl0 (.inr (.inr (.inr (.inl rfl))))⟩, ⟨s7 _ _ eal, lab1 al hal0 (ne_of_none esk5 nal).symm (ne_of_none eph5 nal).symm (ne_of_none ewk5 nal).symm (ne_of_none esl nal).symm (ne_of_none eal nro)⟩, ⟨hro7, lab2 _ hro0 (.inr (.inr (.inr (.inr rfl))))⟩, ?_, fun x h => (by cases h), fun x hx => ?_, fun j hj => ?_, fun j hj => ?_⟩
    · exact s7 _ _ (u6 _ _ (u5 _ _ (u4 _ _ (u3 _ _ (u2 _ _ hD1)))))
    · exact lab1 D hD (ne_of_none hD1 nsk') (ne_of_none (u2 _ _ hD1) nph') (ne_of_none (u3 _ _ (u2 _ _ hD1)) nwk') (ne_of_none (u4 _ _ (u3 _ _ (u2 _ _ hD1))) nsl') (ne_of_none (u6 _ _ (u5 _ _ (u4 _ _ (u3 _ _ (u2 _ _ hD1))))) nro)
    · simp only [List.nodup_cons, List.mem_cons, List.not_mem_nil, or_false, not_or]
      exact ⟨⟨ne_of_none esk nph', ne_of_none esk3 nwk', ne_of_none esk4 nsl', ne_of_none esk6 nro⟩, ⟨ne_of_none eph nwk', ne_of_none eph4 nsl', ne_of_none eph6 nro⟩, ⟨ne_of_none ewk nsl', ne_of_none ewk6 nro⟩, ne_of_none esl6 nro, id, List.nodup_nil⟩
    · rw [F3] at hx
      rw [F2, List.mem_singleton.mp hx]
      exact ⟨s17 _ _ htp, ltp7⟩
    · obtain ⟨fr, hfr, efr⟩ := fr_at j hj
      obtain ⟨x, hx⟩ : ∃ x, fis[j]? = some x := ⟨_, List.getElem?_eq_getElem (by omega)⟩
      obtain ⟨a1, a2, a3⟩ := hfi j x fr hx hfr
      rw [F1 j hj, efr]
      exact ⟨x, hx, s7 _ _ (u6 _ _ (u5 _ _ (u4 _ _ (u3 _ _ (u2 _ _ a1))))), lab1 x a2 (ne_of_none a1 nsk') (ne_of_none (u2 _ _ a1) nph') (ne_of_none (u3 _ _ (u2 _ _ a1)) nwk') (ne_of_none (u4 _ _ (u3 _ _ (u2 _ _ a1))) nsl') (ne_of_none (u6 _ _ (u5 _ _ (u4 _ _ (u3 _ _ (u2 _ _ a1))))) nro)⟩
    · obtain ⟨x, hx⟩ : ∃ x, rAs[j]? = some x := ⟨_, List.getElem?_eq_getElem (by omega)⟩
      obtain ⟨a1, a2, a3⟩ := hr7 x (List.mem_of_getElem? hx)
      exact ⟨x, hx, a1, lab1 x (s6.free a2) (ne_of_none esk6 a2).symm (ne_of_none eph6 a2).symm (ne_of_none ewk6 a2).symm (ne_of_none esl6 a2).symm a3, fun ρ h => (by cases h), List.nodup_nil⟩
  · -- inv
    have hnn : ∀ j, j < t → (List.replicate t V.non)[j]? = some .non := fun j hj => by rw [List.getElem?_replicate, if_pos hj]
    exact ⟨List.length_replicate, fun j hj => .inl (hnn j hj), fun c h => (by cases h), fun j hj => hnn j hj⟩
  · exact fun j g hj h => by rcases h with h | h <;> cases h
  · intro j hj
    rw [List.getElem?_replicate, if_pos hj]
    rfl
  · exact fun x h => by cases h
  · exact fun j hj ρ h => by cases h
  · exact fun j hj h => rfl
  · intro j hj
    obtain ⟨x, hx⟩ := st_at j hj
    obtain ⟨fr, hfr, efr⟩ := fr_at j hj
    rw [F1 j hj, efr]
    exact (hst j x fr hx hfr).2.1
  · exact ⟨zs, List.length_replicate, List.length_replicate, List.length_replicate, List.length_replicate, by rw [zr]; omega⟩
  · exact fun j hj => Nat.le_refl _
  · exact Nat.le_refl _
  · exact fun j hj => ⟨Nat.le_refl _, fun ρ h => by cases h⟩
end
end Dk

set_option maxHeartbeats 4000000
/-! the law k09 -/
namespace Dk
open PySem PySem.Spec PyProof.Rows L2 StX
def spLaw (K : PySem.W.Frag) : Sp := fun vs H Q _ => ∃ (a : Addr) (ns : List Int), vs = [.ref a] ∧ SqL K H a (ns.map V.int) ∧ ns.length ≤ 63 ∧ ∀ H', Q (.bl true) H'
theorem so0 {t n : Nat} {tr : Nat → List V} (hI : ∀ j, j < n → ∃ v, tr j = [v]) : SOk (S0 t tr) t n 0 := by
  refine ⟨?_, fun j hj => ?_, fun j hj => ?_, fun th hth => ⟨[], ?_, ?_, ?_⟩, ?_⟩
  · show (V.int 0 :: List.replicate t V.non).length = 1 + t
    rw [List.length_cons, List.length_replicate]
    omega
  · obtain ⟨v, hv⟩ := hI j hj
    show tr j ≠ []
    rw [hv]; simp
  · obtain ⟨v, hv⟩ := hI j hj
    show (tr j).length ≤ 1
    rw [hv]; simp
  · show (List.replicate t ([] : List (Key × V)))[th]? = _
    rw [List.getElem?_replicate, if_pos hth]
    rfl
  · simp
  · simp
  · show ([] : List V).length ≤ 0
    simp
section
variable {P : Program} {w : World} {K : PySem.W.Frag} {mg : Str → Option Value} {base : Heap} {C M fE fL fMkE fMkV fSk fL0 fM0 NV Z : Addr} {c : Cv} {fdE fdV fdSk fdL fdM : FuncData}
theorem ok_law {f : Addr} {fd : FuncData} (F : Fun K "law" "law" sLaw f fd) (B0 : Bn mg) (KTt : KT P w K mg base c C fE fL) (TL : LTxt K mg C) (T : STxt K mg c.St) (TM : MTxt K M) (TK : KTx K c.S) (zn : mg "min" = none)
    (gSk : mg "Stack" = some (.ref c.S)) (MSk : Mk K c.S fSk) (FSk : FnOk P w K mg base CX0 1 fSk fdSk ["self", "machine"] (spKInit c.S)) (bSk : Binds K fdSk ["self", "machine"] [])
    (gE : mg "Entering" = some (.ref c.CE)) (MkE : Mk K c.CE fMkE) (FE : FnOk P w K mg base CX0 2 fMkE fdE ["self", "store"] (spEnInit C c.St c.CE c.gE)) (bE : Binds K fdE ["self", "store"] [])
    (gV : mg "Leaving" = some (.ref c.CL)) (MkV : Mk K c.CL fMkV) (FV : FnOk P w K mg base CX0 3 fMkV fdV ["self", "store"] (spLvInit C c.St c.CL c.gSt c.gEp c.gHe)) (bV : Binds K fdV ["self", "store"] [])
    (GSt : MO P w K mg base CX0 c.S 18 "step" ["self", "memory", "thread"] (spKStL P w K mg base 6 c.S C M)) (GPk : MO P w K mg base CX0 M 8 "peek" ["self", "cell"] (spPeek C M)) (GLg : MO P w K mg base CX0 M 1 "log" ["self"] (spLog C M))
    (GAc : MO P w K mg base CX0 M 11 "access" ["self", "thread", "request"] (spAccL K C M)) (GWo : MO P w K mg base CX0 C 3 "word" ["self", "index"] (spL1 C fun t _ _ i => .int (first t + t + i)))
    (GTk : MO P w K mg base CX0 c.St 1 "take" ["self", "many"] (spTake c.St)) (GTo : MO P w K mg base CX0 c.St 1 "take_out" ["self", "cells"] (spTOut c.St)) (GFc : MO P w K mg base CX0 c.St 1 "free_cells" ["self"] (spFreeC c.St))
    (GKn : GO P w K mg base CX0 1 "_law_known" ["rows", "active"] spKnown) (GHd : GO P w K mg base CX0 2 "_law_held" ["store", "rows", "active"] (spHeld c.St)) (GWh : GO P w K mg base CX0 2 "_law_whole" ["store", "first"] (spLWhole c.St)) (GSl : GO P w K mg base CX0 9 "_law_slots" ["memory", "active", "slots"] (spLSlots C M))
    (GAt : GO P w K mg base CX0 1 "_law_at" ["tape", "k"] (spAt K)) (GAl : GO P w K mg base CX0 19 "_law_alone" ["memory", "store", "thread"] (spAlone c C M)) 
    (gC : mg "Layout" = some (.ref C)) (ML : Mk K C fL0) (FL : FnOk P w K mg base (L2.CX P w) 3 fL0 fdL ["self", "threads", "words", "records"] (spLInit C NV)) (bL : Binds K fdL ["self", "threads", "words", "records"] [])
    (gM : mg "Memory" = some (.ref M)) (MM : Mk K M fM0) (FM : FnOk P w K mg base CX0 7 fM0 fdM ["self", "layout"] (spMInit C M Z)) (bM : Binds K fdM ["self", "layout"] [])
    (GTp : GO P w K mg base CX0 1 "_law_tape" ["script"] (spTape K)) (GLs : GO P w K mg base CX0 6 "_law_store" ["layout", "thread"] (spLStore C c.St)) : FnOk P w K mg base CX0 21 f fd ["script"] (spLaw K) := by
  refine F.ok scLaw (fun vs H Q E h => ?_) (fun cdv A0 outer s H vs Q E hr h => ?_)
  · obtain ⟨a, ns, rfl, _⟩ := h
    rfl
  · obtain ⟨a, ns, rfl, hS, hlen, kQ⟩ := h
    have nd := scLaw.nd
    have hr1 : Room 1 _ := hr.mono (by decide)
    have hr6 : Room 6 _ := hr.mono (by decide)
    have hrL : Room (3 + 1) _ := hr.mono (by decide)
    have hrMm : Room (7 + 1) _ := hr.mono (by decide)
    have hsl : sizeLine = 16777216 := sizeLine_eq
    obtain ⟨t12, h12, k12⟩ := law_12 (f := f) (cdv := cdv) (A0 := A0) (outer := outer) (s := s) (Hs := H) (E := E) hr B0 KTt TL T TM TK zn gSk MSk FSk bSk gE MkE FE bE gV MkV FV bV GSt GPk GLg GAc GWo GTk GTo GFc GKn GHd GWh GSl GAt GAl
    obtain ⟨t4, h4, k4⟩ := law_4 (f := f) (cdv := cdv) (A0 := A0) (outer := outer) (s := s) (Hs := H) (E := E) hr B0 T GFc h12 k12
    refine ⟨_, (pss_cons (ps_set (i := 1) nd rfl (Or.inl rfl) (pc_ GTp hr1 (pa_cons (pv 0) pa_nil)))
  (pss_cons (ps_set (i := 2) nd rfl (Or.inl rfl) (pe_op op_add pe_int (pe_op op_mod (pc_ GAt hr1 (pa_cons (pv 1) (pa_cons pe_int pa_nil))) pe_int)))
  (pss_cons (ps_set (i := 3) nd rfl (Or.inr rfl) (pe_make MM FM hrMm rfl gM bM .nil pass0 (pa_cons (pe_make ML FL hrL rfl gC bL .nil passL (pa_cons (pv 2) (pa_cons pe_int (pa_cons (pe_op op_add pe_int (pe_op op_mul pe_int (pv 2))) pa_nil)))) pa_nil)))
  (pss_cons (ps_setLc (i := 4) (own := [("thread", 15)]) (g := (gName 15)) (tt := tYes) (te := (tCall (spLStore C c.St) [] E0 (tCons (tFld K (tVar 3) "layout") (tCons (tVar 15) tNil)))) rfl nd rfl rfl (sw_true rfl rfl rfl (by decide +kernel)) (pi_range1 (by rfl) B0.range (pa_cons (pv 2) pa_nil)) (blkOk_by (N := ["script", "tape", "threads", "memory", "stores", "first", "stacks", "phases", "work", "slots", "active", "serial", "rows", "k", "number", "thread", "store", "taken", "slot", "moved", "request", "other", "others", "row", "cell", "call"]) (sc := defScope sLaw) (by decide +kernel)) (fun _ _ _ _ _ => (pg_name (i := 15) nd rfl (Or.inl rfl))) (fun _ _ _ _ _ => pts_nil) (fun _ _ _ _ _ => (pc_ GLs hr6 (pa_cons (pe_fld (pv 3) rfl) (pa_cons (pv 15) pa_nil)))))
  h4)))), ?_⟩
    refine ⟨_, rfl, a, ns, rfl, hS, hlen, fun tp ms H1 _ htp sm hml s1 => ?_⟩
    refine ⟨_, rfl, tp, ms, 0, rfl, SqL.of htp, _, _, rfl, rfl, (by show (0 : Int) < 2; decide), _, _, rfl, rfl, ?_⟩
    obtain ⟨t, ht, ht1, ht3⟩ : ∃ t : Nat, 2 + atD ms 0 % 2 = (t : Int) ∧ 1 ≤ t ∧ t ≤ 3 := ⟨(2 + atD ms 0 % 2).toNat, by omega, by omega, by omega⟩
    show gName 2 (V.int (2 + atD ms 0 % 2)) _ _ _
    rw [ht]
    have nok : NOk t 3 (3 + 12 * t) := ⟨ht1, ht3, by decide, by decide, by omega, by omega⟩
    have lk : lok (t : Int) 3 ((3 + 12 * t : Nat) : Int) = true := lok_iff.mpr nok.lok
    refine ⟨_, rfl, _, rfl, _, _, rfl, rfl, .inl ⟨by decide, by decide⟩, _, _, rfl, rfl, ?_⟩
    intro x dx nx ndx ne
    refine ⟨x, dx, t, 3, ((3 + 12 * t : Nat) : Int), by rw [show ((3 + 12 * t : Nat) : Int) = 3 + 12 * (t : Int) by omega]; rfl, upd_same, (fun _ H2 lay kp2 => ⟨rfl, ?_⟩), fun h => by rw [lk] at h; cases h⟩
    have s2 : Same H1 H2 := fun b o e => by
      have b1 : b ≠ x := ne_of_none e nx
      refine kp2 b o ?_ b1
      rw [upd_ne b1, upd_ne (ne_of_none e ndx)]
      exact e
    obtain ⟨da, ha⟩ := lay
    refine fun m dx2 nx2 ndx2 ne2 => ?_
    have s3 : Same H2 (upd (upd H2 dx2 (.own m)) m (.ins M dx2 [])) := fun b o e => by
      rw [upd_ne (ne_of_none e nx2), upd_ne (ne_of_none e ndx2)]
      exact e
    refine ⟨m, dx2, x, t, 3, 3 + 12 * t, rfl, upd_same, ⟨da, s3 _ _ ha⟩, nok, fun A tr H4 hA DM hI kp fr4 => ⟨rfl, ?_⟩⟩
    have s4 : Same H2 H4 := fun b o e => kp b o (s3 b o e) (ne_of_none e nx2)
    have ha4 := s4 _ _ ha
    have htp4 : H4 tp = some (.lst (ms.map V.int)) := s4 _ _ (s2 _ _ htp)
    have tpF : ¬ Foot m A (t + 3 + (3 + 12 * t)) tp := fun hf => by
      rcases fr4 tp hf with e | e
      · exact ne_of_none (s2 _ _ htp) nx2 e
      · rw [s3 _ _ (s2 _ _ htp)] at e
        cases e
    have so4 : SOk (S0 t tr) t (t + 3 + (3 + 12 * t)) 0 := so0 fun j hj => let ⟨v, e, _⟩ := hI j hj; ⟨v, e⟩
    have Wd4 : Wd C M H4 m t 3 (3 + 12 * t) 0 A (S0 t tr) (fun b => if b = A.a ∨ b = tp then 1 else 0) := ⟨DM, so4, fun b hf => by
      rw [if_neg]
      rintro (z | z)
      · exact lay_out DM (z ▸ hf)
      · exact tpF (z ▸ hf), if_pos (.inl rfl)⟩
    have ltp4 : (fun b => if b = A.a ∨ b = tp then 1 else 0 : Addr → Nat) tp = 1 := if_pos (.inr rfl)
    generalize (fun b => if b = A.a ∨ b = tp then 1 else 0 : Addr → Nat) = lab0 at Wd4 ltp4
    obtain ⟨dm, hm⟩ := DM.ob
    rw [← hA] at ha4
    -- stores
    refine ⟨_, rfl, _, rfl, by omega, by omega, fun D hD => lc_range (lo := 0) (n := (t : Int).toNat) (fun n H' => ∃ (sts : List Addr) (frs : List (List Int)) (lab : Addr → Nat), H' D = some (.lst (sts.map V.ref)) ∧ lab D = 1 ∧ Gr lab0 H4 lab H' ∧ sts.length = n ∧ frs.length = n ∧ ∀ (j : Nat) (x : Addr) (fr : List Int), sts[j]? = some x → frs[j]? = some fr → Sto c.St H' lab j x A.a fr [] [] ∧ Asc fr ∧ fr.Nodup ∧ fr.length < 900) ⟨[], [], relG lab0 H4 fun _ => 1, upd_same, relG_new hD, Gr.of (up1 hD), rfl, rfl, fun j x fr h => by simp at h⟩ ?_ ?_⟩
    · rintro n H' hn ⟨sts, frs, lab, hD', lD, g, z1, z2, hst⟩
      have hnt : n < t := by omega
      refine ⟨rfl, _, rfl, m, M, dm, _, _, rfl, g.s _ _ hm, TM.cl, TM.nL, rfl, _, rfl, A.a, t, 3, 3 + 12 * t, 0 + (n : Int), rfl, ⟨da, g.s _ _ ha4⟩, by omega, by omega, by omega, fun H2' st fa wa oa fr asc ndf zfr R own s2' => ?_⟩
      rw [Int.zero_add] at R
      refine ⟨_, s2' _ _ hD', (by rw [List.length_map]; omega), sts ++ [st], frs ++ [fr], relG lab H' fun _ => lS n, ?_, ?_, ?_, ?_, ?_, ?_⟩
      · rw [upd_same, List.map_append]
        rfl
      · rw [relG_old hD']
        exact lD
      · exact ⟨fun b o e => by rw [upd_ne (ne_of_none e hD)]; exact s2' _ _ (g.s b o e), fun b o e => (relG_old (g.s b o e)).trans (g.l b o e)⟩
      · rw [List.length_append, z1]
        rfl
      · rw [List.length_append, z2]
        rfl
      · intro j y fr' hy hfr'
        by_cases cj : j < n
        · rw [List.getElem?_append_left (by omega)] at hy hfr'
          obtain ⟨R', q⟩ := hst j y fr' hy hfr'
          refine ⟨R'.on fun b o e h => ⟨?_, (relG_old e).trans h⟩, q⟩
          rw [upd_ne fun z => by rw [z, lD] at h; exact lS1 h.symm]
          exact s2' _ _ e
        · have hj : j = n := by
            have := (List.getElem?_eq_some_iff.mp hy).1
            rw [List.length_append] at this
            have : j < sts.length + 1 := this
            omega
          subst hj
          rw [List.getElem?_append_right (by omega), z1, Nat.sub_self] at hy
          rw [List.getElem?_append_right (by omega), z2, Nat.sub_self] at hfr'
          cases hy
          cases hfr'
          refine ⟨⟨fa, wa, oa, [], R.on fun b o hb h => ?_, rfl, fun b hb => relG_new (own b hb)⟩, asc, ndf, zfr⟩
          rw [upd_ne (ne_of_none hD' (own b hb)).symm]
          exact h
    rintro H5 ⟨sts, frs, lab, hD5, lD, g, z1, z2, hst⟩
    refine k4 _ a tp t m D none none none none none none none none none none none none none none none none none none none none none H5 lab A.a (3 + 12 * t) A (S0 t tr) sts frs ms nok ht1 sm hml (Wd4.gr g) rfl rfl (by rw [z1]; omega) (by rw [z2]; omega) hD5 lD (g.s _ _ htp4) ((g.l _ _ htp4).trans ltp4) hst fun H' => kQ H'
end
end Dk

set_option maxHeartbeats 8000000
namespace Dk
open PySem PySem.Spec PyProof.Rows L2
theorem kit_self {K : PySem.W.Frag} {N : Addr} : PySem.W.kitOne K (.ref N) (.ref N) = some true := by
  unfold PySem.W.kitOne
  rw [if_pos (beq_self_eq_true _)]
theorem md_at {P : Program} {w : World} {K : PySem.W.Frag} {mg : Str → Option Value} {base : Heap} {k : Nat} {C f : Addr} {m : Str} {sp : Sp} (D : MD P w K mg base k C m sp) (h : Meth K C m f) : FnR P w K mg base CX0 k f sp := by
  obtain ⟨g, hm, F⟩ := D
  have e := hm.at_.symm.trans h.at_
  cases e
  exact F
theorem raw0 {P : Program} {w : World} {K : PySem.W.Frag} {mg : Str → Option Value} {base : Heap} {k : Nat} {f : Addr} {fd : FuncData} {ps : List Str} {sp : Sp} (F : FnOk P w K mg base CX0 k f fd ps sp) (hb : Binds K fd ps []) : FnR P w K mg base CX0 k f sp :=
  (F.raw hb .nil).imp fun vs H Q E h => by rw [List.append_nil]; exact h
theorem all_mk {l : PySem.W.OpenLaw} {w : World} {K : PySem.W.Frag} {h : Heap} {mg : Str → Option Value} {fa C M S SK MA CE CV NV LE E0 f1 f2 f3 f4 f5 f6 f7 f8 f9 f10 f11 f12 f13 f14 f15 f16 f17 f18 f19 f20 f21 f22 f23 f24 f25 f26 f27 f28 f29 f30 f31 f32 f33 f34 f35 f36 f37 f38 f39 f40 f41 f42 f43 f44 f45 f46 f47 f48 f49 f50 f51 f52 f53 f54 f55 f56 f57 f58 f59 f60 f61 f62 f63 f64 f65 f66 f67 f68 f69 f70 f71 f72 f73 f74 f75 f76 : Addr} (X : K.In h) (G : h.Ns mainGlobals mg) (hfa : mg "law" = some (.ref fa))
    {od1 an1 : Option Addr} {sl1 : Array (Option Value)} {oc1 kV1 dc1 pm1 cd1 ct1 : Value}
    {od2 an2 : Option Addr} {sl2 : Array (Option Value)} {oc2 kV2 dc2 pm2 cd2 ct2 : Value}
    {od3 an3 : Option Addr} {sl3 : Array (Option Value)} {oc3 kV3 dc3 pm3 cd3 ct3 : Value}
    {od4 an4 : Option Addr} {sl4 : Array (Option Value)} {oc4 kV4 dc4 pm4 cd4 ct4 : Value}
    {od5 an5 : Option Addr} {sl5 : Array (Option Value)} {oc5 kV5 dc5 pm5 cd5 ct5 : Value}
    {od6 an6 : Option Addr} {sl6 : Array (Option Value)} {oc6 kV6 dc6 pm6 cd6 ct6 : Value}
    {od7 an7 : Option Addr} {sl7 : Array (Option Value)} {oc7 kV7 dc7 pm7 cd7 ct7 : Value}
    {od8 an8 : Option Addr} {sl8 : Array (Option Value)} {oc8 kV8 dc8 pm8 cd8 ct8 : Value}
    {od9 an9 : Option Addr} {sl9 : Array (Option Value)} {oc9 kV9 dc9 pm9 cd9 ct9 : Value}
    {od10 an10 : Option Addr} {sl10 : Array (Option Value)} {oc10 kV10 dc10 pm10 cd10 ct10 : Value}
    {od11 an11 : Option Addr} {sl11 : Array (Option Value)} {oc11 kV11 dc11 pm11 cd11 ct11 : Value}
    {od12 an12 : Option Addr} {sl12 : Array (Option Value)} {oc12 kV12 dc12 pm12 cd12 ct12 : Value}
    {od13 an13 : Option Addr} {sl13 : Array (Option Value)} {oc13 kV13 dc13 pm13 cd13 ct13 : Value}
    {od14 an14 : Option Addr} {sl14 : Array (Option Value)} {oc14 kV14 dc14 pm14 cd14 ct14 : Value}
    {od15 an15 : Option Addr} {sl15 : Array (Option Value)} {oc15 kV15 dc15 pm15 cd15 ct15 : Value}
    {od16 an16 : Option Addr} {sl16 : Array (Option Value)} {oc16 kV16 dc16 pm16 cd16 ct16 : Value}
    {od17 an17 : Option Addr} {sl17 : Array (Option Value)} {oc17 kV17 dc17 pm17 cd17 ct17 : Value}
    {od18 an18 : Option Addr} {sl18 : Array (Option Value)} {oc18 kV18 dc18 pm18 cd18 ct18 : Value}
    {od19 an19 : Option Addr} {sl19 : Array (Option Value)} {oc19 kV19 dc19 pm19 cd19 ct19 : Value}
    {od20 an20 : Option Addr} {sl20 : Array (Option Value)} {oc20 kV20 dc20 pm20 cd20 ct20 : Value}
    {od21 an21 : Option Addr} {sl21 : Array (Option Value)} {oc21 kV21 dc21 pm21 cd21 ct21 : Value}
    {od22 an22 : Option Addr} {sl22 : Array (Option Value)} {oc22 kV22 dc22 pm22 cd22 ct22 : Value}
    {od23 an23 : Option Addr} {sl23 : Array (Option Value)} {oc23 kV23 dc23 pm23 cd23 ct23 : Value}
    {od24 an24 : Option Addr} {sl24 : Array (Option Value)} {oc24 kV24 dc24 pm24 cd24 ct24 : Value}
    {od25 an25 : Option Addr} {sl25 : Array (Option Value)} {oc25 kV25 dc25 pm25 cd25 ct25 : Value}
    {od26 an26 : Option Addr} {sl26 : Array (Option Value)} {oc26 kV26 dc26 pm26 cd26 ct26 : Value}
    {od27 an27 : Option Addr} {sl27 : Array (Option Value)} {oc27 kV27 dc27 pm27 cd27 ct27 : Value}
    {od28 an28 : Option Addr} {sl28 : Array (Option Value)} {oc28 kV28 dc28 pm28 cd28 ct28 : Value}
    {od29 an29 : Option Addr} {sl29 : Array (Option Value)} {oc29 kV29 dc29 pm29 cd29 ct29 : Value}
    {od30 an30 : Option Addr} {sl30 : Array (Option Value)} {oc30 kV30 dc30 pm30 cd30 ct30 : Value}
    {od31 an31 : Option Addr} {sl31 : Array (Option Value)} {oc31 kV31 dc31 pm31 cd31 ct31 : Value}
    {od32 an32 : Option Addr} {sl32 : Array (Option Value)} {oc32 kV32 dc32 pm32 cd32 ct32 : Value}
    {od33 an33 : Option Addr} {sl33 : Array (Option Value)} {oc33 kV33 dc33 pm33 cd33 ct33 : Value}
    {od34 an34 : Option Addr} {sl34 : Array (Option Value)} {oc34 kV34 dc34 pm34 cd34 ct34 : Value}
    {od35 an35 : Option Addr} {sl35 : Array (Option Value)} {oc35 kV35 dc35 pm35 cd35 ct35 : Value}
    {od36 an36 : Option Addr} {sl36 : Array (Option Value)} {oc36 kV36 dc36 pm36 cd36 ct36 : Value}
    {od37 an37 : Option Addr} {sl37 : Array (Option Value)} {oc37 kV37 dc37 pm37 cd37 ct37 : Value}
    {od38 an38 : Option Addr} {sl38 : Array (Option Value)} {oc38 kV38 dc38 pm38 cd38 ct38 : Value}
    {od39 an39 : Option Addr} {sl39 : Array (Option Value)} {oc39 kV39 dc39 pm39 cd39 ct39 : Value}
    {od40 an40 : Option Addr} {sl40 : Array (Option Value)} {oc40 kV40 dc40 pm40 cd40 ct40 : Value}
    {od41 an41 : Option Addr} {sl41 : Array (Option Value)} {oc41 kV41 dc41 pm41 cd41 ct41 : Value}
    {od42 an42 : Option Addr} {sl42 : Array (Option Value)} {oc42 kV42 dc42 pm42 cd42 ct42 : Value}
    {od43 an43 : Option Addr} {sl43 : Array (Option Value)} {oc43 kV43 dc43 pm43 cd43 ct43 : Value}
    {od44 an44 : Option Addr} {sl44 : Array (Option Value)} {oc44 kV44 dc44 pm44 cd44 ct44 : Value}
    {od45 an45 : Option Addr} {sl45 : Array (Option Value)} {oc45 kV45 dc45 pm45 cd45 ct45 : Value}
    {od46 an46 : Option Addr} {sl46 : Array (Option Value)} {oc46 kV46 dc46 pm46 cd46 ct46 : Value}
    {od47 an47 : Option Addr} {sl47 : Array (Option Value)} {oc47 kV47 dc47 pm47 cd47 ct47 : Value}
    {od48 an48 : Option Addr} {sl48 : Array (Option Value)} {oc48 kV48 dc48 pm48 cd48 ct48 : Value}
    {od49 an49 : Option Addr} {sl49 : Array (Option Value)} {oc49 kV49 dc49 pm49 cd49 ct49 : Value}
    {od50 an50 : Option Addr} {sl50 : Array (Option Value)} {oc50 kV50 dc50 pm50 cd50 ct50 : Value}
    {od51 an51 : Option Addr} {sl51 : Array (Option Value)} {oc51 kV51 dc51 pm51 cd51 ct51 : Value}
    {od52 an52 : Option Addr} {sl52 : Array (Option Value)} {oc52 kV52 dc52 pm52 cd52 ct52 : Value}
    {od53 an53 : Option Addr} {sl53 : Array (Option Value)} {oc53 kV53 dc53 pm53 cd53 ct53 : Value}
    {od54 an54 : Option Addr} {sl54 : Array (Option Value)} {oc54 kV54 dc54 pm54 cd54 ct54 : Value}
    {od55 an55 : Option Addr} {sl55 : Array (Option Value)} {oc55 kV55 dc55 pm55 cd55 ct55 : Value}
    {od56 an56 : Option Addr} {sl56 : Array (Option Value)} {oc56 kV56 dc56 pm56 cd56 ct56 : Value}
    {od57 an57 : Option Addr} {sl57 : Array (Option Value)} {oc57 kV57 dc57 pm57 cd57 ct57 : Value}
    {od58 an58 : Option Addr} {sl58 : Array (Option Value)} {oc58 kV58 dc58 pm58 cd58 ct58 : Value}
    {od59 an59 : Option Addr} {sl59 : Array (Option Value)} {oc59 kV59 dc59 pm59 cd59 ct59 : Value}
    {od60 an60 : Option Addr} {sl60 : Array (Option Value)} {oc60 kV60 dc60 pm60 cd60 ct60 : Value}
    {od61 an61 : Option Addr} {sl61 : Array (Option Value)} {oc61 kV61 dc61 pm61 cd61 ct61 : Value}
    {od62 an62 : Option Addr} {sl62 : Array (Option Value)} {oc62 kV62 dc62 pm62 cd62 ct62 : Value}
    {od63 an63 : Option Addr} {sl63 : Array (Option Value)} {oc63 kV63 dc63 pm63 cd63 ct63 : Value}
    {od64 an64 : Option Addr} {sl64 : Array (Option Value)} {oc64 kV64 dc64 pm64 cd64 ct64 : Value}
    {od65 an65 : Option Addr} {sl65 : Array (Option Value)} {oc65 kV65 dc65 pm65 cd65 ct65 : Value}
    {od66 an66 : Option Addr} {sl66 : Array (Option Value)} {oc66 kV66 dc66 pm66 cd66 ct66 : Value}
    {od67 an67 : Option Addr} {sl67 : Array (Option Value)} {oc67 kV67 dc67 pm67 cd67 ct67 : Value}
    {od68 an68 : Option Addr} {sl68 : Array (Option Value)} {oc68 kV68 dc68 pm68 cd68 ct68 : Value}
    {od69 an69 : Option Addr} {sl69 : Array (Option Value)} {oc69 kV69 dc69 pm69 cd69 ct69 : Value}
    {od70 an70 : Option Addr} {sl70 : Array (Option Value)} {oc70 kV70 dc70 pm70 cd70 ct70 : Value}
    {od71 an71 : Option Addr} {sl71 : Array (Option Value)} {oc71 kV71 dc71 pm71 cd71 ct71 : Value}
    {od72 an72 : Option Addr} {sl72 : Array (Option Value)} {oc72 kV72 dc72 pm72 cd72 ct72 : Value}
    {od73 an73 : Option Addr} {sl73 : Array (Option Value)} {oc73 kV73 dc73 pm73 cd73 ct73 : Value}
    {od74 an74 : Option Addr} {sl74 : Array (Option Value)} {oc74 kV74 dc74 pm74 cd74 ct74 : Value}
    {od75 an75 : Option Addr} {sl75 : Array (Option Value)} {oc75 kV75 dc75 pm75 cd75 ct75 : Value}
    {od76 an76 : Option Addr} {sl76 : Array (Option Value)} {oc76 kV76 dc76 pm76 cd76 ct76 : Value}
    (gC : PySem.W.nsIn K mainGlobals "Layout" = some (some (.ref C)))
    (gM : PySem.W.nsIn K mainGlobals "Memory" = some (some (.ref M)))
    (gS : PySem.W.nsIn K mainGlobals "Store" = some (some (.ref S)))
    (gSK : PySem.W.nsIn K mainGlobals "Stack" = some (some (.ref SK)))
    (gMA : PySem.W.nsIn K mainGlobals "Machine" = some (some (.ref MA)))
    (gCE : PySem.W.nsIn K mainGlobals "Entering" = some (some (.ref CE)))
    (gCV : PySem.W.nsIn K mainGlobals "Leaving" = some (some (.ref CV)))
    (gNV : PySem.W.nsIn K mainGlobals "NotValid" = some (some (.ref NV)))
    (gLE : PySem.W.nsIn K mainGlobals "LineError" = some (some (.ref LE)))
    (a1 : PySem.W.nsIn K mainGlobals "is_whole" = some (some (.ref f1)))
    (l1 : K.lookup f1 = some ⟨oc1, od1, .func (PySem.W.fnOf "is_whole" "is_whole" (defArgs sWhole) (defBody sWhole) (defScope sWhole) .none kV1 dc1 pm1 an1 cd1 ct1), sl1⟩)
    (c1 : PySem.W.codeIn K cd1 "is_whole" = true)
    (k1 : PySem.W.keepIn K (.ref f1) = true)
    (a2 : PySem.W.nsIn K mainGlobals "is_within" = some (some (.ref f2)))
    (l2 : K.lookup f2 = some ⟨oc2, od2, .func (PySem.W.fnOf "is_within" "is_within" (defArgs sWithin) (defBody sWithin) (defScope sWithin) .none kV2 dc2 pm2 an2 cd2 ct2), sl2⟩)
    (c2 : PySem.W.codeIn K cd2 "is_within" = true)
    (k2 : PySem.W.keepIn K (.ref f2) = true)
    (a3 : PySem.W.nsIn K mainGlobals "is_value" = some (some (.ref f3)))
    (l3 : K.lookup f3 = some ⟨oc3, od3, .func (PySem.W.fnOf "is_value" "is_value" (defArgs sIsValue) (defBody sIsValue) (defScope sIsValue) .none kV3 dc3 pm3 an3 cd3 ct3), sl3⟩)
    (c3 : PySem.W.codeIn K cd3 "is_value" = true)
    (k3 : PySem.W.keepIn K (.ref f3) = true)
    (a4 : PySem.W.nsIn K mainGlobals "is_same" = some (some (.ref f4)))
    (l4 : K.lookup f4 = some ⟨oc4, od4, .func (PySem.W.fnOf "is_same" "is_same" (defArgs sIsSame) (defBody sIsSame) (defScope sIsSame) .none kV4 dc4 pm4 an4 cd4 ct4), sl4⟩)
    (c4 : PySem.W.codeIn K cd4 "is_same" = true)
    (k4 : PySem.W.keepIn K (.ref f4) = true)
    (a5 : PySem.W.nsIn K mainGlobals "divided" = some (some (.ref f5)))
    (l5 : K.lookup f5 = some ⟨oc5, od5, .func (PySem.W.fnOf "divided" "divided" (defArgs sDivided) (defBody sDivided) (defScope sDivided) .none kV5 dc5 pm5 an5 cd5 ct5), sl5⟩)
    (c5 : PySem.W.codeIn K cd5 "divided" = true)
    (k5 : PySem.W.keepIn K (.ref f5) = true)
    (a6 : PySem.W.nsIn K mainGlobals "other_slots" = some (some (.ref f6)))
    (l6 : K.lookup f6 = some ⟨oc6, od6, .func (PySem.W.fnOf "other_slots" "other_slots" (defArgs sOther) (defBody sOther) (defScope sOther) .none kV6 dc6 pm6 an6 cd6 ct6), sl6⟩)
    (c6 : PySem.W.codeIn K cd6 "other_slots" = true)
    (k6 : PySem.W.keepIn K (.ref f6) = true)
    (a7 : PySem.W.nsIn K mainGlobals "is_access" = some (some (.ref f7)))
    (l7 : K.lookup f7 = some ⟨oc7, od7, .func (PySem.W.fnOf "is_access" "is_access" (defArgs sIsAcc) (defBody sIsAcc) (defScope sIsAcc) .none kV7 dc7 pm7 an7 cd7 ct7), sl7⟩)
    (c7 : PySem.W.codeIn K cd7 "is_access" = true)
    (k7 : PySem.W.keepIn K (.ref f7) = true)
    (a8 : PySem.W.nsIn K mainGlobals "passing_values" = some (some (.ref f8)))
    (l8 : K.lookup f8 = some ⟨oc8, od8, .func (PySem.W.fnOf "passing_values" "passing_values" (defArgs sPass) (defBody sPass) (defScope sPass) .none kV8 dc8 pm8 an8 cd8 ct8), sl8⟩)
    (c8 : PySem.W.codeIn K cd8 "passing_values" = true)
    (k8 : PySem.W.keepIn K (.ref f8) = true)
    (a9 : PySem.W.nsIn K mainGlobals "first_trails" = some (some (.ref f9)))
    (l9 : K.lookup f9 = some ⟨oc9, od9, .func (PySem.W.fnOf "first_trails" "first_trails" (defArgs sTrails) (defBody sTrails) (defScope sTrails) .none kV9 dc9 pm9 an9 cd9 ct9), sl9⟩)
    (c9 : PySem.W.codeIn K cd9 "first_trails" = true)
    (k9 : PySem.W.keepIn K (.ref f9) = true)
    (a10 : PySem.W.nsIn K mainGlobals "no_notes" = some (some (.ref f10)))
    (l10 : K.lookup f10 = some ⟨oc10, od10, .func (PySem.W.fnOf "no_notes" "no_notes" (defArgs sNotes) (defBody sNotes) (defScope sNotes) .none kV10 dc10 pm10 an10 cd10 ct10), sl10⟩)
    (c10 : PySem.W.codeIn K cd10 "no_notes" = true)
    (k10 : PySem.W.keepIn K (.ref f10) = true)
    (a11 : PySem.W.nsIn K mainGlobals "_law_tape" = some (some (.ref f11)))
    (l11 : K.lookup f11 = some ⟨oc11, od11, .func (PySem.W.fnOf "_law_tape" "_law_tape" (defArgs sTape) (defBody sTape) (defScope sTape) .none kV11 dc11 pm11 an11 cd11 ct11), sl11⟩)
    (c11 : PySem.W.codeIn K cd11 "_law_tape" = true)
    (k11 : PySem.W.keepIn K (.ref f11) = true)
    (a12 : PySem.W.nsIn K mainGlobals "_law_at" = some (some (.ref f12)))
    (l12 : K.lookup f12 = some ⟨oc12, od12, .func (PySem.W.fnOf "_law_at" "_law_at" (defArgs sAt) (defBody sAt) (defScope sAt) .none kV12 dc12 pm12 an12 cd12 ct12), sl12⟩)
    (c12 : PySem.W.codeIn K cd12 "_law_at" = true)
    (k12 : PySem.W.keepIn K (.ref f12) = true)
    (a13 : PySem.W.nsIn K mainGlobals "_law_known" = some (some (.ref f13)))
    (l13 : K.lookup f13 = some ⟨oc13, od13, .func (PySem.W.fnOf "_law_known" "_law_known" (defArgs sKnown) (defBody sKnown) (defScope sKnown) .none kV13 dc13 pm13 an13 cd13 ct13), sl13⟩)
    (c13 : PySem.W.codeIn K cd13 "_law_known" = true)
    (k13 : PySem.W.keepIn K (.ref f13) = true)
    (a14 : PySem.W.nsIn K mainGlobals "_law_held" = some (some (.ref f14)))
    (l14 : K.lookup f14 = some ⟨oc14, od14, .func (PySem.W.fnOf "_law_held" "_law_held" (defArgs sHeld) (defBody sHeld) (defScope sHeld) .none kV14 dc14 pm14 an14 cd14 ct14), sl14⟩)
    (c14 : PySem.W.codeIn K cd14 "_law_held" = true)
    (k14 : PySem.W.keepIn K (.ref f14) = true)
    (a15 : PySem.W.nsIn K mainGlobals "_law_store" = some (some (.ref f15)))
    (l15 : K.lookup f15 = some ⟨oc15, od15, .func (PySem.W.fnOf "_law_store" "_law_store" (defArgs sLStore) (defBody sLStore) (defScope sLStore) .none kV15 dc15 pm15 an15 cd15 ct15), sl15⟩)
    (c15 : PySem.W.codeIn K cd15 "_law_store" = true)
    (k15 : PySem.W.keepIn K (.ref f15) = true)
    (a16 : PySem.W.nsIn K mainGlobals "_law_whole" = some (some (.ref f16)))
    (l16 : K.lookup f16 = some ⟨oc16, od16, .func (PySem.W.fnOf "_law_whole" "_law_whole" (defArgs sLWhole) (defBody sLWhole) (defScope sLWhole) .none kV16 dc16 pm16 an16 cd16 ct16), sl16⟩)
    (c16 : PySem.W.codeIn K cd16 "_law_whole" = true)
    (k16 : PySem.W.keepIn K (.ref f16) = true)
    (a17 : PySem.W.nsIn K mainGlobals "_law_slots" = some (some (.ref f17)))
    (l17 : K.lookup f17 = some ⟨oc17, od17, .func (PySem.W.fnOf "_law_slots" "_law_slots" (defArgs sLSlots) (defBody sLSlots) (defScope sLSlots) .none kV17 dc17 pm17 an17 cd17 ct17), sl17⟩)
    (c17 : PySem.W.codeIn K cd17 "_law_slots" = true)
    (k17 : PySem.W.keepIn K (.ref f17) = true)
    (a18 : PySem.W.nsIn K mainGlobals "_law_alone" = some (some (.ref f18)))
    (l18 : K.lookup f18 = some ⟨oc18, od18, .func (PySem.W.fnOf "_law_alone" "_law_alone" (defArgs sAlone) (defBody sAlone) (defScope sAlone) .none kV18 dc18 pm18 an18 cd18 ct18), sl18⟩)
    (c18 : PySem.W.codeIn K cd18 "_law_alone" = true)
    (k18 : PySem.W.keepIn K (.ref f18) = true)
    (a19 : PySem.W.nsIn K mainGlobals "law" = some (some (.ref f19)))
    (l19 : K.lookup f19 = some ⟨oc19, od19, .func (PySem.W.fnOf "law" "law" (defArgs sLaw) (defBody sLaw) (defScope sLaw) .none kV19 dc19 pm19 an19 cd19 ct19), sl19⟩)
    (c19 : PySem.W.codeIn K cd19 "law" = true)
    (k19 : PySem.W.keepIn K (.ref f19) = true)
    (a20 : PySem.W.findIn K (.ref C) "__init__" = some (some (.ref f20)))
    (i20 : PySem.W.isFn K (.ref f20) = true)
    (l20 : K.lookup f20 = some ⟨oc20, od20, .func (PySem.W.fnOf "__init__" "Layout.__init__" (defArgs sLInit) (defBody sLInit) (defScope sLInit) .none kV20 dc20 pm20 an20 cd20 ct20), sl20⟩)
    (c20 : PySem.W.codeIn K cd20 "Layout.__init__" = true)
    (k20 : PySem.W.keepIn K (.ref f20) = true)
    (a21 : PySem.W.findIn K (.ref C) "epoch" = some (some (.ref f21)))
    (i21 : PySem.W.isFn K (.ref f21) = true)
    (l21 : K.lookup f21 = some ⟨oc21, od21, .func (PySem.W.fnOf "epoch" "Layout.epoch" (defArgs sEpoch) (defBody sEpoch) (defScope sEpoch) .none kV21 dc21 pm21 an21 cd21 ct21), sl21⟩)
    (c21 : PySem.W.codeIn K cd21 "Layout.epoch" = true)
    (k21 : PySem.W.keepIn K (.ref f21) = true)
    (a22 : PySem.W.findIn K (.ref C) "epoch_slot" = some (some (.ref f22)))
    (i22 : PySem.W.isFn K (.ref f22) = true)
    (l22 : K.lookup f22 = some ⟨oc22, od22, .func (PySem.W.fnOf "epoch_slot" "Layout.epoch_slot" (defArgs sESlot) (defBody sESlot) (defScope sESlot) .none kV22 dc22 pm22 an22 cd22 ct22), sl22⟩)
    (c22 : PySem.W.codeIn K cd22 "Layout.epoch_slot" = true)
    (k22 : PySem.W.keepIn K (.ref f22) = true)
    (a23 : PySem.W.findIn K (.ref C) "call_slot" = some (some (.ref f23)))
    (i23 : PySem.W.isFn K (.ref f23) = true)
    (l23 : K.lookup f23 = some ⟨oc23, od23, .func (PySem.W.fnOf "call_slot" "Layout.call_slot" (defArgs sCSlot) (defBody sCSlot) (defScope sCSlot) .none kV23 dc23 pm23 an23 cd23 ct23), sl23⟩)
    (c23 : PySem.W.codeIn K cd23 "Layout.call_slot" = true)
    (k23 : PySem.W.keepIn K (.ref f23) = true)
    (a24 : PySem.W.findIn K (.ref C) "word" = some (some (.ref f24)))
    (i24 : PySem.W.isFn K (.ref f24) = true)
    (l24 : K.lookup f24 = some ⟨oc24, od24, .func (PySem.W.fnOf "word" "Layout.word" (defArgs sWord) (defBody sWord) (defScope sWord) .none kV24 dc24 pm24 an24 cd24 ct24), sl24⟩)
    (c24 : PySem.W.codeIn K cd24 "Layout.word" = true)
    (k24 : PySem.W.keepIn K (.ref f24) = true)
    (a25 : PySem.W.findIn K (.ref C) "record" = some (some (.ref f25)))
    (i25 : PySem.W.isFn K (.ref f25) = true)
    (l25 : K.lookup f25 = some ⟨oc25, od25, .func (PySem.W.fnOf "record" "Layout.record" (defArgs sRecord) (defBody sRecord) (defScope sRecord) .none kV25 dc25 pm25 an25 cd25 ct25), sl25⟩)
    (c25 : PySem.W.codeIn K cd25 "Layout.record" = true)
    (k25 : PySem.W.keepIn K (.ref f25) = true)
    (a26 : PySem.W.findIn K (.ref C) "cells" = some (some (.ref f26)))
    (i26 : PySem.W.isFn K (.ref f26) = true)
    (l26 : K.lookup f26 = some ⟨oc26, od26, .func (PySem.W.fnOf "cells" "Layout.cells" (defArgs sCells) (defBody sCells) (defScope sCells) .none kV26 dc26 pm26 an26 cd26 ct26), sl26⟩)
    (c26 : PySem.W.codeIn K cd26 "Layout.cells" = true)
    (k26 : PySem.W.keepIn K (.ref f26) = true)
    (a27 : PySem.W.findIn K (.ref C) "is_cell" = some (some (.ref f27)))
    (i27 : PySem.W.isFn K (.ref f27) = true)
    (l27 : K.lookup f27 = some ⟨oc27, od27, .func (PySem.W.fnOf "is_cell" "Layout.is_cell" (defArgs sIsCell) (defBody sIsCell) (defScope sIsCell) .none kV27 dc27 pm27 an27 cd27 ct27), sl27⟩)
    (c27 : PySem.W.codeIn K cd27 "Layout.is_cell" = true)
    (k27 : PySem.W.keepIn K (.ref f27) = true)
    (a28 : PySem.W.findIn K (.ref C) "is_lasting" = some (some (.ref f28)))
    (i28 : PySem.W.isFn K (.ref f28) = true)
    (l28 : K.lookup f28 = some ⟨oc28, od28, .func (PySem.W.fnOf "is_lasting" "Layout.is_lasting" (defArgs sIsLast) (defBody sIsLast) (defScope sIsLast) .none kV28 dc28 pm28 an28 cd28 ct28), sl28⟩)
    (c28 : PySem.W.codeIn K cd28 "Layout.is_lasting" = true)
    (k28 : PySem.W.keepIn K (.ref f28) = true)
    (a29 : PySem.W.findIn K (.ref C) "has_thread" = some (some (.ref f29)))
    (i29 : PySem.W.isFn K (.ref f29) = true)
    (l29 : K.lookup f29 = some ⟨oc29, od29, .func (PySem.W.fnOf "has_thread" "Layout.has_thread" (defArgs sHasT) (defBody sHasT) (defScope sHasT) .none kV29 dc29 pm29 an29 cd29 ct29), sl29⟩)
    (c29 : PySem.W.codeIn K cd29 "Layout.has_thread" = true)
    (k29 : PySem.W.keepIn K (.ref f29) = true)
    (a30 : PySem.W.findIn K (.ref M) "__init__" = some (some (.ref f30)))
    (i30 : PySem.W.isFn K (.ref f30) = true)
    (l30 : K.lookup f30 = some ⟨oc30, od30, .func (PySem.W.fnOf "__init__" "Memory.__init__" (defArgs sMInit) (defBody sMInit) (defScope sMInit) .none kV30 dc30 pm30 an30 cd30 ct30), sl30⟩)
    (c30 : PySem.W.codeIn K cd30 "Memory.__init__" = true)
    (k30 : PySem.W.keepIn K (.ref f30) = true)
    (a31 : PySem.W.findIn K (.ref M) "access" = some (some (.ref f31)))
    (i31 : PySem.W.isFn K (.ref f31) = true)
    (l31 : K.lookup f31 = some ⟨oc31, od31, .func (PySem.W.fnOf "access" "Memory.access" (defArgs sAccess) (defBody sAccess) (defScope sAccess) .none kV31 dc31 pm31 an31 cd31 ct31), sl31⟩)
    (c31 : PySem.W.codeIn K cd31 "Memory.access" = true)
    (k31 : PySem.W.keepIn K (.ref f31) = true)
    (a32 : PySem.W.findIn K (.ref M) "peek" = some (some (.ref f32)))
    (i32 : PySem.W.isFn K (.ref f32) = true)
    (l32 : K.lookup f32 = some ⟨oc32, od32, .func (PySem.W.fnOf "peek" "Memory.peek" (defArgs sPeek) (defBody sPeek) (defScope sPeek) .none kV32 dc32 pm32 an32 cd32 ct32), sl32⟩)
    (c32 : PySem.W.codeIn K cd32 "Memory.peek" = true)
    (k32 : PySem.W.keepIn K (.ref f32) = true)
    (a33 : PySem.W.findIn K (.ref M) "log" = some (some (.ref f33)))
    (i33 : PySem.W.isFn K (.ref f33) = true)
    (l33 : K.lookup f33 = some ⟨oc33, od33, .func (PySem.W.fnOf "log" "Memory.log" (defArgs sLog) (defBody sLog) (defScope sLog) .none kV33 dc33 pm33 an33 cd33 ct33), sl33⟩)
    (c33 : PySem.W.codeIn K cd33 "Memory.log" = true)
    (k33 : PySem.W.keepIn K (.ref f33) = true)
    (a34 : PySem.W.findIn K (.ref M) "_result" = some (some (.ref f34)))
    (i34 : PySem.W.isFn K (.ref f34) = true)
    (l34 : K.lookup f34 = some ⟨oc34, od34, .func (PySem.W.fnOf "_result" "Memory._result" (defArgs sResult) (defBody sResult) (defScope sResult) .none kV34 dc34 pm34 an34 cd34 ct34), sl34⟩)
    (c34 : PySem.W.codeIn K cd34 "Memory._result" = true)
    (k34 : PySem.W.keepIn K (.ref f34) = true)
    (a35 : PySem.W.findIn K (.ref M) "_give" = some (some (.ref f35)))
    (i35 : PySem.W.isFn K (.ref f35) = true)
    (l35 : K.lookup f35 = some ⟨oc35, od35, .func (PySem.W.fnOf "_give" "Memory._give" (defArgs sGive) (defBody sGive) (defScope sGive) .none kV35 dc35 pm35 an35 cd35 ct35), sl35⟩)
    (c35 : PySem.W.codeIn K cd35 "Memory._give" = true)
    (k35 : PySem.W.keepIn K (.ref f35) = true)
    (a36 : PySem.W.findIn K (.ref M) "_give_if" = some (some (.ref f36)))
    (i36 : PySem.W.isFn K (.ref f36) = true)
    (l36 : K.lookup f36 = some ⟨oc36, od36, .func (PySem.W.fnOf "_give_if" "Memory._give_if" (defArgs sGiveIf) (defBody sGiveIf) (defScope sGiveIf) .none kV36 dc36 pm36 an36 cd36 ct36), sl36⟩)
    (c36 : PySem.W.codeIn K cd36 "Memory._give_if" = true)
    (k36 : PySem.W.keepIn K (.ref f36) = true)
    (a37 : PySem.W.findIn K (.ref M) "_fence" = some (some (.ref f37)))
    (i37 : PySem.W.isFn K (.ref f37) = true)
    (l37 : K.lookup f37 = some ⟨oc37, od37, .func (PySem.W.fnOf "_fence" "Memory._fence" (defArgs sFence) (defBody sFence) (defScope sFence) .none kV37 dc37 pm37 an37 cd37 ct37), sl37⟩)
    (c37 : PySem.W.codeIn K cd37 "Memory._fence" = true)
    (k37 : PySem.W.keepIn K (.ref f37) = true)
    (a38 : PySem.W.findIn K (.ref M) "_shorten" = some (some (.ref f38)))
    (i38 : PySem.W.isFn K (.ref f38) = true)
    (l38 : K.lookup f38 = some ⟨oc38, od38, .func (PySem.W.fnOf "_shorten" "Memory._shorten" (defArgs sShort) (defBody sShort) (defScope sShort) .none kV38 dc38 pm38 an38 cd38 ct38), sl38⟩)
    (c38 : PySem.W.codeIn K cd38 "Memory._shorten" = true)
    (k38 : PySem.W.keepIn K (.ref f38) = true)
    (a39 : PySem.W.findIn K (.ref S) "__init__" = some (some (.ref f39)))
    (i39 : PySem.W.isFn K (.ref f39) = true)
    (l39 : K.lookup f39 = some ⟨oc39, od39, .func (PySem.W.fnOf "__init__" "Store.__init__" (defArgs sSInit) (defBody sSInit) (defScope sSInit) .none kV39 dc39 pm39 an39 cd39 ct39), sl39⟩)
    (c39 : PySem.W.codeIn K cd39 "Store.__init__" = true)
    (k39 : PySem.W.keepIn K (.ref f39) = true)
    (a40 : PySem.W.findIn K (.ref S) "take" = some (some (.ref f40)))
    (i40 : PySem.W.isFn K (.ref f40) = true)
    (l40 : K.lookup f40 = some ⟨oc40, od40, .func (PySem.W.fnOf "take" "Store.take" (defArgs sTake) (defBody sTake) (defScope sTake) .none kV40 dc40 pm40 an40 cd40 ct40), sl40⟩)
    (c40 : PySem.W.codeIn K cd40 "Store.take" = true)
    (k40 : PySem.W.keepIn K (.ref f40) = true)
    (a41 : PySem.W.findIn K (.ref S) "give_back" = some (some (.ref f41)))
    (i41 : PySem.W.isFn K (.ref f41) = true)
    (l41 : K.lookup f41 = some ⟨oc41, od41, .func (PySem.W.fnOf "give_back" "Store.give_back" (defArgs sGiveB) (defBody sGiveB) (defScope sGiveB) .none kV41 dc41 pm41 an41 cd41 ct41), sl41⟩)
    (c41 : PySem.W.codeIn K cd41 "Store.give_back" = true)
    (k41 : PySem.W.keepIn K (.ref f41) = true)
    (a42 : PySem.W.findIn K (.ref S) "take_out" = some (some (.ref f42)))
    (i42 : PySem.W.isFn K (.ref f42) = true)
    (l42 : K.lookup f42 = some ⟨oc42, od42, .func (PySem.W.fnOf "take_out" "Store.take_out" (defArgs sTOut) (defBody sTOut) (defScope sTOut) .none kV42 dc42 pm42 an42 cd42 ct42), sl42⟩)
    (c42 : PySem.W.codeIn K cd42 "Store.take_out" = true)
    (k42 : PySem.W.keepIn K (.ref f42) = true)
    (a43 : PySem.W.findIn K (.ref S) "free_cells" = some (some (.ref f43)))
    (i43 : PySem.W.isFn K (.ref f43) = true)
    (l43 : K.lookup f43 = some ⟨oc43, od43, .func (PySem.W.fnOf "free_cells" "Store.free_cells" (defArgs sFreeC) (defBody sFreeC) (defScope sFreeC) .none kV43 dc43 pm43 an43 cd43 ct43), sl43⟩)
    (c43 : PySem.W.codeIn K cd43 "Store.free_cells" = true)
    (k43 : PySem.W.keepIn K (.ref f43) = true)
    (a44 : PySem.W.findIn K (.ref S) "waiting" = some (some (.ref f44)))
    (i44 : PySem.W.isFn K (.ref f44) = true)
    (l44 : K.lookup f44 = some ⟨oc44, od44, .func (PySem.W.fnOf "waiting" "Store.waiting" (defArgs sWait) (defBody sWait) (defScope sWait) .none kV44 dc44 pm44 an44 cd44 ct44), sl44⟩)
    (c44 : PySem.W.codeIn K cd44 "Store.waiting" = true)
    (k44 : PySem.W.keepIn K (.ref f44) = true)
    (a45 : PySem.W.findIn K (.ref S) "has_taken_out" = some (some (.ref f45)))
    (i45 : PySem.W.isFn K (.ref f45) = true)
    (l45 : K.lookup f45 = some ⟨oc45, od45, .func (PySem.W.fnOf "has_taken_out" "Store.has_taken_out" (defArgs sHasOut) (defBody sHasOut) (defScope sHasOut) .none kV45 dc45 pm45 an45 cd45 ct45), sl45⟩)
    (c45 : PySem.W.codeIn K cd45 "Store.has_taken_out" = true)
    (k45 : PySem.W.keepIn K (.ref f45) = true)
    (a46 : PySem.W.findIn K (.ref S) "has_waiting" = some (some (.ref f46)))
    (i46 : PySem.W.isFn K (.ref f46) = true)
    (l46 : K.lookup f46 = some ⟨oc46, od46, .func (PySem.W.fnOf "has_waiting" "Store.has_waiting" (defArgs sHasWait) (defBody sHasWait) (defScope sHasWait) .none kV46 dc46 pm46 an46 cd46 ct46), sl46⟩)
    (c46 : PySem.W.codeIn K cd46 "Store.has_waiting" = true)
    (k46 : PySem.W.keepIn K (.ref f46) = true)
    (a47 : PySem.W.findIn K (.ref S) "stamp" = some (some (.ref f47)))
    (i47 : PySem.W.isFn K (.ref f47) = true)
    (l47 : K.lookup f47 = some ⟨oc47, od47, .func (PySem.W.fnOf "stamp" "Store.stamp" (defArgs sStamp) (defBody sStamp) (defScope sStamp) .none kV47 dc47 pm47 an47 cd47 ct47), sl47⟩)
    (c47 : PySem.W.codeIn K cd47 "Store.stamp" = true)
    (k47 : PySem.W.keepIn K (.ref f47) = true)
    (a48 : PySem.W.findIn K (.ref S) "free_up_to" = some (some (.ref f48)))
    (i48 : PySem.W.isFn K (.ref f48) = true)
    (l48 : K.lookup f48 = some ⟨oc48, od48, .func (PySem.W.fnOf "free_up_to" "Store.free_up_to" (defArgs sFreeUp) (defBody sFreeUp) (defScope sFreeUp) .none kV48 dc48 pm48 an48 cd48 ct48), sl48⟩)
    (c48 : PySem.W.codeIn K cd48 "Store.free_up_to" = true)
    (k48 : PySem.W.keepIn K (.ref f48) = true)
    (a49 : PySem.W.findIn K (.ref SK) "__init__" = some (some (.ref f49)))
    (i49 : PySem.W.isFn K (.ref f49) = true)
    (l49 : K.lookup f49 = some ⟨oc49, od49, .func (PySem.W.fnOf "__init__" "Stack.__init__" (defArgs sKInit) (defBody sKInit) (defScope sKInit) .none kV49 dc49 pm49 an49 cd49 ct49), sl49⟩)
    (c49 : PySem.W.codeIn K cd49 "Stack.__init__" = true)
    (k49 : PySem.W.keepIn K (.ref f49) = true)
    (a50 : PySem.W.findIn K (.ref SK) "step" = some (some (.ref f50)))
    (i50 : PySem.W.isFn K (.ref f50) = true)
    (l50 : K.lookup f50 = some ⟨oc50, od50, .func (PySem.W.fnOf "step" "Stack.step" (defArgs sKStep) (defBody sKStep) (defScope sKStep) .none kV50 dc50 pm50 an50 cd50 ct50), sl50⟩)
    (c50 : PySem.W.codeIn K cd50 "Stack.step" = true)
    (k50 : PySem.W.keepIn K (.ref f50) = true)
    (a51 : PySem.W.findIn K (.ref SK) "ended" = some (some (.ref f51)))
    (i51 : PySem.W.isFn K (.ref f51) = true)
    (l51 : K.lookup f51 = some ⟨oc51, od51, .func (PySem.W.fnOf "ended" "Stack.ended" (defArgs sKEnded) (defBody sKEnded) (defScope sKEnded) .none kV51 dc51 pm51 an51 cd51 ct51), sl51⟩)
    (c51 : PySem.W.codeIn K cd51 "Stack.ended" = true)
    (k51 : PySem.W.keepIn K (.ref f51) = true)
    (a52 : PySem.W.findIn K (.ref SK) "_check_thread" = some (some (.ref f52)))
    (i52 : PySem.W.isFn K (.ref f52) = true)
    (l52 : K.lookup f52 = some ⟨oc52, od52, .func (PySem.W.fnOf "_check_thread" "Stack._check_thread" (defArgs sKCheck) (defBody sKCheck) (defScope sKCheck) .none kV52 dc52 pm52 an52 cd52 ct52), sl52⟩)
    (c52 : PySem.W.codeIn K cd52 "Stack._check_thread" = true)
    (k52 : PySem.W.keepIn K (.ref f52) = true)
    (a53 : PySem.W.findIn K (.ref SK) "_settle" = some (some (.ref f53)))
    (i53 : PySem.W.isFn K (.ref f53) = true)
    (l53 : K.lookup f53 = some ⟨oc53, od53, .func (PySem.W.fnOf "_settle" "Stack._settle" (defArgs sKSettle) (defBody sKSettle) (defScope sKSettle) .none kV53 dc53 pm53 an53 cd53 ct53), sl53⟩)
    (c53 : PySem.W.codeIn K cd53 "Stack._settle" = true)
    (k53 : PySem.W.keepIn K (.ref f53) = true)
    (a54 : PySem.W.findIn K (.ref SK) "_end" = some (some (.ref f54)))
    (i54 : PySem.W.isFn K (.ref f54) = true)
    (l54 : K.lookup f54 = some ⟨oc54, od54, .func (PySem.W.fnOf "_end" "Stack._end" (defArgs sKEnd) (defBody sKEnd) (defScope sKEnd) .none kV54 dc54 pm54 an54 cd54 ct54), sl54⟩)
    (c54 : PySem.W.codeIn K cd54 "Stack._end" = true)
    (k54 : PySem.W.keepIn K (.ref f54) = true)
    (a55 : PySem.W.findIn K (.ref MA) "__init__" = some (some (.ref f55)))
    (i55 : PySem.W.isFn K (.ref f55) = true)
    (l55 : K.lookup f55 = some ⟨oc55, od55, .func (PySem.W.fnOf "__init__" "Machine.__init__" (defArgs sMaInit) (defBody sMaInit) (defScope sMaInit) .none kV55 dc55 pm55 an55 cd55 ct55), sl55⟩)
    (c55 : PySem.W.codeIn K cd55 "Machine.__init__" = true)
    (k55 : PySem.W.keepIn K (.ref f55) = true)
    (a56 : PySem.W.findIn K (.ref CE) "__init__" = some (some (.ref f56)))
    (i56 : PySem.W.isFn K (.ref f56) = true)
    (l56 : K.lookup f56 = some ⟨oc56, od56, .func (PySem.W.fnOf "__init__" "Entering.__init__" (defArgs sEnInit) (defBody sEnInit) (defScope sEnInit) .none kV56 dc56 pm56 an56 cd56 ct56), sl56⟩)
    (c56 : PySem.W.codeIn K cd56 "Entering.__init__" = true)
    (k56 : PySem.W.keepIn K (.ref f56) = true)
    (a57 : PySem.W.findIn K (.ref CE) "request" = some (some (.ref f57)))
    (i57 : PySem.W.isFn K (.ref f57) = true)
    (l57 : K.lookup f57 = some ⟨oc57, od57, .func (PySem.W.fnOf "request" "Entering.request" (defArgs sEnReq) (defBody sEnReq) (defScope sEnReq) .none kV57 dc57 pm57 an57 cd57 ct57), sl57⟩)
    (c57 : PySem.W.codeIn K cd57 "Entering.request" = true)
    (k57 : PySem.W.keepIn K (.ref f57) = true)
    (a58 : PySem.W.findIn K (.ref CE) "accept" = some (some (.ref f58)))
    (i58 : PySem.W.isFn K (.ref f58) = true)
    (l58 : K.lookup f58 = some ⟨oc58, od58, .func (PySem.W.fnOf "accept" "Entering.accept" (defArgs sEnAcc) (defBody sEnAcc) (defScope sEnAcc) .none kV58 dc58 pm58 an58 cd58 ct58), sl58⟩)
    (c58 : PySem.W.codeIn K cd58 "Entering.accept" = true)
    (k58 : PySem.W.keepIn K (.ref f58) = true)
    (a59 : PySem.W.findIn K (.ref CE) "_take_epoch" = some (some (.ref f59)))
    (i59 : PySem.W.isFn K (.ref f59) = true)
    (l59 : K.lookup f59 = some ⟨oc59, od59, .func (PySem.W.fnOf "_take_epoch" "Entering._take_epoch" (defArgs sEnEp) (defBody sEnEp) (defScope sEnEp) .none kV59 dc59 pm59 an59 cd59 ct59), sl59⟩)
    (c59 : PySem.W.codeIn K cd59 "Entering._take_epoch" = true)
    (k59 : PySem.W.keepIn K (.ref f59) = true)
    (a60 : PySem.W.findIn K (.ref CE) "_ask" = some (some (.ref f60)))
    (i60 : PySem.W.isFn K (.ref f60) = true)
    (l60 : K.lookup f60 = some ⟨oc60, od60, .func (PySem.W.fnOf "_ask" "Machine._ask" (defArgs sMaAsk) (defBody sMaAsk) (defScope sMaAsk) .none kV60 dc60 pm60 an60 cd60 ct60), sl60⟩)
    (c60 : PySem.W.codeIn K cd60 "Machine._ask" = true)
    (k60 : PySem.W.keepIn K (.ref f60) = true)
    (a61 : PySem.W.findIn K (.ref CE) "_end" = some (some (.ref f61)))
    (i61 : PySem.W.isFn K (.ref f61) = true)
    (l61 : K.lookup f61 = some ⟨oc61, od61, .func (PySem.W.fnOf "_end" "Machine._end" (defArgs sMaEnd) (defBody sMaEnd) (defScope sMaEnd) .none kV61 dc61 pm61 an61 cd61 ct61), sl61⟩)
    (c61 : PySem.W.codeIn K cd61 "Machine._end" = true)
    (k61 : PySem.W.keepIn K (.ref f61) = true)
    (a62 : PySem.W.findIn K (.ref CE) "_go_on" = some (some (.ref f62)))
    (i62 : PySem.W.isFn K (.ref f62) = true)
    (l62 : K.lookup f62 = some ⟨oc62, od62, .func (PySem.W.fnOf "_go_on" "Machine._go_on" (defArgs sMaGo) (defBody sMaGo) (defScope sMaGo) .none kV62 dc62 pm62 an62 cd62 ct62), sl62⟩)
    (c62 : PySem.W.codeIn K cd62 "Machine._go_on" = true)
    (k62 : PySem.W.keepIn K (.ref f62) = true)
    (a63 : PySem.W.findIn K (.ref CV) "__init__" = some (some (.ref f63)))
    (i63 : PySem.W.isFn K (.ref f63) = true)
    (l63 : K.lookup f63 = some ⟨oc63, od63, .func (PySem.W.fnOf "__init__" "Leaving.__init__" (defArgs sLvInit) (defBody sLvInit) (defScope sLvInit) .none kV63 dc63 pm63 an63 cd63 ct63), sl63⟩)
    (c63 : PySem.W.codeIn K cd63 "Leaving.__init__" = true)
    (k63 : PySem.W.keepIn K (.ref f63) = true)
    (a64 : PySem.W.findIn K (.ref CV) "request" = some (some (.ref f64)))
    (i64 : PySem.W.isFn K (.ref f64) = true)
    (l64 : K.lookup f64 = some ⟨oc64, od64, .func (PySem.W.fnOf "request" "Leaving.request" (defArgs sLvReq) (defBody sLvReq) (defScope sLvReq) .none kV64 dc64 pm64 an64 cd64 ct64), sl64⟩)
    (c64 : PySem.W.codeIn K cd64 "Leaving.request" = true)
    (k64 : PySem.W.keepIn K (.ref f64) = true)
    (a65 : PySem.W.findIn K (.ref CV) "accept" = some (some (.ref f65)))
    (i65 : PySem.W.isFn K (.ref f65) = true)
    (l65 : K.lookup f65 = some ⟨oc65, od65, .func (PySem.W.fnOf "accept" "Leaving.accept" (defArgs sLvAcc) (defBody sLvAcc) (defScope sLvAcc) .none kV65 dc65 pm65 an65 cd65 ct65), sl65⟩)
    (c65 : PySem.W.codeIn K cd65 "Leaving.accept" = true)
    (k65 : PySem.W.keepIn K (.ref f65) = true)
    (a66 : PySem.W.findIn K (.ref CV) "_take_stamp" = some (some (.ref f66)))
    (i66 : PySem.W.isFn K (.ref f66) = true)
    (l66 : K.lookup f66 = some ⟨oc66, od66, .func (PySem.W.fnOf "_take_stamp" "Leaving._take_stamp" (defArgs sLvSt) (defBody sLvSt) (defScope sLvSt) .none kV66 dc66 pm66 an66 cd66 ct66), sl66⟩)
    (c66 : PySem.W.codeIn K cd66 "Leaving._take_stamp" = true)
    (k66 : PySem.W.keepIn K (.ref f66) = true)
    (a67 : PySem.W.findIn K (.ref CV) "_leave" = some (some (.ref f67)))
    (i67 : PySem.W.isFn K (.ref f67) = true)
    (l67 : K.lookup f67 = some ⟨oc67, od67, .func (PySem.W.fnOf "_leave" "Leaving._leave" (defArgs sLvLv) (defBody sLvLv) (defScope sLvLv) .none kV67 dc67 pm67 an67 cd67 ct67), sl67⟩)
    (c67 : PySem.W.codeIn K cd67 "Leaving._leave" = true)
    (k67 : PySem.W.keepIn K (.ref f67) = true)
    (a68 : PySem.W.findIn K (.ref CV) "_end_here" = some (some (.ref f68)))
    (i68 : PySem.W.isFn K (.ref f68) = true)
    (l68 : K.lookup f68 = some ⟨oc68, od68, .func (PySem.W.fnOf "_end_here" "Leaving._end_here" (defArgs sLvHere) (defBody sLvHere) (defScope sLvHere) .none kV68 dc68 pm68 an68 cd68 ct68), sl68⟩)
    (c68 : PySem.W.codeIn K cd68 "Leaving._end_here" = true)
    (k68 : PySem.W.keepIn K (.ref f68) = true)
    (a69 : PySem.W.findIn K (.ref CV) "_take_epoch" = some (some (.ref f69)))
    (i69 : PySem.W.isFn K (.ref f69) = true)
    (l69 : K.lookup f69 = some ⟨oc69, od69, .func (PySem.W.fnOf "_take_epoch" "Leaving._take_epoch" (defArgs sLvEp) (defBody sLvEp) (defScope sLvEp) .none kV69 dc69 pm69 an69 cd69 ct69), sl69⟩)
    (c69 : PySem.W.codeIn K cd69 "Leaving._take_epoch" = true)
    (k69 : PySem.W.keepIn K (.ref f69) = true)
    (a70 : PySem.W.findIn K (.ref CV) "_look" = some (some (.ref f70)))
    (i70 : PySem.W.isFn K (.ref f70) = true)
    (l70 : K.lookup f70 = some ⟨oc70, od70, .func (PySem.W.fnOf "_look" "Leaving._look" (defArgs sLvLook) (defBody sLvLook) (defScope sLvLook) .none kV70 dc70 pm70 an70 cd70 ct70), sl70⟩)
    (c70 : PySem.W.codeIn K cd70 "Leaving._look" = true)
    (k70 : PySem.W.keepIn K (.ref f70) = true)
    (a71 : PySem.W.findIn K (.ref CV) "_take_slot" = some (some (.ref f71)))
    (i71 : PySem.W.isFn K (.ref f71) = true)
    (l71 : K.lookup f71 = some ⟨oc71, od71, .func (PySem.W.fnOf "_take_slot" "Leaving._take_slot" (defArgs sLvSlot) (defBody sLvSlot) (defScope sLvSlot) .none kV71 dc71 pm71 an71 cd71 ct71), sl71⟩)
    (c71 : PySem.W.codeIn K cd71 "Leaving._take_slot" = true)
    (k71 : PySem.W.keepIn K (.ref f71) = true)
    (a72 : PySem.W.findIn K (.ref CV) "_take_swap" = some (some (.ref f72)))
    (i72 : PySem.W.isFn K (.ref f72) = true)
    (l72 : K.lookup f72 = some ⟨oc72, od72, .func (PySem.W.fnOf "_take_swap" "Leaving._take_swap" (defArgs sLvSwap) (defBody sLvSwap) (defScope sLvSwap) .none kV72 dc72 pm72 an72 cd72 ct72), sl72⟩)
    (c72 : PySem.W.codeIn K cd72 "Leaving._take_swap" = true)
    (k72 : PySem.W.keepIn K (.ref f72) = true)
    (a73 : PySem.W.findIn K (.ref CV) "_free_waiting" = some (some (.ref f73)))
    (i73 : PySem.W.isFn K (.ref f73) = true)
    (l73 : K.lookup f73 = some ⟨oc73, od73, .func (PySem.W.fnOf "_free_waiting" "Leaving._free_waiting" (defArgs sLvFree) (defBody sLvFree) (defScope sLvFree) .none kV73 dc73 pm73 an73 cd73 ct73), sl73⟩)
    (c73 : PySem.W.codeIn K cd73 "Leaving._free_waiting" = true)
    (k73 : PySem.W.keepIn K (.ref f73) = true)
    (a74 : PySem.W.findIn K (.ref CV) "_ask" = some (some (.ref f74)))
    (i74 : PySem.W.isFn K (.ref f74) = true)
    (l74 : K.lookup f74 = some ⟨oc74, od74, .func (PySem.W.fnOf "_ask" "Machine._ask" (defArgs sMaAsk) (defBody sMaAsk) (defScope sMaAsk) .none kV74 dc74 pm74 an74 cd74 ct74), sl74⟩)
    (c74 : PySem.W.codeIn K cd74 "Machine._ask" = true)
    (k74 : PySem.W.keepIn K (.ref f74) = true)
    (a75 : PySem.W.findIn K (.ref CV) "_end" = some (some (.ref f75)))
    (i75 : PySem.W.isFn K (.ref f75) = true)
    (l75 : K.lookup f75 = some ⟨oc75, od75, .func (PySem.W.fnOf "_end" "Machine._end" (defArgs sMaEnd) (defBody sMaEnd) (defScope sMaEnd) .none kV75 dc75 pm75 an75 cd75 ct75), sl75⟩)
    (c75 : PySem.W.codeIn K cd75 "Machine._end" = true)
    (k75 : PySem.W.keepIn K (.ref f75) = true)
    (a76 : PySem.W.findIn K (.ref CV) "_go_on" = some (some (.ref f76)))
    (i76 : PySem.W.isFn K (.ref f76) = true)
    (l76 : K.lookup f76 = some ⟨oc76, od76, .func (PySem.W.fnOf "_go_on" "Machine._go_on" (defArgs sMaGo) (defBody sMaGo) (defScope sMaGo) .none kV76 dc76 pm76 an76 cd76 ct76), sl76⟩)
    (c76 : PySem.W.codeIn K cd76 "Machine._go_on" = true)
    (k76 : PySem.W.keepIn K (.ref f76) = true)
    (pgC : PySem.W.plainGet K C Str.empty = true)
    (hdC : PySem.W.hasDictIn K C = true)
    (poC : PySem.W.plainOver K C = true)
    (saC : PySem.W.findIn K (.ref C) "__setattr__" = some (some (.builtin "object.__setattr__")))
    (mkC : PySem.W.makesIn K C = true)
    (kcC : PySem.W.keepIn K (.ref C) = true)
    (pgM : PySem.W.plainGet K M Str.empty = true)
    (hdM : PySem.W.hasDictIn K M = true)
    (poM : PySem.W.plainOver K M = true)
    (saM : PySem.W.findIn K (.ref M) "__setattr__" = some (some (.builtin "object.__setattr__")))
    (mkM : PySem.W.makesIn K M = true)
    (kcM : PySem.W.keepIn K (.ref M) = true)
    (pgS : PySem.W.plainGet K S Str.empty = true)
    (hdS : PySem.W.hasDictIn K S = true)
    (poS : PySem.W.plainOver K S = true)
    (saS : PySem.W.findIn K (.ref S) "__setattr__" = some (some (.builtin "object.__setattr__")))
    (mkS : PySem.W.makesIn K S = true)
    (kcS : PySem.W.keepIn K (.ref S) = true)
    (pgSK : PySem.W.plainGet K SK Str.empty = true)
    (hdSK : PySem.W.hasDictIn K SK = true)
    (poSK : PySem.W.plainOver K SK = true)
    (saSK : PySem.W.findIn K (.ref SK) "__setattr__" = some (some (.builtin "object.__setattr__")))
    (mkSK : PySem.W.makesIn K SK = true)
    (kcSK : PySem.W.keepIn K (.ref SK) = true)
    (pgMA : PySem.W.plainGet K MA Str.empty = true)
    (hdMA : PySem.W.hasDictIn K MA = true)
    (poMA : PySem.W.plainOver K MA = true)
    (saMA : PySem.W.findIn K (.ref MA) "__setattr__" = some (some (.builtin "object.__setattr__")))
    (mkMA : PySem.W.makesIn K MA = true)
    (kcMA : PySem.W.keepIn K (.ref MA) = true)
    (pgCE : PySem.W.plainGet K CE Str.empty = true)
    (hdCE : PySem.W.hasDictIn K CE = true)
    (poCE : PySem.W.plainOver K CE = true)
    (saCE : PySem.W.findIn K (.ref CE) "__setattr__" = some (some (.builtin "object.__setattr__")))
    (mkCE : PySem.W.makesIn K CE = true)
    (kcCE : PySem.W.keepIn K (.ref CE) = true)
    (pgCV : PySem.W.plainGet K CV Str.empty = true)
    (hdCV : PySem.W.hasDictIn K CV = true)
    (poCV : PySem.W.plainOver K CV = true)
    (saCV : PySem.W.findIn K (.ref CV) "__setattr__" = some (some (.builtin "object.__setattr__")))
    (mkCV : PySem.W.makesIn K CV = true)
    (kcCV : PySem.W.keepIn K (.ref CV) = true)
    (gEm : PySem.W.nsIn K mainGlobals "EMPTY" = some (some (.ref E0)))
    (Cthreads : PySem.W.findIn K (.ref C) "threads" = some none)
    (Cwords : PySem.W.findIn K (.ref C) "words" = some none)
    (Crecords : PySem.W.findIn K (.ref C) "records" = some none)
    (Mlayout : PySem.W.findIn K (.ref M) "layout" = some none)
    (Mcount : PySem.W.findIn K (.ref M) "count" = some none)
    (M_passing : PySem.W.findIn K (.ref M) "_passing" = some none)
    (M_trails : PySem.W.findIn K (.ref M) "_trails" = some none)
    (M_lost : PySem.W.findIn K (.ref M) "_lost" = some none)
    (M_notes : PySem.W.findIn K (.ref M) "_notes" = some none)
    (M_log : PySem.W.findIn K (.ref M) "_log" = some none)
    (Slayout : PySem.W.findIn K (.ref S) "layout" = some none)
    (Sthread : PySem.W.findIn K (.ref S) "thread" = some none)
    (S_free : PySem.W.findIn K (.ref S) "_free" = some none)
    (S_waiting : PySem.W.findIn K (.ref S) "_waiting" = some none)
    (S_out : PySem.W.findIn K (.ref S) "_out" = some none)
    (SK_machines : PySem.W.findIn K (.ref SK) "_machines" = some none)
    (SK_value : PySem.W.findIn K (.ref SK) "_value" = some none)
    (CE_wanted : PySem.W.findIn K (.ref CE) "_wanted" = some none)
    (CE_left : PySem.W.findIn K (.ref CE) "_left" = some none)
    (CE_then : PySem.W.findIn K (.ref CE) "_then" = some none)
    (CE_epoch_cell : PySem.W.findIn K (.ref CE) "_epoch_cell" = some none)
    (CE_slot : PySem.W.findIn K (.ref CE) "_slot" = some none)
    (CE_entered : PySem.W.findIn K (.ref CE) "_entered" = some none)
    (CV_wanted : PySem.W.findIn K (.ref CV) "_wanted" = some none)
    (CV_left : PySem.W.findIn K (.ref CV) "_left" = some none)
    (CV_then : PySem.W.findIn K (.ref CV) "_then" = some none)
    (CV_store : PySem.W.findIn K (.ref CV) "_store" = some none)
    (CV_epoch_cell : PySem.W.findIn K (.ref CV) "_epoch_cell" = some none)
    (CV_slots : PySem.W.findIn K (.ref CV) "_slots" = some none)
    (CV_epoch : PySem.W.findIn K (.ref CV) "_epoch" = some none)
    (hn : PySem.W.specialIn K (.builtin "object.__class__") "__get__" = some (some (.builtin "getset_descriptor.__get__")))
    (ht : PySem.W.takesIn K (.builtin "object.__class__") = some true)
    (xN : PySem.W.excIn K NV bmVE "ValueError.__new__" = true)
    (kN : PySem.W.keepIn K (.ref NV) = true)
    (sN : PySem.W.subIn K (.ref NV) (.type "BaseException") = some true)
    (tN : PySem.W.typeIn K (.ref NV) = some (.type "type"))
    (sL : PySem.W.subIn K (.ref LE) (.type "BaseException") = some true)
    (dL : PySem.W.hasDictIn K LE = true)
    (tL : PySem.W.typeIn K (.ref LE) = some (.type "type"))
    (sNL : PySem.W.subIn K (.ref NV) (.ref LE) = some true)
    (Ng : PySem.W.findIn K (.ref NV) "__getattribute__" = some (some (.builtin "BaseException.__getattribute__")))
    (Nk : PySem.W.findIn K (.ref NV) "__getattr__" = some none)
    (Nd : PySem.W.hasDictIn K NV = true)
    (Na : PySem.W.findIn K (.ref NV) "__class__" = some (some (.builtin "object.__class__")))
    (Nm : PySem.W.mroIn K NV (.type "object") = some true)
    (bgEn : PySem.W.specialIn K (.ref f59) "__get__" = some (some (.builtin "function.__get__")))
    (btEn : PySem.W.takesIn K (.ref f59) = some false)
    (bfEn : PySem.W.fnIn K f59 = true)
    (bgEp : PySem.W.specialIn K (.ref f69) "__get__" = some (some (.builtin "function.__get__")))
    (btEp : PySem.W.takesIn K (.ref f69) = some false)
    (bfEp : PySem.W.fnIn K f69 = true)
    (bgHe : PySem.W.specialIn K (.ref f68) "__get__" = some (some (.builtin "function.__get__")))
    (btHe : PySem.W.takesIn K (.ref f68) = some false)
    (bfHe : PySem.W.fnIn K f68 = true)
    (bgSt : PySem.W.specialIn K (.ref f66) "__get__" = some (some (.builtin "function.__get__")))
    (btSt : PySem.W.takesIn K (.ref f66) = some false)
    (bfSt : PySem.W.fnIn K f66 = true)
    (bgSl : PySem.W.specialIn K (.ref f71) "__get__" = some (some (.builtin "function.__get__")))
    (btSl : PySem.W.takesIn K (.ref f71) = some false)
    (bfSl : PySem.W.fnIn K f71 = true)
    (bgSw : PySem.W.specialIn K (.ref f72) "__get__" = some (some (.builtin "function.__get__")))
    (btSw : PySem.W.takesIn K (.ref f72) = some false)
    (bfSw : PySem.W.fnIn K f72 = true)
    (mr : PySem.W.readsIn K MA (.type "type") = true)
    (mc : PySem.W.findCls K (.ref MA) (.type "type") "__init__" = some (.val (.ref f55)))
    (mg0 : PySem.W.specialIn K (.ref MA) "__getattribute__" = some (some (.builtin "type.__getattribute__")))
    (z_isinstance : PySem.W.nsIn K mainGlobals "isinstance" = some none)
    (z_int : PySem.W.nsIn K mainGlobals "int" = some none)
    (z_bool : PySem.W.nsIn K mainGlobals "bool" = some none)
    (z_str : PySem.W.nsIn K mainGlobals "str" = some none)
    (z_tuple : PySem.W.nsIn K mainGlobals "tuple" = some none)
    (z_list : PySem.W.nsIn K mainGlobals "list" = some none)
    (z_range : PySem.W.nsIn K mainGlobals "range" = some none)
    (z_len : PySem.W.nsIn K mainGlobals "len" = some none)
    (z_abs : PySem.W.nsIn K mainGlobals "abs" = some none)
    (z_max : PySem.W.nsIn K mainGlobals "max" = some none)
    (z_min : PySem.W.nsIn K mainGlobals "min" = some none)
    (z_zip : PySem.W.nsIn K mainGlobals "zip" = some none)
    (z_sorted : PySem.W.nsIn K mainGlobals "sorted" = some none)
    : ∃ fd : FuncData, (∀ (s : Shared) (v : Value), BindsTo s fd ⟨[v], []⟩ [("script", v)]) ∧ ∀ base : Heap, K.In base → base.Ns mainGlobals mg → FnOk l.prog w K mg base CX0 21 fa fd ["script"] (spLaw K) := by
  have e := hfa.symm.trans (PySem.W.mg_of X G a19)
  cases e
  have F1 := fun_mk (st := sWhole) l1 c1 k1
  have b1 := F1.binds (ps := ["value"]) fun _ _ _ _ _ _ us hl => match us, hl with | [_], _ => rfl
  have T_is_whole : GT K mg "is_whole" sWhole ["value"] := ⟨_, _, F1, PySem.W.mg_of X G a1, b1⟩
  have F2 := fun_mk (st := sWithin) l2 c2 k2
  have b2 := F2.binds (ps := ["value", "low", "high"]) fun _ _ _ _ _ _ us hl => match us, hl with | [_, _, _], _ => rfl
  have T_is_within : GT K mg "is_within" sWithin ["value", "low", "high"] := ⟨_, _, F2, PySem.W.mg_of X G a2, b2⟩
  have F3 := fun_mk (st := sIsValue) l3 c3 k3
  have b3 := F3.binds (ps := ["value"]) fun _ _ _ _ _ _ us hl => match us, hl with | [_], _ => rfl
  have T_is_value : GT K mg "is_value" sIsValue ["value"] := ⟨_, _, F3, PySem.W.mg_of X G a3, b3⟩
  have F4 := fun_mk (st := sIsSame) l4 c4 k4
  have b4 := F4.binds (ps := ["one", "other"]) fun _ _ _ _ _ _ us hl => match us, hl with | [_, _], _ => rfl
  have T_is_same : GT K mg "is_same" sIsSame ["one", "other"] := ⟨_, _, F4, PySem.W.mg_of X G a4, b4⟩
  have F5 := fun_mk (st := sDivided) l5 c5 k5
  have b5 := F5.binds (ps := ["layout", "cells", "thread"]) fun _ _ _ _ _ _ us hl => match us, hl with | [_, _, _], _ => rfl
  have T_divided : GT K mg "divided" sDivided ["layout", "cells", "thread"] := ⟨_, _, F5, PySem.W.mg_of X G a5, b5⟩
  have F6 := fun_mk (st := sOther) l6 c6 k6
  have b6 := F6.binds (ps := ["store"]) fun _ _ _ _ _ _ us hl => match us, hl with | [_], _ => rfl
  have T_other_slots : GT K mg "other_slots" sOther ["store"] := ⟨_, _, F6, PySem.W.mg_of X G a6, b6⟩
  have F7 := fun_mk (st := sIsAcc) l7 c7 k7
  have b7 := F7.binds (ps := ["layout", "request"]) fun _ _ _ _ _ _ us hl => match us, hl with | [_, _], _ => rfl
  have T_is_access : GT K mg "is_access" sIsAcc ["layout", "request"] := ⟨_, _, F7, PySem.W.mg_of X G a7, b7⟩
  have F8 := fun_mk (st := sPass) l8 c8 k8
  have b8 := F8.binds (ps := ["layout"]) fun _ _ _ _ _ _ us hl => match us, hl with | [_], _ => rfl
  have T_passing_values : GT K mg "passing_values" sPass ["layout"] := ⟨_, _, F8, PySem.W.mg_of X G a8, b8⟩
  have F9 := fun_mk (st := sTrails) l9 c9 k9
  have b9 := F9.binds (ps := ["layout"]) fun _ _ _ _ _ _ us hl => match us, hl with | [_], _ => rfl
  have T_first_trails : GT K mg "first_trails" sTrails ["layout"] := ⟨_, _, F9, PySem.W.mg_of X G a9, b9⟩
  have F10 := fun_mk (st := sNotes) l10 c10 k10
  have b10 := F10.binds (ps := ["layout"]) fun _ _ _ _ _ _ us hl => match us, hl with | [_], _ => rfl
  have T_no_notes : GT K mg "no_notes" sNotes ["layout"] := ⟨_, _, F10, PySem.W.mg_of X G a10, b10⟩
  have F11 := fun_mk (st := sTape) l11 c11 k11
  have b11 := F11.binds (ps := ["script"]) fun _ _ _ _ _ _ us hl => match us, hl with | [_], _ => rfl
  have T__law_tape : GT K mg "_law_tape" sTape ["script"] := ⟨_, _, F11, PySem.W.mg_of X G a11, b11⟩
  have F12 := fun_mk (st := sAt) l12 c12 k12
  have b12 := F12.binds (ps := ["tape", "k"]) fun _ _ _ _ _ _ us hl => match us, hl with | [_, _], _ => rfl
  have T__law_at : GT K mg "_law_at" sAt ["tape", "k"] := ⟨_, _, F12, PySem.W.mg_of X G a12, b12⟩
  have F13 := fun_mk (st := sKnown) l13 c13 k13
  have b13 := F13.binds (ps := ["rows", "active"]) fun _ _ _ _ _ _ us hl => match us, hl with | [_, _], _ => rfl
  have T__law_known : GT K mg "_law_known" sKnown ["rows", "active"] := ⟨_, _, F13, PySem.W.mg_of X G a13, b13⟩
  have F14 := fun_mk (st := sHeld) l14 c14 k14
  have b14 := F14.binds (ps := ["store", "rows", "active"]) fun _ _ _ _ _ _ us hl => match us, hl with | [_, _, _], _ => rfl
  have T__law_held : GT K mg "_law_held" sHeld ["store", "rows", "active"] := ⟨_, _, F14, PySem.W.mg_of X G a14, b14⟩
  have F15 := fun_mk (st := sLStore) l15 c15 k15
  have b15 := F15.binds (ps := ["layout", "thread"]) fun _ _ _ _ _ _ us hl => match us, hl with | [_, _], _ => rfl
  have T__law_store : GT K mg "_law_store" sLStore ["layout", "thread"] := ⟨_, _, F15, PySem.W.mg_of X G a15, b15⟩
  have F16 := fun_mk (st := sLWhole) l16 c16 k16
  have b16 := F16.binds (ps := ["store", "first"]) fun _ _ _ _ _ _ us hl => match us, hl with | [_, _], _ => rfl
  have T__law_whole : GT K mg "_law_whole" sLWhole ["store", "first"] := ⟨_, _, F16, PySem.W.mg_of X G a16, b16⟩
  have F17 := fun_mk (st := sLSlots) l17 c17 k17
  have b17 := F17.binds (ps := ["memory", "active", "slots"]) fun _ _ _ _ _ _ us hl => match us, hl with | [_, _, _], _ => rfl
  have T__law_slots : GT K mg "_law_slots" sLSlots ["memory", "active", "slots"] := ⟨_, _, F17, PySem.W.mg_of X G a17, b17⟩
  have F18 := fun_mk (st := sAlone) l18 c18 k18
  have b18 := F18.binds (ps := ["memory", "store", "thread"]) fun _ _ _ _ _ _ us hl => match us, hl with | [_, _, _], _ => rfl
  have T__law_alone : GT K mg "_law_alone" sAlone ["memory", "store", "thread"] := ⟨_, _, F18, PySem.W.mg_of X G a18, b18⟩
  have F19 := fun_mk (st := sLaw) l19 c19 k19
  have F20 := fun_mk (st := sLInit) l20 c20 k20
  have b20 := F20.binds (ps := ["self", "threads", "words", "records"]) fun _ _ _ _ _ _ us hl => match us, hl with | [_, _, _, _], _ => rfl
  have Mk_Layout : Mk K C f20 := ⟨mkC, a20, i20, kcC⟩
  have FI_Layout := F20
  have bI_Layout := b20
  have F21 := fun_mk (st := sEpoch) l21 c21 k21
  have b21 := F21.binds (ps := ["self"]) fun _ _ _ _ _ _ us hl => match us, hl with | [_], _ => rfl
  have T_Layout_epoch : MT K C "epoch" "Layout.epoch" sEpoch ["self"] := ⟨_, _, F21, ⟨a21, i21, k21⟩, b21⟩
  have F22 := fun_mk (st := sESlot) l22 c22 k22
  have b22 := F22.binds (ps := ["self", "thread"]) fun _ _ _ _ _ _ us hl => match us, hl with | [_, _], _ => rfl
  have T_Layout_epoch_slot : MT K C "epoch_slot" "Layout.epoch_slot" sESlot ["self", "thread"] := ⟨_, _, F22, ⟨a22, i22, k22⟩, b22⟩
  have F23 := fun_mk (st := sCSlot) l23 c23 k23
  have b23 := F23.binds (ps := ["self", "thread"]) fun _ _ _ _ _ _ us hl => match us, hl with | [_, _], _ => rfl
  have T_Layout_call_slot : MT K C "call_slot" "Layout.call_slot" sCSlot ["self", "thread"] := ⟨_, _, F23, ⟨a23, i23, k23⟩, b23⟩
  have F24 := fun_mk (st := sWord) l24 c24 k24
  have b24 := F24.binds (ps := ["self", "index"]) fun _ _ _ _ _ _ us hl => match us, hl with | [_, _], _ => rfl
  have T_Layout_word : MT K C "word" "Layout.word" sWord ["self", "index"] := ⟨_, _, F24, ⟨a24, i24, k24⟩, b24⟩
  have F25 := fun_mk (st := sRecord) l25 c25 k25
  have b25 := F25.binds (ps := ["self", "index"]) fun _ _ _ _ _ _ us hl => match us, hl with | [_, _], _ => rfl
  have T_Layout_record : MT K C "record" "Layout.record" sRecord ["self", "index"] := ⟨_, _, F25, ⟨a25, i25, k25⟩, b25⟩
  have F26 := fun_mk (st := sCells) l26 c26 k26
  have b26 := F26.binds (ps := ["self"]) fun _ _ _ _ _ _ us hl => match us, hl with | [_], _ => rfl
  have T_Layout_cells : MT K C "cells" "Layout.cells" sCells ["self"] := ⟨_, _, F26, ⟨a26, i26, k26⟩, b26⟩
  have F27 := fun_mk (st := sIsCell) l27 c27 k27
  have b27 := F27.binds (ps := ["self", "cell"]) fun _ _ _ _ _ _ us hl => match us, hl with | [_, _], _ => rfl
  have T_Layout_is_cell : MT K C "is_cell" "Layout.is_cell" sIsCell ["self", "cell"] := ⟨_, _, F27, ⟨a27, i27, k27⟩, b27⟩
  have F28 := fun_mk (st := sIsLast) l28 c28 k28
  have b28 := F28.binds (ps := ["self", "cell"]) fun _ _ _ _ _ _ us hl => match us, hl with | [_, _], _ => rfl
  have T_Layout_is_lasting : MT K C "is_lasting" "Layout.is_lasting" sIsLast ["self", "cell"] := ⟨_, _, F28, ⟨a28, i28, k28⟩, b28⟩
  have F29 := fun_mk (st := sHasT) l29 c29 k29
  have b29 := F29.binds (ps := ["self", "thread"]) fun _ _ _ _ _ _ us hl => match us, hl with | [_, _], _ => rfl
  have T_Layout_has_thread : MT K C "has_thread" "Layout.has_thread" sHasT ["self", "thread"] := ⟨_, _, F29, ⟨a29, i29, k29⟩, b29⟩
  have F30 := fun_mk (st := sMInit) l30 c30 k30
  have b30 := F30.binds (ps := ["self", "layout"]) fun _ _ _ _ _ _ us hl => match us, hl with | [_, _], _ => rfl
  have Mk_Memory : Mk K M f30 := ⟨mkM, a30, i30, kcM⟩
  have FI_Memory := F30
  have bI_Memory := b30
  have F31 := fun_mk (st := sAccess) l31 c31 k31
  have b31 := F31.binds (ps := ["self", "thread", "request"]) fun _ _ _ _ _ _ us hl => match us, hl with | [_, _, _], _ => rfl
  have T_Memory_access : MT K M "access" "Memory.access" sAccess ["self", "thread", "request"] := ⟨_, _, F31, ⟨a31, i31, k31⟩, b31⟩
  have F32 := fun_mk (st := sPeek) l32 c32 k32
  have b32 := F32.binds (ps := ["self", "cell"]) fun _ _ _ _ _ _ us hl => match us, hl with | [_, _], _ => rfl
  have T_Memory_peek : MT K M "peek" "Memory.peek" sPeek ["self", "cell"] := ⟨_, _, F32, ⟨a32, i32, k32⟩, b32⟩
  have F33 := fun_mk (st := sLog) l33 c33 k33
  have b33 := F33.binds (ps := ["self"]) fun _ _ _ _ _ _ us hl => match us, hl with | [_], _ => rfl
  have T_Memory_log : MT K M "log" "Memory.log" sLog ["self"] := ⟨_, _, F33, ⟨a33, i33, k33⟩, b33⟩
  have F34 := fun_mk (st := sResult) l34 c34 k34
  have b34 := F34.binds (ps := ["self", "thread", "request"]) fun _ _ _ _ _ _ us hl => match us, hl with | [_, _, _], _ => rfl
  have T_Memory__result : MT K M "_result" "Memory._result" sResult ["self", "thread", "request"] := ⟨_, _, F34, ⟨a34, i34, k34⟩, b34⟩
  have F35 := fun_mk (st := sGive) l35 c35 k35
  have b35 := F35.binds (ps := ["self", "cell", "value"]) fun _ _ _ _ _ _ us hl => match us, hl with | [_, _, _], _ => rfl
  have T_Memory__give : MT K M "_give" "Memory._give" sGive ["self", "cell", "value"] := ⟨_, _, F35, ⟨a35, i35, k35⟩, b35⟩
  have F36 := fun_mk (st := sGiveIf) l36 c36 k36
  have b36 := F36.binds (ps := ["self", "cell", "old", "new"]) fun _ _ _ _ _ _ us hl => match us, hl with | [_, _, _, _], _ => rfl
  have T_Memory__give_if : MT K M "_give_if" "Memory._give_if" sGiveIf ["self", "cell", "old", "new"] := ⟨_, _, F36, ⟨a36, i36, k36⟩, b36⟩
  have F37 := fun_mk (st := sFence) l37 c37 k37
  have b37 := F37.binds (ps := ["self", "thread"]) fun _ _ _ _ _ _ us hl => match us, hl with | [_, _], _ => rfl
  have T_Memory__fence : MT K M "_fence" "Memory._fence" sFence ["self", "thread"] := ⟨_, _, F37, ⟨a37, i37, k37⟩, b37⟩
  have F38 := fun_mk (st := sShort) l38 c38 k38
  have b38 := F38.binds (ps := ["self", "cell", "steps"]) fun _ _ _ _ _ _ us hl => match us, hl with | [_, _, _], _ => rfl
  have T_Memory__shorten : MT K M "_shorten" "Memory._shorten" sShort ["self", "cell", "steps"] := ⟨_, _, F38, ⟨a38, i38, k38⟩, b38⟩
  have F39 := fun_mk (st := sSInit) l39 c39 k39
  have b39 := F39.binds (ps := ["self", "layout", "thread", "cells"]) fun _ _ _ _ _ _ us hl => match us, hl with | [_, _, _, _], _ => rfl
  have Mk_Store : Mk K S f39 := ⟨mkS, a39, i39, kcS⟩
  have FI_Store := F39
  have bI_Store := b39
  have F40 := fun_mk (st := sTake) l40 c40 k40
  have b40 := F40.binds (ps := ["self", "many"]) fun _ _ _ _ _ _ us hl => match us, hl with | [_, _], _ => rfl
  have T_Store_take : MT K S "take" "Store.take" sTake ["self", "many"] := ⟨_, _, F40, ⟨a40, i40, k40⟩, b40⟩
  have F41 := fun_mk (st := sGiveB) l41 c41 k41
  have b41 := F41.binds (ps := ["self", "cells"]) fun _ _ _ _ _ _ us hl => match us, hl with | [_, _], _ => rfl
  have T_Store_give_back : MT K S "give_back" "Store.give_back" sGiveB ["self", "cells"] := ⟨_, _, F41, ⟨a41, i41, k41⟩, b41⟩
  have F42 := fun_mk (st := sTOut) l42 c42 k42
  have b42 := F42.binds (ps := ["self", "cells"]) fun _ _ _ _ _ _ us hl => match us, hl with | [_, _], _ => rfl
  have T_Store_take_out : MT K S "take_out" "Store.take_out" sTOut ["self", "cells"] := ⟨_, _, F42, ⟨a42, i42, k42⟩, b42⟩
  have F43 := fun_mk (st := sFreeC) l43 c43 k43
  have b43 := F43.binds (ps := ["self"]) fun _ _ _ _ _ _ us hl => match us, hl with | [_], _ => rfl
  have T_Store_free_cells : MT K S "free_cells" "Store.free_cells" sFreeC ["self"] := ⟨_, _, F43, ⟨a43, i43, k43⟩, b43⟩
  have F44 := fun_mk (st := sWait) l44 c44 k44
  have b44 := F44.binds (ps := ["self"]) fun _ _ _ _ _ _ us hl => match us, hl with | [_], _ => rfl
  have T_Store_waiting : MT K S "waiting" "Store.waiting" sWait ["self"] := ⟨_, _, F44, ⟨a44, i44, k44⟩, b44⟩
  have F45 := fun_mk (st := sHasOut) l45 c45 k45
  have b45 := F45.binds (ps := ["self"]) fun _ _ _ _ _ _ us hl => match us, hl with | [_], _ => rfl
  have T_Store_has_taken_out : MT K S "has_taken_out" "Store.has_taken_out" sHasOut ["self"] := ⟨_, _, F45, ⟨a45, i45, k45⟩, b45⟩
  have F46 := fun_mk (st := sHasWait) l46 c46 k46
  have b46 := F46.binds (ps := ["self"]) fun _ _ _ _ _ _ us hl => match us, hl with | [_], _ => rfl
  have T_Store_has_waiting : MT K S "has_waiting" "Store.has_waiting" sHasWait ["self"] := ⟨_, _, F46, ⟨a46, i46, k46⟩, b46⟩
  have F47 := fun_mk (st := sStamp) l47 c47 k47
  have b47 := F47.binds (ps := ["self", "epoch"]) fun _ _ _ _ _ _ us hl => match us, hl with | [_, _], _ => rfl
  have T_Store_stamp : MT K S "stamp" "Store.stamp" sStamp ["self", "epoch"] := ⟨_, _, F47, ⟨a47, i47, k47⟩, b47⟩
  have F48 := fun_mk (st := sFreeUp) l48 c48 k48
  have b48 := F48.binds (ps := ["self", "last"]) fun _ _ _ _ _ _ us hl => match us, hl with | [_, _], _ => rfl
  have T_Store_free_up_to : MT K S "free_up_to" "Store.free_up_to" sFreeUp ["self", "last"] := ⟨_, _, F48, ⟨a48, i48, k48⟩, b48⟩
  have F49 := fun_mk (st := sKInit) l49 c49 k49
  have b49 := F49.binds (ps := ["self", "machine"]) fun _ _ _ _ _ _ us hl => match us, hl with | [_, _], _ => rfl
  have Mk_Stack : Mk K SK f49 := ⟨mkSK, a49, i49, kcSK⟩
  have FI_Stack := F49
  have bI_Stack := b49
  have F50 := fun_mk (st := sKStep) l50 c50 k50
  have b50 := F50.binds (ps := ["self", "memory", "thread"]) fun _ _ _ _ _ _ us hl => match us, hl with | [_, _, _], _ => rfl
  have T_Stack_step : MT K SK "step" "Stack.step" sKStep ["self", "memory", "thread"] := ⟨_, _, F50, ⟨a50, i50, k50⟩, b50⟩
  have F51 := fun_mk (st := sKEnded) l51 c51 k51
  have b51 := F51.binds (ps := ["self"]) fun _ _ _ _ _ _ us hl => match us, hl with | [_], _ => rfl
  have T_Stack_ended : MT K SK "ended" "Stack.ended" sKEnded ["self"] := ⟨_, _, F51, ⟨a51, i51, k51⟩, b51⟩
  have F52 := fun_mk (st := sKCheck) l52 c52 k52
  have b52 := F52.binds (ps := ["self", "memory", "thread"]) fun _ _ _ _ _ _ us hl => match us, hl with | [_, _, _], _ => rfl
  have T_Stack__check_thread : MT K SK "_check_thread" "Stack._check_thread" sKCheck ["self", "memory", "thread"] := ⟨_, _, F52, ⟨a52, i52, k52⟩, b52⟩
  have F53 := fun_mk (st := sKSettle) l53 c53 k53
  have b53 := F53.binds (ps := ["self"]) fun _ _ _ _ _ _ us hl => match us, hl with | [_], _ => rfl
  have T_Stack__settle : MT K SK "_settle" "Stack._settle" sKSettle ["self"] := ⟨_, _, F53, ⟨a53, i53, k53⟩, b53⟩
  have F54 := fun_mk (st := sKEnd) l54 c54 k54
  have b54 := F54.binds (ps := ["self", "value"]) fun _ _ _ _ _ _ us hl => match us, hl with | [_, _], _ => rfl
  have T_Stack__end : MT K SK "_end" "Stack._end" sKEnd ["self", "value"] := ⟨_, _, F54, ⟨a54, i54, k54⟩, b54⟩
  have F55 := fun_mk (st := sMaInit) l55 c55 k55
  have b55 := F55.binds (ps := ["self"]) fun _ _ _ _ _ _ us hl => match us, hl with | [_], _ => rfl
  have Mk_Machine : Mk K MA f55 := ⟨mkMA, a55, i55, kcMA⟩
  have FI_Machine := F55
  have bI_Machine := b55
  have F56 := fun_mk (st := sEnInit) l56 c56 k56
  have b56 := F56.binds (ps := ["self", "store"]) fun _ _ _ _ _ _ us hl => match us, hl with | [_, _], _ => rfl
  have Mk_Entering : Mk K CE f56 := ⟨mkCE, a56, i56, kcCE⟩
  have FI_Entering := F56
  have bI_Entering := b56
  have F57 := fun_mk (st := sEnReq) l57 c57 k57
  have b57 := F57.binds (ps := ["self"]) fun _ _ _ _ _ _ us hl => match us, hl with | [_], _ => rfl
  have T_Entering_request : MT K CE "request" "Entering.request" sEnReq ["self"] := ⟨_, _, F57, ⟨a57, i57, k57⟩, b57⟩
  have F58 := fun_mk (st := sEnAcc) l58 c58 k58
  have b58 := F58.binds (ps := ["self", "result"]) fun _ _ _ _ _ _ us hl => match us, hl with | [_, _], _ => rfl
  have T_Entering_accept : MT K CE "accept" "Entering.accept" sEnAcc ["self", "result"] := ⟨_, _, F58, ⟨a58, i58, k58⟩, b58⟩
  have F59 := fun_mk (st := sEnEp) l59 c59 k59
  have b59 := F59.binds (ps := ["self", "result"]) fun _ _ _ _ _ _ us hl => match us, hl with | [_, _], _ => rfl
  have T_Entering__take_epoch : MT K CE "_take_epoch" "Entering._take_epoch" sEnEp ["self", "result"] := ⟨_, _, F59, ⟨a59, i59, k59⟩, b59⟩
  have F60 := fun_mk (st := sMaAsk) l60 c60 k60
  have b60 := F60.binds (ps := ["self", "requests", "then"]) fun _ _ _ _ _ _ us hl => match us, hl with | [_, _, _], _ => rfl
  have T_Entering__ask : MT K CE "_ask" "Machine._ask" sMaAsk ["self", "requests", "then"] := ⟨_, _, F60, ⟨a60, i60, k60⟩, b60⟩
  have F61 := fun_mk (st := sMaEnd) l61 c61 k61
  have b61 := F61.binds (ps := ["self", "value"]) fun _ _ _ _ _ _ us hl => match us, hl with | [_, _], _ => rfl
  have T_Entering__end : MT K CE "_end" "Machine._end" sMaEnd ["self", "value"] := ⟨_, _, F61, ⟨a61, i61, k61⟩, b61⟩
  have F62 := fun_mk (st := sMaGo) l62 c62 k62
  have b62 := F62.binds (ps := ["self", "result"]) fun _ _ _ _ _ _ us hl => match us, hl with | [_, _], _ => rfl
  have T_Entering__go_on : MT K CE "_go_on" "Machine._go_on" sMaGo ["self", "result"] := ⟨_, _, F62, ⟨a62, i62, k62⟩, b62⟩
  have F63 := fun_mk (st := sLvInit) l63 c63 k63
  have b63 := F63.binds (ps := ["self", "store"]) fun _ _ _ _ _ _ us hl => match us, hl with | [_, _], _ => rfl
  have Mk_Leaving : Mk K CV f63 := ⟨mkCV, a63, i63, kcCV⟩
  have FI_Leaving := F63
  have bI_Leaving := b63
  have F64 := fun_mk (st := sLvReq) l64 c64 k64
  have b64 := F64.binds (ps := ["self"]) fun _ _ _ _ _ _ us hl => match us, hl with | [_], _ => rfl
  have T_Leaving_request : MT K CV "request" "Leaving.request" sLvReq ["self"] := ⟨_, _, F64, ⟨a64, i64, k64⟩, b64⟩
  have F65 := fun_mk (st := sLvAcc) l65 c65 k65
  have b65 := F65.binds (ps := ["self", "result"]) fun _ _ _ _ _ _ us hl => match us, hl with | [_, _], _ => rfl
  have T_Leaving_accept : MT K CV "accept" "Leaving.accept" sLvAcc ["self", "result"] := ⟨_, _, F65, ⟨a65, i65, k65⟩, b65⟩
  have F66 := fun_mk (st := sLvSt) l66 c66 k66
  have b66 := F66.binds (ps := ["self", "result"]) fun _ _ _ _ _ _ us hl => match us, hl with | [_, _], _ => rfl
  have T_Leaving__take_stamp : MT K CV "_take_stamp" "Leaving._take_stamp" sLvSt ["self", "result"] := ⟨_, _, F66, ⟨a66, i66, k66⟩, b66⟩
  have F67 := fun_mk (st := sLvLv) l67 c67 k67
  have b67 := F67.binds (ps := ["self"]) fun _ _ _ _ _ _ us hl => match us, hl with | [_], _ => rfl
  have T_Leaving__leave : MT K CV "_leave" "Leaving._leave" sLvLv ["self"] := ⟨_, _, F67, ⟨a67, i67, k67⟩, b67⟩
  have F68 := fun_mk (st := sLvHere) l68 c68 k68
  have b68 := F68.binds (ps := ["self", "result"]) fun _ _ _ _ _ _ us hl => match us, hl with | [_, _], _ => rfl
  have T_Leaving__end_here : MT K CV "_end_here" "Leaving._end_here" sLvHere ["self", "result"] := ⟨_, _, F68, ⟨a68, i68, k68⟩, b68⟩
  have F69 := fun_mk (st := sLvEp) l69 c69 k69
  have b69 := F69.binds (ps := ["self", "result"]) fun _ _ _ _ _ _ us hl => match us, hl with | [_, _], _ => rfl
  have T_Leaving__take_epoch : MT K CV "_take_epoch" "Leaving._take_epoch" sLvEp ["self", "result"] := ⟨_, _, F69, ⟨a69, i69, k69⟩, b69⟩
  have F70 := fun_mk (st := sLvLook) l70 c70 k70
  have b70 := F70.binds (ps := ["self"]) fun _ _ _ _ _ _ us hl => match us, hl with | [_], _ => rfl
  have T_Leaving__look : MT K CV "_look" "Leaving._look" sLvLook ["self"] := ⟨_, _, F70, ⟨a70, i70, k70⟩, b70⟩
  have F71 := fun_mk (st := sLvSlot) l71 c71 k71
  have b71 := F71.binds (ps := ["self", "result"]) fun _ _ _ _ _ _ us hl => match us, hl with | [_, _], _ => rfl
  have T_Leaving__take_slot : MT K CV "_take_slot" "Leaving._take_slot" sLvSlot ["self", "result"] := ⟨_, _, F71, ⟨a71, i71, k71⟩, b71⟩
  have F72 := fun_mk (st := sLvSwap) l72 c72 k72
  have b72 := F72.binds (ps := ["self", "result"]) fun _ _ _ _ _ _ us hl => match us, hl with | [_, _], _ => rfl
  have T_Leaving__take_swap : MT K CV "_take_swap" "Leaving._take_swap" sLvSwap ["self", "result"] := ⟨_, _, F72, ⟨a72, i72, k72⟩, b72⟩
  have F73 := fun_mk (st := sLvFree) l73 c73 k73
  have b73 := F73.binds (ps := ["self", "known"]) fun _ _ _ _ _ _ us hl => match us, hl with | [_, _], _ => rfl
  have T_Leaving__free_waiting : MT K CV "_free_waiting" "Leaving._free_waiting" sLvFree ["self", "known"] := ⟨_, _, F73, ⟨a73, i73, k73⟩, b73⟩
  have F74 := fun_mk (st := sMaAsk) l74 c74 k74
  have b74 := F74.binds (ps := ["self", "requests", "then"]) fun _ _ _ _ _ _ us hl => match us, hl with | [_, _, _], _ => rfl
  have T_Leaving__ask : MT K CV "_ask" "Machine._ask" sMaAsk ["self", "requests", "then"] := ⟨_, _, F74, ⟨a74, i74, k74⟩, b74⟩
  have F75 := fun_mk (st := sMaEnd) l75 c75 k75
  have b75 := F75.binds (ps := ["self", "value"]) fun _ _ _ _ _ _ us hl => match us, hl with | [_, _], _ => rfl
  have T_Leaving__end : MT K CV "_end" "Machine._end" sMaEnd ["self", "value"] := ⟨_, _, F75, ⟨a75, i75, k75⟩, b75⟩
  have F76 := fun_mk (st := sMaGo) l76 c76 k76
  have b76 := F76.binds (ps := ["self", "result"]) fun _ _ _ _ _ _ us hl => match us, hl with | [_, _], _ => rfl
  have T_Leaving__go_on : MT K CV "_go_on" "Machine._go_on" sMaGo ["self", "result"] := ⟨_, _, F76, ⟨a76, i76, k76⟩, b76⟩
  have Bn0 : Bn mg := ⟨PySem.W.mg_none_of X G z_isinstance, PySem.W.mg_none_of X G z_int, PySem.W.mg_none_of X G z_bool, PySem.W.mg_none_of X G z_str, PySem.W.mg_none_of X G z_tuple, PySem.W.mg_none_of X G z_list, PySem.W.mg_none_of X G z_range, PySem.W.mg_none_of X G z_len, PySem.W.mg_none_of X G z_abs⟩
  have T : LTxt K mg C := ⟨Bn0, ⟨pgC, hdC, poC, saC⟩, Cthreads, Cwords, Crecords⟩
  have TM : MTxt K M := ⟨⟨pgM, hdM, poM, saM⟩, Mlayout, Mcount, M_passing, M_trails, M_lost, M_notes, M_log⟩
  have TS : STxt K mg S := ⟨⟨pgS, hdS, poS, saS⟩, Slayout, Sthread, S_free, S_waiting, S_out, (PySem.W.mg_none_of X G z_sorted), (PySem.W.mg_none_of X G z_max), (PySem.W.mg_none_of X G z_len), (PySem.W.mg_none_of X G z_list), (PySem.W.mg_none_of X G z_bool)⟩
  have TK : KTx K SK := ⟨⟨pgSK, hdSK, poSK, saSK⟩, SK_machines, SK_value⟩
  have TCE : MTx K CE := ⟨⟨pgCE, hdCE, poCE, saCE⟩, CE_wanted, CE_left, CE_then⟩
  have TCV : MTx K CV := ⟨⟨pgCV, hdCV, poCV, saCV⟩, CV_wanted, CV_left, CV_then⟩
  have TE : ETx K CE := ⟨TCE, CE_epoch_cell, CE_slot, CE_entered⟩
  have TV : VTx K CV := ⟨TCV, CV_store, CV_epoch_cell, CV_slots, CV_epoch⟩
  have X0 : XTxt K mg NV LE := ⟨PySem.W.mg_of X G gNV, PySem.W.mg_of X G gLE, xN, kN, sN, tN, PySem.W.exm_ref sL dL tL sNL, ⟨Ng, Nk, sN, Nd, Na, hn, ht, Nm⟩, kit_self⟩
  have cMi : Mr.CFn K MA "__init__" f55 := ⟨⟨_, mr, mc⟩, mg0, k55⟩
  have BEn : BMeth K CE "_take_epoch" f59 := ⟨⟨a59, i59, k59⟩, bgEn, btEn, by decide +kernel, bfEn⟩
  have BEp : BMeth K CV "_take_epoch" f69 := ⟨⟨a69, i69, k69⟩, bgEp, btEp, by decide +kernel, bfEp⟩
  have BHe : BMeth K CV "_end_here" f68 := ⟨⟨a68, i68, k68⟩, bgHe, btHe, by decide +kernel, bfHe⟩
  have BSt : BMeth K CV "_take_stamp" f66 := ⟨⟨a66, i66, k66⟩, bgSt, btSt, by decide +kernel, bfSt⟩
  have BSl : BMeth K CV "_take_slot" f71 := ⟨⟨a71, i71, k71⟩, bgSl, btSl, by decide +kernel, bfSl⟩
  have BSw : BMeth K CV "_take_swap" f72 := ⟨⟨a72, i72, k72⟩, bgSw, btSw, by decide +kernel, bfSw⟩
  refine ⟨PySem.W.fnOf "law" "law" (defArgs sLaw) (defBody sLaw) (defScope sLaw) .none kV19 dc19 pm19 an19 cd19 ct19, fun s v => .of_eq rfl, fun base _ _ => ?_⟩
  have Gwh := go_whole (P := l.prog) (w := w) (base := base) T_is_whole Bn0
  have Gwi := go_within T_is_within Gwh
  have Giv := go_isvalueD (P := l.prog) (w := w) (base := base) T_is_value Bn0
  have Gsm := go_issameD (P := l.prog) (w := w) (base := base) T_is_same Bn0 (PySem.W.mg_none_of X G z_zip)
  have Gep := mo_epoch (P := l.prog) (w := w) (mg := mg) (base := base) T_Layout_epoch
  have Ges := mo_eslot (P := l.prog) (w := w) (mg := mg) (base := base) T_Layout_epoch_slot
  have Gcs := mo_cslot T_Layout_call_slot T Ges
  have Gwo := mo_word T_Layout_word T Gcs
  have Gre := mo_record T_Layout_record T Gwo
  have Gce := mo_cells T_Layout_cells T Gre
  have Gic := mo_iscell T_Layout_is_cell T Gce Gwi
  have Gil := mo_islast T_Layout_is_lasting T Gic Gcs
  have Ght := mo_hast T_Layout_has_thread T Gwi
  have Gia := go_isacc T_is_access T Gic Gil Giv
  have Gli := ok_linit FI_Layout T X0 Gwi
  have Gpv := go_pass (P := l.prog) (w := w) (base := base) T_passing_values T
  have Gft := go_trails T_first_trails T (PySem.W.mg_of X G gEm) Gcs Gwo Gre Gce
  have Gnn := go_notes (P := l.prog) (w := w) (base := base) T_no_notes T
  have Gmi := ok_minit FI_Memory T TM Gpv Gft Gnn
  have Gpk := mo_peek T_Memory_peek T TM Gic Gil
  have Ggi := mo_give T_Memory__give T TM Gil
  have Gsh := mo_short (P := l.prog) (w := w) (base := base) T_Memory__shorten T TM (PySem.W.mg_none_of X G z_max) (PySem.W.mg_none_of X G z_min)
  have Ggf := mo_giveif T_Memory__give_if T TM Gsm Gpk Ggi
  have Gfe := mo_fence T_Memory__fence TM Gsh
  have Grs := mo_result T_Memory__result T TM Gpk Ggi Ggf Gfe
  have Gac := mo_accL T_Memory_access T TM Ght Gia Grs
  have Glg := mo_log (P := l.prog) (w := w) (base := base) (C := C) T_Memory_log Bn0 TM
  have Gtp := go_tape (P := l.prog) (w := w) (base := base) T__law_tape Bn0
  have Gat := go_at (P := l.prog) (w := w) (base := base) T__law_at Bn0
  have Gsi := ok_sinit (P := l.prog) (w := w) (base := base) FI_Store TS
  have Gtk := mo_take (P := l.prog) (w := w) (base := base) T_Store_take TS
  have Ggb := mo_giveB (P := l.prog) (w := w) (base := base) T_Store_give_back TS
  have Gto := mo_tout (P := l.prog) (w := w) (base := base) T_Store_take_out TS
  have Gfc := mo_freeC (P := l.prog) (w := w) (base := base) T_Store_free_cells TS
  have Gwt := mo_waitO (P := l.prog) (w := w) (base := base) T_Store_waiting TS
  have Gho := mo_hasOut (P := l.prog) (w := w) (base := base) T_Store_has_taken_out TS
  have Ghw := mo_hasWait (P := l.prog) (w := w) (base := base) T_Store_has_waiting TS
  have Gst := mo_stamp (P := l.prog) (w := w) (base := base) T_Store_stamp TS
  have Gfu := mo_freeUp T_Store_free_up_to TS Ggb
  have Gdv := go_divided T_divided T TS Gre
  have Gos := go_other T_other_slots Bn0 T TS Ges
  have Gki := ok_kinit (P := l.prog) (w := w) (base := base) (mg := mg) FI_Stack TK
  have Gke := mo_kended (P := l.prog) (w := w) (base := base) (mg := mg) T_Stack_ended TK
  have Gkd := mo_kend (P := l.prog) (w := w) (base := base) (mg := mg) T_Stack__end TK
  have Gkc := mo_kcheck T_Stack__check_thread TK T TM Ght
  have Gks := mo_ksettle T_Stack__settle TK Gkd
  have Gkp := mo_kstL (ka := 6) T_Stack_step TK TM Gkc Gks Gac
  have Gkn := go_known (P := l.prog) (w := w) (base := base) Bn0 T__law_known
  have Ghd := go_held T__law_held TS Gfc
  have Gls := go_lstore T__law_store Bn0 T (PySem.W.mg_of X G gS) Mk_Store Gsi bI_Store Gre Gdv
  have Glw := go_lwhole T__law_whole TS Gfc Gwt
  have Gsl := go_lslots T__law_slots TM Gpk
  have Geas := mo_maask (P := l.prog) (w := w) (base := base) (mg := mg) T_Entering__ask TCE
  have Geed := mo_maend (P := l.prog) (w := w) (base := base) (mg := mg) T_Entering__end TCE
  have Gego := mo_mago (P := l.prog) (w := w) (base := base) (mg := mg) (k := 4) T_Entering__go_on TCE
  have Mei := raw0 (ok_mainit (P := l.prog) (w := w) (base := base) (mg := mg) FI_Machine TCE) bI_Machine
  have Gvas := mo_maask (P := l.prog) (w := w) (base := base) (mg := mg) T_Leaving__ask TCV
  have Gved := mo_maend (P := l.prog) (w := w) (base := base) (mg := mg) T_Leaving__end TCV
  have Gvgo := mo_mago (P := l.prog) (w := w) (base := base) (mg := mg) (k := 4) T_Leaving__go_on TCV
  have Mvi := raw0 (ok_mainit (P := l.prog) (w := w) (base := base) (mg := mg) FI_Machine TCV) bI_Machine
  have Geq := mo_enreq (P := l.prog) (w := w) (base := base) (mg := mg) T_Entering_request TCE
  have Gea := mo_enacc (k := 4) T_Entering_accept TCE Gego
  have Gei := ok_eninit FI_Entering TE T TS (PySem.W.mg_of X G gMA) cMi Mei BEn Gep Ges Geas
  have Get := mo_enep T_Entering__take_epoch TE BEn Geas Geed
  have mcE : MCl l.prog w K mg base CE f58 := ⟨TCE.cl, Geq.md, ⟨a58, i58, k58⟩, md_at Gea.md ⟨a58, i58, k58⟩⟩
  have Gvq := mo_lvreq (P := l.prog) (w := w) (base := base) (mg := mg) T_Leaving_request TCV
  have Gva := mo_lvacc (k := 4) T_Leaving_accept TCV Gvgo
  have Gvh := mo_lvhere T_Leaving__end_here TCV Gved
  have Gvf := mo_lvfree T_Leaving__free_waiting TV TS Gved Gfu
  have Gvl := mo_lvlook T_Leaving__look TV BSl BSw Gvas
  have Gvs := mo_lvslot T_Leaving__take_slot TV Gsm Gvl Gvf
  have Gvw := mo_lvswap T_Leaving__take_swap TV Gvf
  have Gve := mo_lvep T_Leaving__take_epoch TV Gvl
  have Gvv := mo_lvleave T_Leaving__leave TV T TS BEp BHe Gvas Ges Ghw
  have Gvt := mo_lvstamp T_Leaving__take_stamp TV TS Gst Gvv
  have Gvi := ok_lvinit FI_Leaving TV T TS (PySem.W.mg_of X G gMA) cMi Mvi BSt Gep Gos Gho Gvv Gvas
  have mcV : MCl l.prog w K mg base CV f65 := ⟨TCV.cl, Gvq.md, ⟨a65, i65, k65⟩, md_at Gva.md ⟨a65, i65, k65⟩⟩
  have KTt : KT l.prog w K mg base (⟨SK, S, CE, CV, f59, f66, f69, f68, f71, f72⟩ : Cv) C f58 f65 := ⟨mcE, mcV, bfEn, md_at Get.md BEn.mt, bfSt, md_at Gvt.md BSt.mt, bfEp, md_at Gve.md BEp.mt, bfHe, md_at Gvh.md BHe.mt, bfSl, md_at Gvs.md BSl.mt, bfSw, md_at Gvw.md BSw.mt⟩
  have Gal := go_alone T__law_alone Bn0 KTt TS TK (PySem.W.mg_of X G gSK) Mk_Stack Gki bI_Stack (PySem.W.mg_of X G gCE) Mk_Entering Gei bI_Entering (PySem.W.mg_of X G gCV) Mk_Leaving Gvi bI_Leaving Gkp Gke Gwt
  exact ok_law F19 Bn0 KTt T TS TM TK (PySem.W.mg_none_of X G z_min) (PySem.W.mg_of X G gSK) Mk_Stack Gki bI_Stack (PySem.W.mg_of X G gCE) Mk_Entering Gei bI_Entering (PySem.W.mg_of X G gCV) Mk_Leaving Gvi bI_Leaving Gkp Gpk Glg Gac Gwo Gtk Gto Gfc Gkn Ghd Glw Gsl Gat Gal (PySem.W.mg_of X G gC) Mk_Layout Gli bI_Layout (PySem.W.mg_of X G gM) Mk_Memory Gmi bI_Memory Gtp Gls
theorem walk {l : PySem.W.OpenLaw} {q : Program} {loose : List Str} {XP : (Str → Option Value) → Heap → Prop} {YP : World → Heap → Prop} {d : DefRec} {K : Params → PySem.W.Frag} (hn : l.most = some 63) (hdf : d.params.defaults = [])
    (hY : ∀ (w : World) (h : Heap), YP w h → (K w.params).In h)
    (F : ∀ (w : World) (mg : Str → Option Value) (fa : Addr) (h : Heap), (K w.params).In h → h.Ns mainGlobals mg → mg d.name = some (.ref fa) →
      ∃ fd : FuncData, (∀ (s : Shared) (u : Value), BindsTo s fd ⟨[u], []⟩ [("script", u)]) ∧ ∀ base : Heap, (K w.params).In base → base.Ns mainGlobals mg → FnOk l.prog w (K w.params) mg base CX0 21 fa fd ["script"] (spLaw (K w.params))) :
    PySem.W.WalkO q loose XP YP l.row.toRowW d [] (fun f vs => PySem.call f vs) :=
  L2.walk_of (n := 63) (k := 21) (x := "script") (CX := fun _ => CX0) (sp := fun w => spLaw (K w.params)) hn (by decide) hdf ⟨rfl, by decide, by decide⟩ hY F (fun _ _ a ns hl _ hS => ⟨a, ns, rfl, hS, hl, fun _ => rfl⟩) fun _ _ _ _ _ z => z
end Dk
open PySem PySem.W PyProof.Rows
set_option maxRecDepth 100000 in
set_option maxHeartbeats 0 in
theorem PySem.Challenge.cw_driftkept_k09_whole_epochs_holds : PySem.Challenge.rw_driftkept_k09_whole_epochs.Holds := by
  w_on; o_law; k_head; (case hw => w_witness2)
  k_fill
  refine Dk.walk (l := PySem.Challenge.rw_driftkept_k09_whole_epochs) rfl rfl (fun w h Y => PySem.W.kIn_of Y) ?F
  case F =>
    intro w mg fa h KX G hmg
    refine' Dk.all_mk KX G hmg ?gC ?gM ?gS ?gSK ?gMA ?gCE ?gCV ?gNV ?gLE ?a1 ?l1 ?c1 ?k1 ?a2 ?l2 ?c2 ?k2 ?a3 ?l3 ?c3 ?k3 ?a4 ?l4 ?c4 ?k4 ?a5 ?l5 ?c5 ?k5 ?a6 ?l6 ?c6 ?k6 ?a7 ?l7 ?c7 ?k7 ?a8 ?l8 ?c8 ?k8 ?a9 ?l9 ?c9 ?k9 ?a10 ?l10 ?c10 ?k10 ?a11 ?l11 ?c11 ?k11 ?a12 ?l12 ?c12 ?k12 ?a13 ?l13 ?c13 ?k13 ?a14 ?l14 ?c14 ?k14 ?a15 ?l15 ?c15 ?k15 ?a16 ?l16 ?c16 ?k16 ?a17 ?l17 ?c17 ?k17 ?a18 ?l18 ?c18 ?k18 ?a19 ?l19 ?c19 ?k19 ?a20 ?i20 ?l20 ?c20 ?k20 ?a21 ?i21 ?l21 ?c21 ?k21 ?a22 ?i22 ?l22 ?c22 ?k22 ?a23 ?i23 ?l23 ?c23 ?k23 ?a24 ?i24 ?l24 ?c24 ?k24 ?a25 ?i25 ?l25 ?c25 ?k25 ?a26 ?i26 ?l26 ?c26 ?k26 ?a27 ?i27 ?l27 ?c27 ?k27 ?a28 ?i28 ?l28 ?c28 ?k28 ?a29 ?i29 ?l29 ?c29 ?k29 ?a30 ?i30 ?l30 ?c30 ?k30 ?a31 ?i31 ?l31 ?c31 ?k31 ?a32 ?i32 ?l32 ?c32 ?k32 ?a33 ?i33 ?l33 ?c33 ?k33 ?a34 ?i34 ?l34 ?c34 ?k34 ?a35 ?i35 ?l35 ?c35 ?k35 ?a36 ?i36 ?l36 ?c36 ?k36 ?a37 ?i37 ?l37 ?c37 ?k37 ?a38 ?i38 ?l38 ?c38 ?k38 ?a39 ?i39 ?l39 ?c39 ?k39 ?a40 ?i40 ?l40 ?c40 ?k40 ?a41 ?i41 ?l41 ?c41 ?k41 ?a42 ?i42 ?l42 ?c42 ?k42 ?a43 ?i43 ?l43 ?c43 ?k43 ?a44 ?i44 ?l44 ?c44 ?k44 ?a45 ?i45 ?l45 ?c45 ?k45 ?a46 ?i46 ?l46 ?c46 ?k46 ?a47 ?i47 ?l47 ?c47 ?k47 ?a48 ?i48 ?l48 ?c48 ?k48 ?a49 ?i49 ?l49 ?c49 ?k49 ?a50 ?i50 ?l50 ?c50 ?k50 ?a51 ?i51 ?l51 ?c51 ?k51 ?a52 ?i52 ?l52 ?c52 ?k52 ?a53 ?i53 ?l53 ?c53 ?k53 ?a54 ?i54 ?l54 ?c54 ?k54 ?a55 ?i55 ?l55 ?c55 ?k55 ?a56 ?i56 ?l56 ?c56 ?k56 ?a57 ?i57 ?l57 ?c57 ?k57 ?a58 ?i58 ?l58 ?c58 ?k58 ?a59 ?i59 ?l59 ?c59 ?k59 ?a60 ?i60 ?l60 ?c60 ?k60 ?a61 ?i61 ?l61 ?c61 ?k61 ?a62 ?i62 ?l62 ?c62 ?k62 ?a63 ?i63 ?l63 ?c63 ?k63 ?a64 ?i64 ?l64 ?c64 ?k64 ?a65 ?i65 ?l65 ?c65 ?k65 ?a66 ?i66 ?l66 ?c66 ?k66 ?a67 ?i67 ?l67 ?c67 ?k67 ?a68 ?i68 ?l68 ?c68 ?k68 ?a69 ?i69 ?l69 ?c69 ?k69 ?a70 ?i70 ?l70 ?c70 ?k70 ?a71 ?i71 ?l71 ?c71 ?k71 ?a72 ?i72 ?l72 ?c72 ?k72 ?a73 ?i73 ?l73 ?c73 ?k73 ?a74 ?i74 ?l74 ?c74 ?k74 ?a75 ?i75 ?l75 ?c75 ?k75 ?a76 ?i76 ?l76 ?c76 ?k76 ?pgC ?hdC ?poC ?saC ?mkC ?kcC ?pgM ?hdM ?poM ?saM ?mkM ?kcM ?pgS ?hdS ?poS ?saS ?mkS ?kcS ?pgSK ?hdSK ?poSK ?saSK ?mkSK ?kcSK ?pgMA ?hdMA ?poMA ?saMA ?mkMA ?kcMA ?pgCE ?hdCE ?poCE ?saCE ?mkCE ?kcCE ?pgCV ?hdCV ?poCV ?saCV ?mkCV ?kcCV ?gEm ?Cthreads ?Cwords ?Crecords ?Mlayout ?Mcount ?M_passing ?M_trails ?M_lost ?M_notes ?M_log ?Slayout ?Sthread ?S_free ?S_waiting ?S_out ?SK_machines ?SK_value ?CE_wanted ?CE_left ?CE_then ?CE_epoch_cell ?CE_slot ?CE_entered ?CV_wanted ?CV_left ?CV_then ?CV_store ?CV_epoch_cell ?CV_slots ?CV_epoch ?hn ?ht ?xN ?kN ?sN ?tN ?sL ?dL ?tL ?sNL ?Ng ?Nk ?Nd ?Na ?Nm ?bgEn ?btEn ?bfEn ?bgEp ?btEp ?bfEp ?bgHe ?btHe ?bfHe ?bgSt ?btSt ?bfSt ?bgSl ?btSl ?bfSl ?bgSw ?btSw ?bfSw ?mr ?mc ?mg0 ?z_isinstance ?z_int ?z_bool ?z_str ?z_tuple ?z_list ?z_range ?z_len ?z_abs ?z_max ?z_min ?z_zip ?z_sorted
    (case gC => k_is)
    (case gM => k_is)
    (case gS => k_is)
    (case gSK => k_is)
    (case gMA => k_is)
    (case gCE => k_is)
    (case gCV => k_is)
    (case gNV => k_is)
    (case gLE => k_is)
    (case a1 => k_is)
    (case l1 => k_is)
    (case c1 => k_is)
    (case k1 => k_is)
    (case a2 => k_is)
    (case l2 => k_is)
    (case c2 => k_is)
    (case k2 => k_is)
    (case a3 => k_is)
    (case l3 => k_is)
    (case c3 => k_is)
    (case k3 => k_is)
    (case a4 => k_is)
    (case l4 => k_is)
    (case c4 => k_is)
    (case k4 => k_is)
    (case a5 => k_is)
    (case l5 => k_is)
    (case c5 => k_is)
    (case k5 => k_is)
    (case a6 => k_is)
    (case l6 => k_is)
    (case c6 => k_is)
    (case k6 => k_is)
    (case a7 => k_is)
    (case l7 => k_is)
    (case c7 => k_is)
    (case k7 => k_is)
    (case a8 => k_is)
    (case l8 => k_is)
    (case c8 => k_is)
    (case k8 => k_is)
    (case a9 => k_is)
    (case l9 => k_is)
    (case c9 => k_is)
    (case k9 => k_is)
    (case a10 => k_is)
    (case l10 => k_is)
    (case c10 => k_is)
    (case k10 => k_is)
    (case a11 => k_is)
    (case l11 => k_is)
    (case c11 => k_is)
    (case k11 => k_is)
    (case a12 => k_is)
    (case l12 => k_is)
    (case c12 => k_is)
    (case k12 => k_is)
    (case a13 => k_is)
    (case l13 => k_is)
    (case c13 => k_is)
    (case k13 => k_is)
    (case a14 => k_is)
    (case l14 => k_is)
    (case c14 => k_is)
    (case k14 => k_is)
    (case a15 => k_is)
    (case l15 => k_is)
    (case c15 => k_is)
    (case k15 => k_is)
    (case a16 => k_is)
    (case l16 => k_is)
    (case c16 => k_is)
    (case k16 => k_is)
    (case a17 => k_is)
    (case l17 => k_is)
    (case c17 => k_is)
    (case k17 => k_is)
    (case a18 => k_is)
    (case l18 => k_is)
    (case c18 => k_is)
    (case k18 => k_is)
    (case a19 => k_is)
    (case l19 => k_is)
    (case c19 => k_is)
    (case k19 => k_is)
    (case a20 => k_is)
    (case i20 => k_is)
    (case l20 => k_is)
    (case c20 => k_is)
    (case k20 => k_is)
    (case a21 => k_is)
    (case i21 => k_is)
    (case l21 => k_is)
    (case c21 => k_is)
    (case k21 => k_is)
    (case a22 => k_is)
    (case i22 => k_is)
    (case l22 => k_is)
    (case c22 => k_is)
    (case k22 => k_is)
    (case a23 => k_is)
    (case i23 => k_is)
    (case l23 => k_is)
    (case c23 => k_is)
    (case k23 => k_is)
    (case a24 => k_is)
    (case i24 => k_is)
    (case l24 => k_is)
    (case c24 => k_is)
    (case k24 => k_is)
    (case a25 => k_is)
    (case i25 => k_is)
    (case l25 => k_is)
    (case c25 => k_is)
    (case k25 => k_is)
    (case a26 => k_is)
    (case i26 => k_is)
    (case l26 => k_is)
    (case c26 => k_is)
    (case k26 => k_is)
    (case a27 => k_is)
    (case i27 => k_is)
    (case l27 => k_is)
    (case c27 => k_is)
    (case k27 => k_is)
    (case a28 => k_is)
    (case i28 => k_is)
    (case l28 => k_is)
    (case c28 => k_is)
    (case k28 => k_is)
    (case a29 => k_is)
    (case i29 => k_is)
    (case l29 => k_is)
    (case c29 => k_is)
    (case k29 => k_is)
    (case a30 => k_is)
    (case i30 => k_is)
    (case l30 => k_is)
    (case c30 => k_is)
    (case k30 => k_is)
    (case a31 => k_is)
    (case i31 => k_is)
    (case l31 => k_is)
    (case c31 => k_is)
    (case k31 => k_is)
    (case a32 => k_is)
    (case i32 => k_is)
    (case l32 => k_is)
    (case c32 => k_is)
    (case k32 => k_is)
    (case a33 => k_is)
    (case i33 => k_is)
    (case l33 => k_is)
    (case c33 => k_is)
    (case k33 => k_is)
    (case a34 => k_is)
    (case i34 => k_is)
    (case l34 => k_is)
    (case c34 => k_is)
    (case k34 => k_is)
    (case a35 => k_is)
    (case i35 => k_is)
    (case l35 => k_is)
    (case c35 => k_is)
    (case k35 => k_is)
    (case a36 => k_is)
    (case i36 => k_is)
    (case l36 => k_is)
    (case c36 => k_is)
    (case k36 => k_is)
    (case a37 => k_is)
    (case i37 => k_is)
    (case l37 => k_is)
    (case c37 => k_is)
    (case k37 => k_is)
    (case a38 => k_is)
    (case i38 => k_is)
    (case l38 => k_is)
    (case c38 => k_is)
    (case k38 => k_is)
    (case a39 => k_is)
    (case i39 => k_is)
    (case l39 => k_is)
    (case c39 => k_is)
    (case k39 => k_is)
    (case a40 => k_is)
    (case i40 => k_is)
    (case l40 => k_is)
    (case c40 => k_is)
    (case k40 => k_is)
    (case a41 => k_is)
    (case i41 => k_is)
    (case l41 => k_is)
    (case c41 => k_is)
    (case k41 => k_is)
    (case a42 => k_is)
    (case i42 => k_is)
    (case l42 => k_is)
    (case c42 => k_is)
    (case k42 => k_is)
    (case a43 => k_is)
    (case i43 => k_is)
    (case l43 => k_is)
    (case c43 => k_is)
    (case k43 => k_is)
    (case a44 => k_is)
    (case i44 => k_is)
    (case l44 => k_is)
    (case c44 => k_is)
    (case k44 => k_is)
    (case a45 => k_is)
    (case i45 => k_is)
    (case l45 => k_is)
    (case c45 => k_is)
    (case k45 => k_is)
    (case a46 => k_is)
    (case i46 => k_is)
    (case l46 => k_is)
    (case c46 => k_is)
    (case k46 => k_is)
    (case a47 => k_is)
    (case i47 => k_is)
    (case l47 => k_is)
    (case c47 => k_is)
    (case k47 => k_is)
    (case a48 => k_is)
    (case i48 => k_is)
    (case l48 => k_is)
    (case c48 => k_is)
    (case k48 => k_is)
    (case a49 => k_is)
    (case i49 => k_is)
    (case l49 => k_is)
    (case c49 => k_is)
    (case k49 => k_is)
    (case a50 => k_is)
    (case i50 => k_is)
    (case l50 => k_is)
    (case c50 => k_is)
    (case k50 => k_is)
    (case a51 => k_is)
    (case i51 => k_is)
    (case l51 => k_is)
    (case c51 => k_is)
    (case k51 => k_is)
    (case a52 => k_is)
    (case i52 => k_is)
    (case l52 => k_is)
    (case c52 => k_is)
    (case k52 => k_is)
    (case a53 => k_is)
    (case i53 => k_is)
    (case l53 => k_is)
    (case c53 => k_is)
    (case k53 => k_is)
    (case a54 => k_is)
    (case i54 => k_is)
    (case l54 => k_is)
    (case c54 => k_is)
    (case k54 => k_is)
    (case a55 => k_is)
    (case i55 => k_is)
    (case l55 => k_is)
    (case c55 => k_is)
    (case k55 => k_is)
    (case a56 => k_is)
    (case i56 => k_is)
    (case l56 => k_is)
    (case c56 => k_is)
    (case k56 => k_is)
    (case a57 => k_is)
    (case i57 => k_is)
    (case l57 => k_is)
    (case c57 => k_is)
    (case k57 => k_is)
    (case a58 => k_is)
    (case i58 => k_is)
    (case l58 => k_is)
    (case c58 => k_is)
    (case k58 => k_is)
    (case a59 => k_is)
    (case i59 => k_is)
    (case l59 => k_is)
    (case c59 => k_is)
    (case k59 => k_is)
    (case a60 => k_is)
    (case i60 => k_is)
    (case l60 => k_is)
    (case c60 => k_is)
    (case k60 => k_is)
    (case a61 => k_is)
    (case i61 => k_is)
    (case l61 => k_is)
    (case c61 => k_is)
    (case k61 => k_is)
    (case a62 => k_is)
    (case i62 => k_is)
    (case l62 => k_is)
    (case c62 => k_is)
    (case k62 => k_is)
    (case a63 => k_is)
    (case i63 => k_is)
    (case l63 => k_is)
    (case c63 => k_is)
    (case k63 => k_is)
    (case a64 => k_is)
    (case i64 => k_is)
    (case l64 => k_is)
    (case c64 => k_is)
    (case k64 => k_is)
    (case a65 => k_is)
    (case i65 => k_is)
    (case l65 => k_is)
    (case c65 => k_is)
    (case k65 => k_is)
    (case a66 => k_is)
    (case i66 => k_is)
    (case l66 => k_is)
    (case c66 => k_is)
    (case k66 => k_is)
    (case a67 => k_is)
    (case i67 => k_is)
    (case l67 => k_is)
    (case c67 => k_is)
    (case k67 => k_is)
    (case a68 => k_is)
    (case i68 => k_is)
    (case l68 => k_is)
    (case c68 => k_is)
    (case k68 => k_is)
    (case a69 => k_is)
    (case i69 => k_is)
    (case l69 => k_is)
    (case c69 => k_is)
    (case k69 => k_is)
    (case a70 => k_is)
    (case i70 => k_is)
    (case l70 => k_is)
    (case c70 => k_is)
    (case k70 => k_is)
    (case a71 => k_is)
    (case i71 => k_is)
    (case l71 => k_is)
    (case c71 => k_is)
    (case k71 => k_is)
    (case a72 => k_is)
    (case i72 => k_is)
    (case l72 => k_is)
    (case c72 => k_is)
    (case k72 => k_is)
    (case a73 => k_is)
    (case i73 => k_is)
    (case l73 => k_is)
    (case c73 => k_is)
    (case k73 => k_is)
    (case a74 => k_is)
    (case i74 => k_is)
    (case l74 => k_is)
    (case c74 => k_is)
    (case k74 => k_is)
    (case a75 => k_is)
    (case i75 => k_is)
    (case l75 => k_is)
    (case c75 => k_is)
    (case k75 => k_is)
    (case a76 => k_is)
    (case i76 => k_is)
    (case l76 => k_is)
    (case c76 => k_is)
    (case k76 => k_is)
    (case pgC => k_is)
    (case hdC => k_is)
    (case poC => k_is)
    (case saC => k_is)
    (case mkC => k_is)
    (case kcC => k_is)
    (case pgM => k_is)
    (case hdM => k_is)
    (case poM => k_is)
    (case saM => k_is)
    (case mkM => k_is)
    (case kcM => k_is)
    (case pgS => k_is)
    (case hdS => k_is)
    (case poS => k_is)
    (case saS => k_is)
    (case mkS => k_is)
    (case kcS => k_is)
    (case pgSK => k_is)
    (case hdSK => k_is)
    (case poSK => k_is)
    (case saSK => k_is)
    (case mkSK => k_is)
    (case kcSK => k_is)
    (case pgMA => k_is)
    (case hdMA => k_is)
    (case poMA => k_is)
    (case saMA => k_is)
    (case mkMA => k_is)
    (case kcMA => k_is)
    (case pgCE => k_is)
    (case hdCE => k_is)
    (case poCE => k_is)
    (case saCE => k_is)
    (case mkCE => k_is)
    (case kcCE => k_is)
    (case pgCV => k_is)
    (case hdCV => k_is)
    (case poCV => k_is)
    (case saCV => k_is)
    (case mkCV => k_is)
    (case kcCV => k_is)
    (case gEm => k_is)
    (case Cthreads => k_is)
    (case Cwords => k_is)
    (case Crecords => k_is)
    (case Mlayout => k_is)
    (case Mcount => k_is)
    (case M_passing => k_is)
    (case M_trails => k_is)
    (case M_lost => k_is)
    (case M_notes => k_is)
    (case M_log => k_is)
    (case Slayout => k_is)
    (case Sthread => k_is)
    (case S_free => k_is)
    (case S_waiting => k_is)
    (case S_out => k_is)
    (case SK_machines => k_is)
    (case SK_value => k_is)
    (case CE_wanted => k_is)
    (case CE_left => k_is)
    (case CE_then => k_is)
    (case CE_epoch_cell => k_is)
    (case CE_slot => k_is)
    (case CE_entered => k_is)
    (case CV_wanted => k_is)
    (case CV_left => k_is)
    (case CV_then => k_is)
    (case CV_store => k_is)
    (case CV_epoch_cell => k_is)
    (case CV_slots => k_is)
    (case CV_epoch => k_is)
    (case hn => k_is)
    (case ht => k_is)
    (case xN => k_exc)
    (case kN => k_is)
    (case sN => k_is)
    (case tN => k_is)
    (case sL => k_is)
    (case dL => k_is)
    (case tL => k_is)
    (case sNL => k_is)
    (case Ng => k_is)
    (case Nk => k_is)
    (case Nd => k_is)
    (case Na => k_is)
    (case Nm => k_is)
    (case bgEn => k_is)
    (case btEn => k_is)
    (case bfEn => k_is)
    (case bgEp => k_is)
    (case btEp => k_is)
    (case bfEp => k_is)
    (case bgHe => k_is)
    (case btHe => k_is)
    (case bfHe => k_is)
    (case bgSt => k_is)
    (case btSt => k_is)
    (case bfSt => k_is)
    (case bgSl => k_is)
    (case btSl => k_is)
    (case bfSl => k_is)
    (case bgSw => k_is)
    (case btSw => k_is)
    (case bfSw => k_is)
    (case mr => k_is)
    (case mc => k_is)
    (case mg0 => k_is)
    (case z_isinstance => k_is)
    (case z_int => k_is)
    (case z_bool => k_is)
    (case z_str => k_is)
    (case z_tuple => k_is)
    (case z_list => k_is)
    (case z_range => k_is)
    (case z_len => k_is)
    (case z_abs => k_is)
    (case z_max => k_is)
    (case z_min => k_is)
    (case z_zip => k_is)
    (case z_sorted => k_is)

