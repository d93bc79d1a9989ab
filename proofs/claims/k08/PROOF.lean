import PyProof.Rows.All
import Wide.All
import OpenK.AllK
import Wide.FinOn
import HandS.ForMost
import HandS.ForExc
import HandS.IsInst
import HandS.ExcIs
import HandS.DictComp
import HandS.Style
import HandS.Walk
import HandS.SortInts
import HandS.Star
import HandS.More
import HandS.ClsMeth
import HandS.Codes
import HandS.Zip
import PySem.Challenge.RW_driftkept_k08_entering_and_leaving_alone
import HandS.OwnIter
import PyProof.Rows.MatchSeqLen
import HandS.Flow
import HandS.Deep
import HandS.Small
set_option Elab.async false
set_option linter.all false
set_option maxRecDepth 100000
set_option maxHeartbeats 4000000
/-! general rules -/
namespace Dk
open PySem PySem.Spec PyProof.Rows L2
/-- a def of the top keeps a promise -/
def GO (P : Program) (w : World) (K : PySem.W.Frag) (mg : Str → Option Value) (base : Heap) (CX : CXT) (k : Nat) (x : Str) (ps : List Str) (sp : Sp) : Prop :=
  ∃ f fd, FnOk P w K mg base CX k f fd ps sp ∧ mg x = some (.ref f) ∧ PySem.W.keepIn K (.ref f) = true ∧ Binds K fd ps []
def MO (P : Program) (w : World) (K : PySem.W.Frag) (mg : Str → Option Value) (base : Heap) (CX : CXT) (C : Addr) (k : Nat) (m : Str) (ps : List Str) (sp : Sp) : Prop :=
  ∃ f fd, FnOk P w K mg base CX k f fd ps sp ∧ Meth K C m f ∧ Binds K fd ps []
/-- where a def of the top, a method stands -/
def GT (K : PySem.W.Frag) (mg : Str → Option Value) (x : Str) (st : Stmt) (ps : List Str) : Prop := ∃ f fd, Fun K x x st f fd ∧ mg x = some (.ref f) ∧ Binds K fd ps []
def MT (K : PySem.W.Frag) (C : Addr) (m qual : Str) (st : Stmt) (ps : List Str) : Prop := ∃ f fd, Fun K m qual st f fd ∧ Meth K C m f ∧ Binds K fd ps []
section
variable {X : Cx} {CX : CXT} {k : Nat} {f C : Addr} {fd : FuncData} {ps : List Str} {sp : Sp} {x m : Str} {p pos apos : Pos} {e o : Expr} {es : List Expr} {ta : TE} {t : TA}
theorem pc_ (G : GO X.prog X.w X.K X.mg X.base CX0 k x ps sp) (hr : Room k X.A) (ha : PA X (e :: es) t) (hg : Gl X x := by rfl) (hdb : (x == ("__debug__" : Str)) = false := by decide)
    (he : starEach (e :: es) X.env = (false, eval e X.env) :: starEach es X.env := by rfl) (hpl : (backTo pos (starEach es X.env)).any (·.1) = false := by rfl) : PE X (.Call (.Name x p) (e :: es) [] pos) (tCall sp [] E0 t) := by
  obtain ⟨f, fd, F, hm, hk, hb⟩ := G
  exact pe_call F hr hg hm hk hb .nil pass0 ha hdb he hpl
theorem pm_ {pl : Sem Bool} (G : MO X.prog X.w X.K X.mg X.base CX0 C k m ps sp) (c : Cls X.K C) (hr : Room k X.A) (he : PE X o ta) (ha : PA X (e :: es) t)
    (hst : starEach (e :: es) X.env = (false, eval e X.env) :: starEach es X.env := by rfl) (hpl : (backTo pos (starEach es X.env)).any (·.1) = false := by rfl)
    (ht : eval (.Call (.Attribute o m apos) (e :: es) [] pos) X.env = (do
      let ov ← eval o X.env
      standAt apos.atName
      let (f, first) ← holding [ov] (getMethod ov m pl)
      callWith pos f first (backTo pos (starEach (e :: es) X.env)) (backToKw pos (keywordEach [] X.env))) := by rfl) : PE X (.Call (.Attribute o m apos) (e :: es) [] pos) (tMeth C m sp [] E0 ta t) := by
  obtain ⟨f, fd, F, hm, hb⟩ := G
  exact pe_meth he c hm F hr hb .nil pass0 ha hst hpl ht
theorem pm0_ {pl : Sem Bool} (G : MO X.prog X.w X.K X.mg X.base CX0 C k m ps sp) (c : Cls X.K C) (hr : Room k X.A) (he : PE X o ta)
    (ht : eval (.Call (.Attribute o m apos) [] [] pos) X.env = (do
      let ov ← eval o X.env
      standAt apos.atName
      let (f, first) ← holding [ov] (getMethod ov m pl)
      callWith pos f first (backTo pos (starEach [] X.env)) (backToKw pos (keywordEach [] X.env))) := by rfl) : PE X (.Call (.Attribute o m apos) [] [] pos) (tMeth C m sp [] E0 ta tNil) := by
  obtain ⟨f, fd, F, hm, hb⟩ := G
  exact pe_meth0 he c hm F hr hb .nil pass0 ht
/-- a method that may raise, called at the slots -/
def tMethE (C : Addr) (m : Str) (sp : Sp) (E : L2.St → XK) (ta : TE) (t : TA) : TE := fun σ H Q => ta σ H fun x H1 => ∃ a dx fs, x = .ref a ∧ H1 a = some (.ins C dx fs) ∧ fs.lookup m = none ∧
  t σ H1 fun vs H2 => sp (x :: vs) H2 Q (E σ)
theorem pmE_ {pl : Sem Bool} {E : L2.St → XK} (G : MO X.prog X.w X.K X.mg X.base CX C k m ps sp) (c : Cls X.K C) (hr : Room k X.A) (hx : ∀ σ, PassesAt CX X σ (E σ)) (he : PE X o ta) (ha : PA X (e :: es) t)
    (hst : starEach (e :: es) X.env = (false, eval e X.env) :: starEach es X.env := by rfl) (hpl : (backTo pos (starEach es X.env)).any (·.1) = false := by rfl)
    (ht : eval (.Call (.Attribute o m apos) (e :: es) [] pos) X.env = (do
      let ov ← eval o X.env
      standAt apos.atName
      let (f, first) ← holding [ov] (getMethod ov m pl)
      callWith pos f first (backTo pos (starEach (e :: es) X.env)) (backToKw pos (keywordEach [] X.env))) := by rfl) : PE X (.Call (.Attribute o m apos) (e :: es) [] pos) (tMethE C m sp E ta t) := by
  obtain ⟨f, fd, F, hm, hb⟩ := G
  refine ⟨fun pins s σ H Q I h => ?_⟩
  refine PySem.W.methodCall_KW (pl := pl) (thn (he.run pins s σ H _ I h) fun u s1 ⟨x, H1, I1, rx, a, dx, fs, ex, ea, l, q⟩ => ?_) ht
  subst ex
  obtain rfl : u = Value.ref a := rx
  refine getmeth_ok I1 ea c hm l ?_
  refine PySem.W.callWith_K (first := [.ref a]) (h₀ := X.base) I.ok.mod.kin hm.kp (thn (ha.run pos pins s1 σ H1 _ I1 q) fun us s2 ⟨vs, H2, I2, r, q2⟩ => ⟨I2.kIn, ?_⟩) hst hpl
  exact run_fnS (us := .ref a :: us) (vs := .ref a :: vs) F hr hb (hx σ) I2 (.cons rfl r) q2
/-- C(e, ..) where __init__ may raise, at the slots -/
def tMakeE (C : Addr) (sp : Sp) (E : L2.St → XK) (t : TA) : TE := fun σ H Q => t σ H fun vs H1 => ∀ x dx, H1 x = none → H1 dx = none → dx ≠ x →
  sp (.ref x :: vs) (upd (upd H1 dx (.own x)) x (.ins C dx [])) (fun v H2 => v = .non ∧ Q (.ref x) H2) (fun cls d H2 => E σ cls d H2)
theorem run_makeE {pins : List (Addr × Obj)} {σ : L2.St} {H : Hp} {s : Shared} {Q : VK} {E : XK} {us : List Value} {vs : List V} (M : Mk X.K C f) (F : FnOk X.prog X.w X.K X.mg X.base CX k f fd ps sp) (hr : Room (k + 1) X.A) (hb : Binds X.K fd ps [])
    (hx : PassesAt CX X σ E) (I : Inv X pins σ H s) (r : Vals vs us)
    (h : ∀ x dx, H x = none → H dx = none → dx ≠ x → sp (.ref x :: vs) (upd (upd H dx (.own x)) x (.ins C dx [])) (fun v H2 => v = .non ∧ Q (.ref x) H2) E) :
    wpAny (model X.prog X.w) X.A (call (.ref C) us) (EP X pins σ Q) X.xe s := by
  have hq := h (s.heap.objs.size + 1) s.heap.objs.size (I.hok.fresh (Nat.le_succ _)) (I.hok.fresh (Nat.le_refl _)) (Nat.ne_of_lt (Nat.lt_succ_self _))
  have I2 := Inv.made (C := C) I
  have r2 : Vals (V.ref (s.heap.objs.size + 1) :: vs) (Value.ref (s.heap.objs.size + 1) :: us) := .cons rfl r
  have hl : (Value.ref (s.heap.objs.size + 1) :: us ++ []).length = ps.length := by
    have e := r2.length
    rw [F.len _ _ _ _ hq] at e
    rw [List.append_nil]
    exact e.symm
  have b := hb _ (Value.ref (s.heap.objs.size + 1) :: us) I2.kIn hl
  rw [List.append_nil] at b
  refine wpAny_call (make_map (f := f) I.kIn M.makes M.init (beq_iff_eq.mp M.fn) (codeAny_mono (F.run _ X.stack _ _ ⟨Value.ref (s.heap.objs.size + 1) :: us, []⟩ (Value.ref (s.heap.objs.size + 1) :: us) _ _ E (hr.make C us [])
    (I2.env0.make C us []) b r2 hq) fun r s' hq' => ?_))
  cases r with
  | error e => exact hx pins _ _ e s' I2 hq'
  | ok fl =>
    cases fl with
    | ret u =>
      obtain ⟨v, H', I3, rv, ev, q3⟩ := I2.after hq'
      subst ev
      exact ⟨rv, ⟨V.ref (s.heap.objs.size + 1), H', I3, rfl, q3⟩⟩
    | next => exact False.elim hq'
    | brk => exact False.elim hq'
    | cont => exact False.elim hq'
theorem pe_makeE {E : L2.St → XK} (M : Mk X.K C f) (F : FnOk X.prog X.w X.K X.mg X.base CX k f fd ps sp) (hr : Room (k + 1) X.A) (hg : Gl X x) (hm : X.mg x = some (.ref C)) (hb : Binds X.K fd ps []) (hx : ∀ σ, PassesAt CX X σ (E σ))
    (ha : PA X (e :: es) t) (hdb : (x == ("__debug__" : Str)) = false := by decide) (he : starEach (e :: es) X.env = (false, eval e X.env) :: starEach es X.env := by rfl) (hpl : (backTo pos (starEach es X.env)).any (·.1) = false := by rfl) :
    PE X (.Call (.Name x p) (e :: es) [] pos) (tMakeE C sp E t) := by
  refine ⟨fun pins s σ H Q I h => ?_⟩
  refine wpAny_Call_Name_kw (ld_glob I hg hm ?_ hdb)
  refine PySem.W.callWith_K (h₀ := X.base) I.ok.mod.kin M.kp (thn (ha.run pos pins s σ H _ I h) fun us s1 ⟨vs, H1, I1, r, q⟩ => ⟨I1.kIn, ?_⟩) he hpl
  exact run_makeE M F hr hb (hx σ) I1 r q
end
section
variable {X : Cx} {C : Addr} {bmB : List Value} {B newId initId : String}
/-- X() -/
theorem pmk_own0 {x : Str} {p pos : Pos} (F : ExcBaseFacts B newId initId bmB) (q : PySem.W.excIn X.K C bmB newId = true) (gC : X.mg x = some (.ref C)) (kC : PySem.W.keepIn X.K (.ref C) = true) (r : Raises X (.ref C)) (hg : Gl X x)
    (hdb : (x == ("__debug__" : Str)) = false := by decide) : PMk X (.Call (.Name x p) [] [] pos) (fun _ H Q => Q (.ref C) none H) := by
  intro pins s σ H Q I h
  refine wpAny_Call_Name_kw (ld_glob I hg gC ?_ hdb)
  refine PySem.W.callWith_K0 I.kIn kC ?_
  show wpAny _ _ (call (.ref C) []) _ _ _
  obtain ⟨bm, N, nm, qn, bs, hdct, sn, sub, ab, col, dd, k0, k1, k2, k3, k5, mN, hC, hN, hni, T⟩ := exc_obj I.kIn q
  refine wpAny_call_exc_subT F T hC hN hni (fun h' e hm => ?_) (by show 0 ≤ sizeLine; exact Nat.zero_le _)
  exact mk_of I hm r h (I.hok.gone hm.new)
end
/-- a dict comprehension over a walk -/
theorem dc_it {J : It} {n : Nat} {G : Hp → Prop} {Y : Nat → Hp → V → Hp → Prop} (w : Walk J n G Y) {g : TG} {tt : TT} {tk tv : TE} {vs : List Nat} {σ : L2.St} {H1 : Hp} {D : Addr} {Qd : Hp → Prop} (Pv : Nat → Hp → Prop) (h0 : Pv 0 (upd H1 D (.dK []))) (hG : ∀ i H, i ≤ n → Pv i H → G H)
    (hs : ∀ i x H H', i < n → Pv i H → Y i H x H' → g x (wipe σ vs) H' fun σ2 H2 => wipe σ2 vs = wipe σ vs ∧ tt σ2 H2 fun b H3 =>
      if b = true then tk σ2 H3 fun y H4 => tv σ2 H4 fun z H5 => ∃ kvs k, y = kV k ∧ H5 D = some (.dK kvs) ∧ kvs.length < sizeLine ∧ Pv (i + 1) (upd H5 D (.dK (putK kvs k z))) else Pv (i + 1) H3) (hd : ∀ H, Pv n H → Qd H) :
    ∃ W : Nat → Nat → Hp → Prop, (∃ m, W 0 m (upd H1 D (.dK []))) ∧ ∀ i m H, W i m H →
      (J.stop i H ∧ Qd H) ∨ (J.go i H ∧ ∃ Nx : Hp → Prop, (∀ H', Nx H' → ∃ m', m' < m ∧ W (i + 1) m' H') ∧ ∀ x H', J.yld i H x H' → g x (wipe σ vs) H' fun σ2 H2 => wipe σ2 vs = wipe σ vs ∧ tt σ2 H2 fun b H3 =>
        if b = true then tk σ2 H3 fun y H4 => tv σ2 H4 fun z H5 => ∃ kvs k, y = kV k ∧ H5 D = some (.dK kvs) ∧ kvs.length < sizeLine ∧ Nx (upd H5 D (.dK (putK kvs k z))) else Nx H3) := by
  refine ⟨fun i m H => m = n - i ∧ i ≤ n ∧ Pv i H, ⟨n, by simp, Nat.zero_le _, h0⟩, ?_⟩
  rintro i m H ⟨rfl, hi, p⟩
  have q := hG i H hi p
  by_cases hlt : i < n
  · refine .inr ⟨w.goes i H hlt q, Pv (i + 1), fun H' p' => ⟨n - (i + 1), by omega, rfl, hlt, p'⟩, fun x H' y => hs i x H H' hlt p (w.yields i H x H' hlt q y)⟩
  · have e : i = n := by omega
    subst e
    exact .inl ⟨w.stops H q, hd H p⟩
end Dk

set_option maxHeartbeats 4000000
/-! rules for machines: a method as a value, its call; calls by the class of the object; Base.__init__(self) -/
namespace Mr
open PySem PySem.Spec PyProof.Rows L2
section
variable {X : Cx} {k : Nat} {m x : Str} {o e : Expr} {es : List Expr} {ta : TE} {t : TA} {p apos pos : Pos}
/-- o.m as a value -/
def tBM (K : PySem.W.Frag) (ta : TE) (m : Str) : TE := fun σ H Q => ta σ H fun x H1 => ∃ a C dx fs g, x = .ref a ∧ H1 a = some (.ins C dx fs) ∧ Cls K C ∧ BMeth K C m g ∧ fs.lookup m = none ∧ ∀ q, H1 q = none → Q (.ref q) (upd H1 q (.met g a))
theorem pe_bm_ (he : PE X o ta) (hb : attributeBase o m X.env (eval o X.env) = eval o X.env := by rfl) : PE X (.Attribute o m pos) (tBM X.K ta m) := by
  refine ⟨fun pins s σ H Q I h => ?_⟩
  refine attr_of hb (thn (he.run pins s σ H _ I h) fun u s1 ⟨x, H1, I1, rx, a, C, dx, fs, g, ex, ea, c, b, l, q⟩ => ?_)
  subst ex
  exact op_getbound I1 ea c b l rx q
/-- o.m(e, ..), the def found by the object's class -/
def tMD (P : Program) (w : World) (K : PySem.W.Frag) (mg : Str → Option Value) (base : Heap) (k : Nat) (m : Str) (ta : TE) (t : TA) : TE := fun σ H Q => ta σ H fun x H1 => ∃ a C dx fs f sp, x = .ref a ∧ H1 a = some (.ins C dx fs) ∧ Cls K C ∧ Meth K C m f ∧ FnR P w K mg base CX0 k f sp ∧ fs.lookup m = none ∧
  t σ H1 fun vs H2 => sp (x :: vs) H2 Q E0
theorem pe_md {pl : Sem Bool} (he : PE X o ta) (hr : Room k X.A) (ha : PA X (e :: es) t)
    (hst : starEach (e :: es) X.env = (false, eval e X.env) :: starEach es X.env := by rfl) (hpl : (backTo pos (starEach es X.env)).any (·.1) = false := by rfl)
    (ht : eval (.Call (.Attribute o m apos) (e :: es) [] pos) X.env = (do
      let ov ← eval o X.env
      standAt apos.atName
      let (f, first) ← holding [ov] (getMethod ov m pl)
      callWith pos f first (backTo pos (starEach (e :: es) X.env)) (backToKw pos (keywordEach [] X.env))) := by rfl) : PE X (.Call (.Attribute o m apos) (e :: es) [] pos) (tMD X.prog X.w X.K X.mg X.base k m ta t) := by
  refine ⟨fun pins s σ H Q I h => ?_⟩
  refine PySem.W.methodCall_KW (pl := pl) (thn (he.run pins s σ H _ I h) fun u s1 ⟨x, H1, I1, rx, a, C, dx, fs, f, sp, ex, ea, c, hm, F, l, q⟩ => ?_) ht
  subst ex
  obtain rfl : u = Value.ref a := rx
  refine getmeth_ok I1 ea c hm l ?_
  refine PySem.W.callWith_K (first := [.ref a]) (h₀ := X.base) I.ok.mod.kin hm.kp (thn (ha.run pos pins s1 σ H1 _ I1 q) fun us s2 ⟨vs, H2, I2, r, q2⟩ => ⟨I2.kIn, ?_⟩) hst hpl
  exact wpAny_call (run_fnR (us := .ref a :: us) (vs := .ref a :: vs) F hr pass0 I2 (.cons rfl r) q2)
theorem pe_md0 {pl : Sem Bool} (he : PE X o ta) (hr : Room k X.A)
    (ht : eval (.Call (.Attribute o m apos) [] [] pos) X.env = (do
      let ov ← eval o X.env
      standAt apos.atName
      let (f, first) ← holding [ov] (getMethod ov m pl)
      callWith pos f first (backTo pos (starEach [] X.env)) (backToKw pos (keywordEach [] X.env))) := by rfl) : PE X (.Call (.Attribute o m apos) [] [] pos) (tMD X.prog X.w X.K X.mg X.base k m ta tNil) := by
  refine ⟨fun pins s σ H Q I h => ?_⟩
  refine PySem.W.methodCall_KW (pl := pl) (thn (he.run pins s σ H _ I h) fun u s1 ⟨x, H1, I1, rx, a, C, dx, fs, f, sp, ex, ea, c, hm, F, l, q⟩ => ?_) ht
  subst ex
  obtain rfl : u = Value.ref a := rx
  refine getmeth_ok I1 ea c hm l ?_
  exact PySem.W.callWith_K0 (first := [.ref a]) I1.kIn hm.kp (wpAny_call (run_fnR (us := [.ref a]) (vs := [.ref a]) F hr pass0 I1 (.cons rfl .nil) q))
/-- f(e, ..), f a name that holds a bound method -/
def tCM (P : Program) (w : World) (K : PySem.W.Frag) (mg : Str → Option Value) (base : Heap) (k : Nat) (tf : TE) (t : TA) : TE := fun σ H Q => tf σ H fun v H1 => ∃ q g a sp, v = .ref q ∧ PySem.W.fnIn K g = true ∧ FnR P w K mg base CX0 k g sp ∧ t σ H1 fun vs H2 => H2 q = some (.met g a) ∧ sp (.ref a :: vs) H2 Q E0
theorem pe_cm {tf : TE} (hf : PE X (.Name x p) tf) (hr : Room k X.A) (ha : PA X (e :: es) t)
    (he : starEach (e :: es) X.env = (false, eval e X.env) :: starEach es X.env := by rfl) (hpl : (backTo pos (starEach es X.env)).any (·.1) = false := by rfl) : PE X (.Call (.Name x p) (e :: es) [] pos) (tCM X.prog X.w X.K X.mg X.base k tf t) := by
  refine ⟨fun pins s σ H Q I h => ?_⟩
  refine wpAny_Call_Name_kw (thn (hf.run pins s σ H _ I h) fun f s0 ⟨v, H0, I0, r0, q, g, a, sp, ev, fi, F, q0⟩ => ?_)
  subst ev
  obtain rfl : f = Value.ref q := r0
  show wpAny _ _ (callWith pos (.ref q) [] (backTo pos (starEach (e :: es) X.env)) []) _ _ _
  rw [he]
  refine PySem.W.callWith_of (P := PySem.W.MethP X.K q g (.ref a)) (by show ((false || (backTo pos (starEach es X.env)).any (·.1)) || false) = false; rw [hpl]; rfl) (PySem.W.keeps_M fi) (Calls.evalArgs_plain ?_)
  have hh := ha.run pos pins s0 σ H0 _ I0 q0
  rw [he] at hh
  refine thn hh fun us s1 ⟨vs, H1, I1, r1, hm, hsp⟩ => ⟨met_P I1 hm, ?_⟩
  exact wpAny_call (call_met I1 hm (run_fnR (us := .ref a :: us) (vs := .ref a :: vs) F hr pass0 I1 (.cons rfl r1) hsp))
/-- the def that a class hands out by its name -/
structure CFn (K : PySem.W.Frag) (C : Addr) (m : Str) (f : Addr) : Prop where
  rd : ∃ mc, PySem.W.readsIn K C mc = true ∧ PySem.W.findCls K (.ref C) mc m = some (.val (.ref f))
  ga : PySem.W.specialIn K (.ref C) "__getattribute__" = some (some (.builtin "type.__getattribute__"))
  kp : PySem.W.keepIn K (.ref f) = true
/-- C.m(e, ..), C a class of the module -/
theorem pe_cls {pl : Sem Bool} {C f : Addr} {sp : Sp} (hg : Gl X x) (hm : X.mg x = some (.ref C)) (b : CFn X.K C m f) (F : FnR X.prog X.w X.K X.mg X.base CX0 k f sp) (hr : Room k X.A) (ha : PA X (e :: es) t) (hd : (x == ("__debug__" : Str)) = false := by decide)
    (hst : starEach (e :: es) X.env = (false, eval e X.env) :: starEach es X.env := by rfl) (hpl : (backTo pos (starEach es X.env)).any (·.1) = false := by rfl)
    (ht : eval (.Call (.Attribute (.Name x p) m apos) (e :: es) [] pos) X.env = (do
      let ov ← eval (.Name x p) X.env
      standAt apos.atName
      let (f, first) ← holding [ov] (getMethod ov m pl)
      callWith pos f first (backTo pos (starEach (e :: es) X.env)) (backToKw pos (keywordEach [] X.env))) := by rfl) : PE X (.Call (.Attribute (.Name x p) m apos) (e :: es) [] pos) (tCall sp [] E0 t) := by
  refine ⟨fun pins s σ H Q I h => ?_⟩
  obtain ⟨mc, rd, at_⟩ := b.rd
  refine PySem.W.methodCall_KW (pl := pl) (ld_glob I hg hm ?_ hd) ht
  refine PySem.W.method_cls I.kIn b.ga (PySem.W.cls_value I.kIn rd at_ rfl ?_)
  have I1 := I.tok (s.toks + 1)
  refine PySem.W.callWith_K (first := []) (h₀ := X.base) I.ok.mod.kin b.kp (thn (ha.run pos pins _ σ H _ I1 h) fun us s2 ⟨vs, H2, I2, r, q2⟩ => ⟨I2.kIn, ?_⟩) hst hpl
  dsimp only at q2
  rw [List.append_nil] at q2
  exact wpAny_call (run_fnR F hr pass0 I2 r q2)
end
end Mr

set_option maxHeartbeats 4000000
/-! list(zip(a, b)) of two tuples: every pair is kept, so the zip makes a new one each time -/
namespace Lz
open PySem PySem.Spec PyProof.Rows L2
/-- a zip that has handed out the pair at T, which is still held -/
abbrev ZH (h : Heap) (z TI TO T : Addr) (b : Bool) : Prop :=
  h.get? z = some { cls := .type "zip", dict := none, data := .fields #[rawInt T, .bool b, .bool false, .ref TI, .ref TO], slots := #[] }
section
variable {prog : Program} {w : World} {A : Around} {E : Value → Shared → Prop} {s : Shared}
theorem alive {M : Model} {a : Addr} {o : Obj} {Q : Option Obj → Shared → Prop} (ho : s.heap.get? a = some o) (h : Q (some o) s) : wpAny M A (loadIfAlive a) Q E s := fun Γ p _ => by
  unfold loadIfAlive
  rw [Sem.wp_loadIfAlive, ho]
  exact h
theorem held {z TI TO T : Addr} {b : Bool} {o : Obj} {Q : Bool → Shared → Prop} (hz : ZH s.heap z TI TO T b) (hT : s.heap.get? T = some o)
    (h : ∀ h', ZH h' z TI TO T true → Heap.SameBut z s.heap h' → Q false { s with heap := h' }) : wpAny (model prog w) A (Builtin.SmallTypes.ownedTupleIsFree (.ref z)) Q E s := by
  unfold Builtin.SmallTypes.ownedTupleIsFree
  refine wpAny_bind (wpAny_field hz rfl (x := rawInt T) rfl ?_)
  show wpAny _ _ (loadIfAlive ((T : Int).toNat) >>= _) _ _ _
  rw [Int.toNat_natCast]
  refine wpAny_bind (alive hT ?_)
  show wpAny _ _ (field (.ref z) 1 >>= _) _ _ _
  refine wpAny_bind (wpAny_field hz rfl (x := .bool b) rfl ?_)
  cases b with
  | true =>
    show wpAny _ _ (pure false) _ _ _
    exact wpAny_pure (h s.heap hz ⟨rfl, fun _ _ => rfl⟩)
  | false =>
    show wpAny _ _ (setField (.ref z) 1 (.bool true) >>= fun _ => pure false) _ _ _
    refine wpAny_bind (wpAny_setField_rec hz (by simp) fun h1 hz1 hs1 => wpAny_pure (h h1 hz1 hs1))
/-- the next pair, while an elder one is held -/
theorem next {z TI TO T i1 i2 l1 l2 : Addr} {k1 k2 : Nat} {xs ys : Array Value} {x y : Value} {b : Bool} {o : Obj} {Q : Value → Shared → Prop} (D : ZipApart z TI TO i1 i2 l1 l2)
    (hz : ZH s.heap z TI TO T b) (hT : s.heap.get? T = some o) (hTI : IsPair s.heap TI (.ref i1) (.ref i2))
    (h1 : s.heap.IsTupleIter i1 l1 k1) (h2 : s.heap.IsTupleIter i2 l2 k2) (hl1 : s.heap.IsTuple l1 xs) (hl2 : s.heap.IsTuple l2 ys) (hx : xs[k1]? = some x) (hy : ys[k2]? = some y)
    (hQ : ∀ h', ZH h' z TI TO T true → h'.IsTupleIter i1 l1 (k1 + 1) → h'.IsTupleIter i2 l2 (k2 + 1) → IsPair h' s.heap.objs.size x y → h'.objs.size = s.heap.objs.size + 1 →
      (∀ c u, c ≠ z → c ≠ i1 → c ≠ i2 → s.heap.get? c = some u → h'.get? c = some u) → Q (.ref s.heap.objs.size) { s with heap := h' }) :
    wpAny (model prog w) A (Builtin.«zip.__next__» ⟨[.ref z], []⟩) (fun fin s' => ∃ v, fin = .done (.ret v) ∧ Q v s') E s := by
  show wpAny _ _ (field (.ref z) 2 >>= _) _ _ _
  refine wpAny_bind (wpAny_field hz rfl (x := .bool false) rfl ?_)
  show wpAny _ _ (field (.ref z) 3 >>= _) _ _ _
  refine wpAny_bind (wpAny_field hz rfl (x := .ref TI) rfl ?_)
  refine wpAny_bind (wpAny_seqItems hTI rfl ?_)
  show wpAny _ _ (Builtin.SmallTypes.ownedTupleIsFree (.ref z) >>= _) _ _ _
  refine wpAny_bind (held hz hT fun ha hza hsa => ?_)
  simp only [Bool.false_eq_true, if_false]
  have a1 := h1.extBut hsa.extBut D.i1z
  have a2 := h2.extBut hsa.extBut D.i2z
  have b1 := hl1.extBut hsa.extBut D.l1z
  have b2 := hl2.extBut hsa.extBut D.l2z
  refine wpAny_bind ?_
  simp only [List.forIn_toArray, List.forIn_cons, List.forIn_nil]
  refine wpAny_bind (wpAny_bind (wpAny_holding ?_))
  show wpAny _ _ (Builtin.SmallTypes.nextOf (.ref i1) >>= fun v => pure (some v)) _ _ _
  refine wpAny_bind (RZ.nextOf_tuple_item a1 b1 hx fun hb c1 sb => wpAny_pure ?_)
  refine wpAny_pure ?_
  refine wpAny_bind (wpAny_bind (wpAny_holding ?_))
  show wpAny _ _ (Builtin.SmallTypes.nextOf (.ref i2) >>= fun v => pure (some v)) _ _ _
  refine wpAny_bind (RZ.nextOf_tuple_item (a2.extBut sb.extBut D.i12.symm) (b2.extBut sb.extBut D.l2i1) hy fun hc c2 sc => wpAny_pure ?_)
  refine wpAny_pure ?_
  refine wpAny_pure ?_
  refine wpAny_bind (wpAny_newTuple ?_ (by show 2 ≤ sizeLine; decide))
  have sz : hc.objs.size = s.heap.objs.size := (sc.1.trans sb.1).trans hsa.1
  have up : ∀ {c : Addr} {u : Obj}, hc.get? c = some u → (hc.push { cls := .type "tuple", data := .seq [x, y].toArray }).get? c = some u := fun e => Heap.get?_push_of_some _ e
  refine wpAny_pure ⟨_, rfl, ?_⟩
  show Q (.ref hc.objs.size) _
  rw [sz]
  refine hQ _ (up (sc.extBut _ _ D.i2z.symm (sb.extBut _ _ D.i1z.symm hza))) ((c1.extBut sc.extBut D.i12).at fun u e => up e) (c2.at fun u e => up e) ?_ ?_ fun c u h1 h2 h3 e => up (sc.extBut _ _ h3 (sb.extBut _ _ h2 (hsa.extBut _ _ h1 e)))
  · rw [← sz]
    exact Heap.get?_push_size _ rfl
  · show (hc.push _).objs.size = _
    rw [Heap.size_push, sz]
/-- no pair is left -/
theorem last {z TI TO T i1 i2 l1 l2 : Addr} {k1 : Nat} {xs : Array Value} {b : Bool} {o : Obj} {Q : Fin → Shared → Prop} (hh : A.handled = none) (D : ZipApart z TI TO i1 i2 l1 l2)
    (hz : ZH s.heap z TI TO T b) (hT : s.heap.get? T = some o) (hTI : IsPair s.heap TI (.ref i1) (.ref i2)) (h1 : s.heap.IsTupleIter i1 l1 k1) (hl1 : s.heap.IsTuple l1 xs) (hx : xs[k1]? = none)
    (hE : ∀ h' e, (∀ c u, c ≠ z → c ≠ i1 → s.heap.get? c = some u → h'.get? c = some u) → (∃ u, h'.get? e = some u ∧ u.cls = .type "StopIteration") → E (.ref e) { s with heap := h' }) :
    wpAny (model prog w) A (Builtin.«zip.__next__» ⟨[.ref z], []⟩) Q E s := by
  show wpAny _ _ (field (.ref z) 2 >>= _) _ _ _
  refine wpAny_bind (wpAny_field hz rfl (x := .bool false) rfl ?_)
  show wpAny _ _ (field (.ref z) 3 >>= _) _ _ _
  refine wpAny_bind (wpAny_field hz rfl (x := .ref TI) rfl ?_)
  refine wpAny_bind (wpAny_seqItems hTI rfl ?_)
  show wpAny _ _ (Builtin.SmallTypes.ownedTupleIsFree (.ref z) >>= _) _ _ _
  refine wpAny_bind (held hz hT fun ha hza hsa => ?_)
  simp only [Bool.false_eq_true, if_false]
  refine wpAny_bind ?_
  simp only [List.forIn_toArray, List.forIn_cons, List.forIn_nil]
  refine wpAny_bind (wpAny_bind (wpAny_holding ?_))
  show wpAny _ _ (Builtin.SmallTypes.nextOf (.ref i1) >>= fun v => pure (some v)) _ _ _
  exact wpAny_bind (RZ.nextOf_tuple_end hh (h1.extBut hsa.extBut D.i1z) (hl1.extBut hsa.extBut D.l1z) hx fun h' e hk he => hE h' e (fun c u q1 q2 q => hk _ _ q2 (hsa.extBut _ _ q1 q)) he)
theorem pyNext_held {z TI TO T i1 i2 l1 l2 : Addr} {k1 k2 : Nat} {xs ys : Array Value} {x y : Value} {b : Bool} {o : Obj} {Q : Option Value → Shared → Prop} (D : ZipApart z TI TO i1 i2 l1 l2)
    (hz : ZH s.heap z TI TO T b) (hT : s.heap.get? T = some o) (hTI : IsPair s.heap TI (.ref i1) (.ref i2))
    (h1 : s.heap.IsTupleIter i1 l1 k1) (h2 : s.heap.IsTupleIter i2 l2 k2) (hl1 : s.heap.IsTuple l1 xs) (hl2 : s.heap.IsTuple l2 ys) (hx : xs[k1]? = some x) (hy : ys[k2]? = some y)
    (hQ : ∀ h', ZH h' z TI TO T true → h'.IsTupleIter i1 l1 (k1 + 1) → h'.IsTupleIter i2 l2 (k2 + 1) → IsPair h' s.heap.objs.size x y → h'.objs.size = s.heap.objs.size + 1 →
      (∀ c u, c ≠ z → c ≠ i1 → c ≠ i2 → s.heap.get? c = some u → h'.get? c = some u) → Q (some (.ref s.heap.objs.size)) { s with heap := h' }) :
    wpAny (model prog w) A (pyNext (.ref z)) Q E s := by
  have ty : s.TypeIs (.ref z) "zip" := ⟨_, hz, rfl⟩
  unfold pyNext
  exact wpAny_bind (wpAny_attempt (wpAny_callSpecial?_slot (name := Str.ofString "__next__") ty PySem.F.slot_zip_next (wpAny_call_entry PySem.F.slot_zip_next ty PySem.F.entry_zip_next
    (next D hz hT hTI h1 h2 hl1 hl2 hx hy fun h' q1 q2 q3 q4 q5 q6 => wpAny_pure (hQ h' q1 q2 q3 q4 q5 q6)) (PySem.F.args_zip_next_1 _))))
theorem pyNext_last {z TI TO T i1 i2 l1 l2 : Addr} {k1 : Nat} {xs : Array Value} {b : Bool} {o : Obj} {Q : Option Value → Shared → Prop} (hh : A.handled = none) (D : ZipApart z TI TO i1 i2 l1 l2)
    (hz : ZH s.heap z TI TO T b) (hT : s.heap.get? T = some o) (hTI : IsPair s.heap TI (.ref i1) (.ref i2)) (h1 : s.heap.IsTupleIter i1 l1 k1) (hl1 : s.heap.IsTuple l1 xs) (hx : xs[k1]? = none)
    (hQ : ∀ h', (∀ c u, c ≠ z → c ≠ i1 → s.heap.get? c = some u → h'.get? c = some u) → Q none { s with heap := h' }) : wpAny (model prog w) A (pyNext (.ref z)) Q E s := by
  have ty : s.TypeIs (.ref z) "zip" := ⟨_, hz, rfl⟩
  unfold pyNext
  refine wpAny_bind (wpAny_attempt (wpAny_callSpecial?_slot (name := Str.ofString "__next__") ty PySem.F.slot_zip_next (wpAny_call_entry PySem.F.slot_zip_next ty PySem.F.entry_zip_next
    (last hh D hz hT hTI h1 hl1 hx fun h' e hk he => ?_) (PySem.F.args_zip_next_1 _))))
  obtain ⟨u, hu, hcu⟩ := he
  exact wpAny_bind (wpAny_isInstance (T := "StopIteration") (b := true) ⟨u, hu, hcu⟩ isSubtype_stop (wpAny_pure (hQ _ hk)))
end
end Lz

set_option maxHeartbeats 4000000
/-! list(zip(a, b)) of two tuples of one length -/
namespace Lz
open PySem PySem.Spec PyProof.Rows L2
theorem zip_no_len : typeLookup (.type "zip") "__len__" = pure none := by rw [typeLookup_type, builtinLookup_eq_fast]; kernel_rfl
theorem zip_no_hint : typeLookup (.type "zip") "__length_hint__" = pure none := by rw [typeLookup_type, builtinLookup_eq_fast]; kernel_rfl
/-- the zip z at its i-th turn; S is the list that grows -/
def ZS (h : Heap) (S z TI TO i1 i2 a b : Addr) (i : Nat) : Prop := TO < h.objs.size ∧ IsPair h TI (.ref i1) (.ref i2) ∧ h.IsTupleIter i1 a i ∧ h.IsTupleIter i2 b i ∧
  ((IsZip h z TI TO .none ∧ ∃ x y, IsPair h TO x y) ∨ ∃ T o k, ZH h z TI TO T k ∧ h.get? T = some o ∧ T ≠ S)
section
variable {X : Cx} {pins : List (Addr × Obj)} {σ : L2.St} {H : Hp} {s : Shared} {A : Around} {E : Value → Shared → Prop}
theorem turn {S z TI TO i1 i2 a b : Addr} {i : Nat} {xs ys : List V} {x y : V} {Q : Option Value → Shared → Prop} (D : ZipApart z TI TO i1 i2 a b) (I : Inv X pins σ H s) (hf : ∀ c ∈ [z, TI, TO, i1, i2], FpOk X pins H c) (st : ZS s.heap S z TI TO i1 i2 a b i)
    (hS : S < s.heap.objs.size) (qx : SqT X.K H a xs) (qy : SqT X.K H b ys) (hx : xs[i]? = some x) (hy : ys[i]? = some y)
    (hQ : ∀ (T : Addr) (s' : Shared), H T = none → Inv X pins σ (upd H T (.tup [x, y])) s' → (∀ c ∈ [z, TI, TO, i1, i2], FpOk X pins (upd H T (.tup [x, y])) c) → ZS s'.heap S z TI TO i1 i2 a b (i + 1) → S < s'.heap.objs.size → Q (some (.ref T)) s') :
    wpAny (model X.prog X.w) A (pyNext (.ref z)) Q E s := by
  obtain ⟨its, rv, p, _⟩ := I.tuple qx
  obtain ⟨its2, rv2, p2, _⟩ := I.tuple qy
  obtain ⟨u, hu, ru⟩ := rv.get hx
  obtain ⟨u2, hu2, ru2⟩ := rv2.get hy
  obtain ⟨hO, hTI, h1, h2, hz⟩ := st
  have new : ∀ (h' : Heap), h'.get? s.heap.objs.size = some { cls := .type "tuple", data := .seq #[u, u2] } → ObjOk X.prog X.w (upd H s.heap.objs.size (.tup [x, y])) h' s.heap.objs.size (.tup [x, y]) := fun h' e =>
    ⟨by show 2 ≤ sizeLine; decide, [u, u2], .cons ru (.cons ru2 .nil), ⟨_, e, rfl, _, rfl⟩⟩
  have lt : ∀ c ∈ [z, TI, TO, i1, i2], H c = none ∧ (c < s.heap.objs.size → FpOk X pins (upd H s.heap.objs.size (.tup [x, y])) c) := fun c hc => by
    obtain ⟨e1, e2⟩ := hf c hc
    refine ⟨e1, fun hl => ⟨?_, e2⟩⟩
    rw [upd_ne (Nat.ne_of_lt hl)]
    exact e1
  have hn : H s.heap.objs.size = none := I.hok.fresh (Nat.le_refl _)
  have l1 : i1 < s.heap.objs.size := by obtain ⟨_, e, _⟩ := h1; exact Heap.lt_size e
  have l2 : i2 < s.heap.objs.size := by obtain ⟨_, e, _⟩ := h2; exact Heap.lt_size e
  have hzl : z < s.heap.objs.size := by
    rcases hz with ⟨e, _⟩ | ⟨_, _, _, e, _⟩
    · exact Heap.lt_size e
    · exact Heap.lt_size e
  have fp : ∀ c ∈ [z, TI, TO, i1, i2], FpOk X pins (upd H s.heap.objs.size (.tup [x, y])) c := fun c hc => by
    refine (lt c hc).2 ?_
    have e' : c = z ∨ c = TI ∨ c = TO ∨ c = i1 ∨ c = i2 := by simpa using hc
    rcases e' with e | e | e | e | e <;> rw [e]
    · exact hzl
    · exact Heap.lt_size hTI
    · exact hO
    · exact l1
    · exact l2
  have gr : ∀ {h' : Heap} {c : Addr}, h'.objs.size = s.heap.objs.size + 1 → c < s.heap.objs.size → c < h'.objs.size := fun {h' c} e q => by
    rw [e]
    exact Nat.lt_succ_of_lt q
  rcases hz with ⟨hz, x0, y0, hTO⟩ | ⟨T, o, k, hz, hT, hTS⟩
  · refine RZ.pyNext_zipT_item D hz hTI hTO h1 h2 p p2 (x := u) (y := u2) (by simpa using hu) (by simpa using hu2) fun h' z' TO' h1' h2' hT' hsz hk => ?_
    exact hQ _ _ hn (I.turnedNew (t' := s.toks) (ch := [z, TI, TO, i1, i2]) (fun c o hb q => hk c o (fun q' => hb (by simp [q'])) (fun q' => hb (by simp [q'])) (fun q' => hb (by simp [q'])) (fun q' => hb (by simp [q'])) q) hf (Nat.le_refl _) (new h' hT')) fp
      ⟨gr hsz hO, hk _ _ D.TIz D.TITO D.TIi1 D.TIi2 hTI, h1', h2', .inr ⟨_, _, _, z', hT', (Nat.ne_of_lt hS).symm⟩⟩ (gr hsz hS)
  · have Tz : T ≠ z ∧ T ≠ i1 ∧ T ≠ i2 ∨ ∃ o', s.heap.get? T = some o' := .inr ⟨o, hT⟩
    refine pyNext_held D hz hT hTI h1 h2 p p2 (x := u) (y := u2) (by simpa using hu) (by simpa using hu2) fun h' z' h1' h2' hT' hsz hk => ?_
    obtain ⟨o', ho'⟩ : ∃ o', h'.get? T = some o' := by
      by_cases e1 : T = z
      · rw [e1]
        exact ⟨_, z'⟩
      · by_cases e2 : T = i1
        · obtain ⟨o1, e, _⟩ := h1'
          rw [e2]
          exact ⟨o1, e⟩
        · by_cases e3 : T = i2
          · obtain ⟨o1, e, _⟩ := h2'
            rw [e3]
            exact ⟨o1, e⟩
          · exact ⟨o, hk _ _ e1 e2 e3 hT⟩
    exact hQ _ _ hn (I.turnedNew (t' := s.toks) (ch := [z, TI, TO, i1, i2]) (fun c o hb q => hk c o (fun q' => hb (by simp [q'])) (fun q' => hb (by simp [q'])) (fun q' => hb (by simp [q'])) q) hf (Nat.le_refl _) (new h' hT')) fp
      ⟨gr hsz hO, hk _ _ D.TIz D.TIi1 D.TIi2 hTI, h1', h2', .inr ⟨T, o', _, z', ho', hTS⟩⟩ (gr hsz hS)
/-- the zip has ended -/
theorem stop {S z TI TO i1 i2 a b : Addr} {i : Nat} {xs ys : List V} {Q : Option Value → Shared → Prop} (hh : A.handled = none) (D : ZipApart z TI TO i1 i2 a b) (I : Inv X pins σ H s) (hf : ∀ c ∈ [z, TI, TO, i1, i2], FpOk X pins H c) (st : ZS s.heap S z TI TO i1 i2 a b i)
    (qx : SqT X.K H a xs) (qy : SqT X.K H b ys) (hx : xs.length ≤ i) (hQ : ∀ s', Inv X pins σ H s' → Q none s') : wpAny (model X.prog X.w) A (pyNext (.ref z)) Q E s := by
  obtain ⟨its, rv, p, _⟩ := I.tuple qx
  obtain ⟨its2, rv2, p2, _⟩ := I.tuple qy
  have hl := rv.length
  have hn : its.toArray[i]? = none := by simp; omega
  obtain ⟨hO, hTI, h1, h2, ⟨hz, x0, y0, hTO⟩ | ⟨T, o, k, hz, hT, hTS⟩⟩ := st
  · exact RZ.pyNext_zipT_end hh D hz hTI hTO h1 h2 p p2 (.inl hn) fun h' hk => hQ _ (I.turnedL (t' := s.toks) (ch := [z, TI, TO, i1, i2]) (fun c o hb q => hk c o (fun q' => hb (by simp [q'])) (fun q' => hb (by simp [q'])) (fun q' => hb (by simp [q'])) (fun q' => hb (by simp [q'])) q) hf)
  · exact pyNext_last hh D hz hT hTI h1 p hn fun h' hk => hQ _ (I.turnedL (t' := s.toks) (ch := [z, TI, TO, i1, i2]) (fun c o hb q => hk c o (fun q' => hb (by simp [q'])) (fun q' => hb (by simp [q'])) q) hf)
end
end Lz

set_option maxHeartbeats 4000000
/-! list(zip(a, b)): the loop, the call -/
namespace Lz
open PySem PySem.Spec PyProof.Rows L2
def Prs (H0 H : Hp) (S : Addr) (qs : List Addr) (xs ys : List V) : Prop := ∀ (j : Nat) (q : Addr), qs[j]? = some q → H0 q = none ∧ q ≠ S ∧ ∃ x y, xs[j]? = some x ∧ ys[j]? = some y ∧ H q = some (.tup [x, y])
theorem ZS.upd {h : Heap} {S z TI TO i1 i2 a b : Addr} {i : Nat} {f : Obj → Obj} (st : ZS h S z TI TO i1 i2 a b i) (hz : z ≠ S) (hTI : TI ≠ S) (h1 : i1 ≠ S) (h2 : i2 ≠ S) (hTO : TO ≠ S) : ZS (h.update S f) S z TI TO i1 i2 a b i := by
  have o : ∀ {c : Addr} {u : Obj}, c ≠ S → h.get? c = some u → (h.update S f).get? c = some u := fun {c u} n e => (Heap.get?_update_other h f (Ne.symm n)).trans e
  obtain ⟨q1, q2, q3, q4, q5⟩ := st
  refine ⟨?_, o hTI q2, q3.at fun u e => o h1 e, q4.at fun u e => o h2 e, ?_⟩
  · rw [Heap.size_after_update]
    exact q1
  · rcases q5 with ⟨e1, x, y, e2⟩ | ⟨T, u, k, e1, e2, e3⟩
    · exact .inl ⟨o hz e1, x, y, o hTO e2⟩
    · exact .inr ⟨T, u, k, o hz e1, o e3 e2, e3⟩
section
variable {X : Cx} {pins : List (Addr × Obj)} {σ : L2.St}
theorem grow {A1 : Around} {Rs : Result → Shared → Prop} {S z TI TO i1 i2 a b : Addr} {xs ys : List V} {H0 : Hp} (hh : A1.in1.handled = none) (D : ZipApart z TI TO i1 i2 a b) (hl : xs.length = ys.length) (hz : xs.length < sizeLine) (h0 : H0 S = none) (qx : SqT X.K H0 a xs) (qy : SqT X.K H0 b ys)
    (done : ∀ (qs : List Addr) (H : Hp) (s : Shared), Inv X pins σ H s → H S = some (.lst (qs.map V.ref)) → qs.length = xs.length → Prs H0 H S qs xs ys → (∀ c o, H0 c = some o → H c = some o) → Rs (.ok (.ret .none)) s) :
    ∀ (m i : Nat) (qs : List Addr) (H : Hp) (s : Shared), i + m = xs.length → qs.length = i → Inv X pins σ H s → H S = some (.lst (qs.map V.ref)) → S < s.heap.objs.size → (∀ c ∈ [z, TI, TO, i1, i2], FpOk X pins H c) → ZS s.heap S z TI TO i1 i2 a b i →
      Prs H0 H S qs xs ys → (∀ c o, H0 c = some o → H c = some o) → codeAny (model X.prog X.w) A1 (.builtin "list.extend.loop" ⟨[.ref S, .ref z, .none], []⟩) Rs s
  | 0, i, qs, H, s, hi, hq, I, hS, lt, fp, st, pr, ex => by
    refine codeAny_builtin PySem.F.entry_extend_loop ?_
    rw [Around.under_plainId PySem.F.plain_extend_loop _]
    show wpAny _ A1.in1 (pyNext (.ref z) >>= _) _ _ s
    exact wpAny_bind (stop hh D I fp st (qx.ext ex) (qy.ext ex) (by omega) fun s' I' => wpAny_pure (done qs H s' I' hS (by omega) pr ex))
  | m + 1, i, qs, H, s, hi, hq, I, hS, lt, fp, st, pr, ex => by
    refine codeAny_builtin PySem.F.entry_extend_loop ?_
    rw [Around.under_plainId PySem.F.plain_extend_loop _]
    show wpAny _ A1.in1 (pyNext (.ref z) >>= _) _ _ s
    have hx : xs[i]? = some xs[i] := List.getElem?_eq_getElem (by omega)
    have hy : ys[i]? = some ys[i] := List.getElem?_eq_getElem (by omega)
    refine wpAny_bind (turn D I fp st lt (qx.ext ex) (qy.ext ex) hx hy fun T s' hT I' fp' st' lt' => ?_)
    show wpAny _ A1.in1 (updateSeq S (·.push (.ref T)) >>= _) _ _ _
    have ST : S ≠ T := ne_of_none hS hT
    have hS' : upd H T (.tup [xs[i], ys[i]]) S = some (.lst (qs.map V.ref)) := by rw [upd_ne ST]; exact hS
    obtain ⟨_, its, k, r2, hl2, e⟩ := I'.lstM hS'
    rw [List.length_map] at hl2
    have nS : ∀ c ∈ [z, TI, TO, i1, i2], c ≠ S := fun c hc q => by
      have := (fp' c hc).1
      rw [q, hS'] at this
      cases this
    refine wpAny_bind (wpAny_updateSeq e rfl (wpAny_pure ⟨plainId_quiet PySem.F.plain_extend_loop _, ?_⟩) (by rw [List.size_toArray]; omega) (by show (its.toArray.push (Value.ref T)).size ≤ sizeLine + 1; rw [Array.size_push, List.size_toArray]; omega))
    refine grow hh D hl hz h0 qx qy done m (i + 1) (qs ++ [T]) _ _ (by omega) (by rw [List.length_append, hq]; rfl) (I'.lset (its' := its ++ [.ref T]) (ys := (qs ++ [T]).map V.ref) (t' := s'.toks) hS' e (by simp) (by rw [List.map_append]; exact r2.append (.cons rfl .nil)) (by rw [List.length_map, List.length_append, List.length_singleton]; omega))
      upd_same (by show S < (s'.heap.update S _).objs.size; rw [Heap.size_after_update]; exact lt') (fun c hc => ?_) (st'.upd (nS _ (by simp)) (nS _ (by simp)) (nS _ (by simp)) (nS _ (by simp)) (nS _ (by simp))) (fun j q hj => ?_) fun c o hc => ?_
    · obtain ⟨e1, e2⟩ := fp' c hc
      exact ⟨by rw [upd_ne (nS c hc)]; exact e1, e2⟩
    · by_cases c : j < qs.length
      · rw [List.getElem?_append_left c] at hj
        obtain ⟨p1, p2, x, y, p3, p4, p5⟩ := pr j q hj
        refine ⟨p1, p2, x, y, p3, p4, ?_⟩
        rw [upd_ne p2, upd_ne (ne_of_none p5 hT)]
        exact p5
      · rw [List.getElem?_append_right (by omega)] at hj
        have hj1 : j - qs.length = 0 := by
          have := (List.getElem?_eq_some_iff.mp hj).1
          simp at this
          omega
        rw [hj1] at hj
        have hj2 : T = q := Option.some.inj hj
        subst hj2
        have hji : j = i := by omega
        subst hji
        refine ⟨?_, ST.symm, _, _, hx, hy, by rw [upd_ne ST.symm, upd_same]⟩
        cases e0 : H0 T with
        | none => rfl
        | some o =>
          rw [ex _ _ e0] at hT
          cases hT
    · have cS : c ≠ S := ne_of_none hc h0
      rw [upd_ne cS, upd_ne (ne_of_none (ex _ _ hc) hT)]
      exact ex _ _ hc
end
end Lz

set_option maxHeartbeats 4000000
/-! list(zip(a, b)): the rule -/
namespace Lz
open PySem PySem.Spec PyProof.Rows L2
section
variable {X : Cx} {pins : List (Addr × Obj)} {σ : L2.St} {H : Hp} {s : Shared}
theorem fresh_list {z TI TO i1 i2 a b : Addr} {xs ys : List V} {Q : VK} (hc : X.calm = true) (D : ZipApart z TI TO i1 i2 a b) (I : Inv X pins σ H s) (fp : ∀ c ∈ [z, TI, TO, i1, i2], FpOk X pins H c)
    (hz : IsZip s.heap z TI TO .none) (hTI : IsPair s.heap TI (.ref i1) (.ref i2)) (hTO : IsPair s.heap TO .none .none) (h1 : s.heap.IsTupleIter i1 a 0) (h2 : s.heap.IsTupleIter i2 b 0)
    (qx : SqT X.K H a xs) (qy : SqT X.K H b ys) (hl : xs.length = ys.length) (hlt : xs.length < sizeLine)
    (k : ∀ (S : Addr) (qs : List Addr) (H2 : Hp), H S = none → H2 S = some (.lst (qs.map V.ref)) → qs.length = xs.length → Prs H H2 S qs xs ys → (∀ c o, H c = some o → H2 c = some o) → Q (.ref S) H2) :
    wpAny (model X.prog X.w) X.A (call (.type "list") [.ref z]) (EP X pins σ Q) X.xe s := by
  refine callType_codes (Q₁ := fun obj s₁ => obj = .ref s.heap.objs.size ∧ s₁ = { s with heap := s.heap.push { cls := .type "list", data := .seq #[] } }) PySem.F.called_list (PySem.F.typeCall_list_1 _) PySem.F.entry_list_init (code_list_new _ ⟨rfl, rfl⟩) fun obj s₁ hob => ?_
  obtain ⟨rfl, rfl⟩ := hob
  have fr : H s.heap.objs.size = none := I.hok.fresh (Nat.le_refl _)
  have lS : ({ s with heap := s.heap.push { cls := .type "list", data := .seq #[] } } : Shared).heap.get? s.heap.objs.size = some { cls := .type "list", data := .seq #[] } := Heap.get?_push_size _ rfl
  refine ⟨⟨_, lS, rfl⟩, PySem.F.args_list_init_2 _ _, ?_⟩
  have J : Inv X pins σ (upd H s.heap.objs.size (.lst [])) { s with heap := s.heap.push { cls := .type "list", data := .seq #[] } } := I.lnew (its := []) (t' := s.toks) .nil (Nat.zero_le _)
  have zl := Heap.lt_size hz
  have tl := Heap.lt_size hTI
  have ol := Heap.lt_size hTO
  have il : i1 < s.heap.objs.size := by obtain ⟨_, e, _⟩ := h1; exact Heap.lt_size e
  have jl : i2 < s.heap.objs.size := by obtain ⟨_, e, _⟩ := h2; exact Heap.lt_size e
  have nS : ∀ c ∈ [z, TI, TO, i1, i2], c ≠ s.heap.objs.size := fun c hc => by
    have e' : c = z ∨ c = TI ∨ c = TO ∨ c = i1 ∨ c = i2 := by simpa using hc
    rcases e' with e | e | e | e | e <;> rw [e]
    · exact Nat.ne_of_lt zl
    · exact Nat.ne_of_lt tl
    · exact Nat.ne_of_lt ol
    · exact Nat.ne_of_lt il
    · exact Nat.ne_of_lt jl
  have up : ∀ {c : Addr} {u : Obj}, s.heap.get? c = some u → (s.heap.push { cls := .type "list", data := .seq #[] }).get? c = some u := fun e => Heap.get?_push_of_some _ e
  have st0 : ZS (s.heap.push { cls := .type "list", data := .seq #[] }) s.heap.objs.size z TI TO i1 i2 a b 0 :=
    ⟨by rw [Heap.size_push]; exact Nat.lt_succ_of_lt ol, up hTI, h1.at fun o e => up e, h2.at fun o e => up e, .inl ⟨up hz, _, _, up hTO⟩⟩
  generalize hSz : s.heap.objs.size = S at *
  have hh : X.A.in1.in1.handled = none := I.ok.hd hc
  show wpAny _ X.A.in1.in1 (do let old ← Builtin.List.listItems (.ref S); Builtin.List.listUpdate (.ref S) (fun _ => #[]); letGo old.toList.reverse; Builtin.List.listExtendWith (.ref S) (.ref z) .none) _ _ _
  have sz1 : S < (s.heap.push { cls := .type "list", data := .seq #[] }).objs.size := by
    rw [Heap.size_push, hSz]
    exact Nat.lt_succ_self S
  have zh := up hz
  generalize s.heap.push { cls := .type "list", data := .seq #[] } = hp at *
  refine wpAny_bind ?_
  unfold Builtin.List.listItems
  refine wpAny_bind (wpAny_seqItems lS rfl (wpAny_pure ?_))
  show wpAny _ _ (updateSeq S (fun _ => #[]) >>= fun _ => letGo (#[] : Array Value).toList.reverse >>= fun _ => Builtin.List.listExtendWith (.ref S) (.ref z) .none) _ _ _
  refine wpAny_bind (wpAny_updateSeq lS rfl ?_)
  have J1 := J.lset (f := fun _ => #[]) (its := []) (its' := []) (ys := []) (t' := s.toks) upd_same lS rfl .nil (Nat.zero_le _)
  rw [upd_upd] at J1
  have nz := nS z (by simp)
  have u1 := st0.upd (f := Obj.mapSeq (fun _ => (#[] : Array Value))) nz (nS _ (by simp)) (nS _ (by simp)) (nS _ (by simp)) (nS _ (by simp))
  have z1 : S < (hp.update S (Obj.mapSeq (fun _ => (#[] : Array Value)))).objs.size := by rw [Heap.size_after_update]; exact sz1
  have zz : IsZip (hp.update S (Obj.mapSeq (fun _ => (#[] : Array Value)))) z TI TO .none := (Heap.get?_update_other _ _ (Ne.symm nz)).trans zh
  generalize hp.update S (Obj.mapSeq (fun _ => (#[] : Array Value))) = hq at *
  refine wpAny_bind (wpAny_letGo ?_)
  unfold Builtin.List.listExtendWith
  have ty : ({ s with heap := hq } : Shared).TypeIs (.ref z) "zip" := ⟨_, zz, rfl⟩
  refine wpAny_bind (wpAny_typeOf ty ?_)
  have c1 : Builtin.List.listSameRef (.ref S) (.ref z) = false := by simp [Builtin.List.listSameRef, nz.symm]
  have c2 : (Value.type "zip" == Value.type "list") = false := by decide
  have c3 : (Value.type "zip" == Value.type "tuple") = false := by decide
  simp only [c1, c2, c3, Bool.or_false, Bool.false_eq_true, if_false]
  refine wpAny_bind (wpAny_pyIter_zip (s := { s with heap := hq }) zz ?_)
  refine wpAny_bind (wpAny_holding ?_)
  unfold Builtin.List.listLengthHint
  refine wpAny_bind (wpAny_specialOf ty zip_no_len ?_)
  show wpAny _ _ (specialOf (Value.ref z) (Str.ofString "__length_hint__") >>= _) _ _ _
  refine wpAny_bind (wpAny_specialOf ty zip_no_hint (wpAny_pure ?_))
  show wpAny _ _ (rule "list.extend.makes-room" >>= fun _ => Builtin.List.listTouch (.ref S) >>= fun _ => again (.builtin "list.extend.loop" ⟨[.ref S, .ref z, .none], []⟩)) _ _ _
  refine wpAny_bind (wpAny_rule (wpAny_bind ?_))
  show wpAny _ _ (updateSeq S (·.push .none) >>= fun _ => updateSeq S (·.pop)) _ _ _
  obtain ⟨_, its3, k3, r3, _, e3⟩ := J1.lstM upd_same
  cases r3
  refine wpAny_bind (wpAny_updateSeq e3 rfl ?_ (by show 0 ≤ sizeLine; exact Nat.zero_le _) (by show 1 ≤ sizeLine + 1; omega))
  have J2 := J1.lset (f := (·.push Value.none)) (its' := [Value.none]) (ys := [.non]) (t' := s.toks) upd_same e3 rfl (.cons rfl .nil) (by rw [List.length_singleton, sizeLine_eq]; decide)
  rw [upd_upd] at J2
  have u2 := u1.upd (f := Obj.mapSeq (·.push Value.none)) nz (nS _ (by simp)) (nS _ (by simp)) (nS _ (by simp)) (nS _ (by simp))
  have z2 : S < (hq.update S (Obj.mapSeq (·.push Value.none))).objs.size := by rw [Heap.size_after_update]; exact z1
  obtain ⟨_, its4, k4, r4, _, e4⟩ := J2.lstM upd_same
  obtain ⟨w4, rfl, _⟩ := r4.one
  refine wpAny_updateSeq e4 rfl ?_ (by show 1 ≤ sizeLine; rw [sizeLine_eq]; decide) (by show 0 ≤ sizeLine + 1; exact Nat.zero_le _)
  have J3 := J2.lset (f := (·.pop)) (its := [w4]) (its' := []) (ys := []) (t' := s.toks) upd_same e4 (by rfl) .nil (Nat.zero_le _)
  rw [upd_upd] at J3
  have u3 := u2.upd (f := Obj.mapSeq (·.pop)) nz (nS _ (by simp)) (nS _ (by simp)) (nS _ (by simp)) (nS _ (by simp))
  have z3 : S < ((hq.update S (Obj.mapSeq (·.push Value.none))).update S (Obj.mapSeq (·.pop))).objs.size := by rw [Heap.size_after_update]; exact z2
  refine wpAny_pure ⟨plainId_quiet PySem.F.plain_extend_loop _, ?_⟩
  exact grow (A1 := X.A.in1) hh D hl hlt fr qx qy (fun qs H' s' I' e1 e2 e3 e4 => ⟨rfl, .ref S, H', I', rfl, k S qs H' fr e1 e2 e3 e4⟩) xs.length 0 [] _ _ (by omega) rfl J3 upd_same z3
    (fun c hc => ⟨by rw [upd_ne (nS c hc)]; exact (fp c hc).1, (fp c hc).2⟩) u3 (fun j q hj => by simp at hj) fun c o e => by rw [upd_ne (ne_of_none e fr)]; exact e
def tLZ (K : PySem.W.Frag) (ta : TA) : TE := fun σ H Q => ta σ H fun vs H1 => ∃ (a b : Addr) (xs ys : List V), vs = [.ref a, .ref b] ∧ SqT K H1 a xs ∧ SqT K H1 b ys ∧ xs.length = ys.length ∧ xs.length < sizeLine ∧
  ∀ (S : Addr) (qs : List Addr) (H2 : Hp), H1 S = none → H2 S = some (.lst (qs.map V.ref)) → qs.length = xs.length → Prs H1 H2 S qs xs ys → (∀ c o, H1 c = some o → H2 c = some o) → Q (.ref S) H2
/-- list(zip(e, e2)) of two tuples of one length -/
theorem pe_listZip {e e2 : Expr} {ta : TA} {p p2 pos pos2 : Pos} (hc : X.calm = true) (hgl : Gl X "list") (hml : X.mg "list" = none) (hgz : Gl X "zip") (hmz : X.mg "zip" = none) (ha : PA X [e, e2] ta)
    (hs : starEach [e, e2] X.env = (false, eval e X.env) :: starEach [e2] X.env := by rfl) (hpl : (backTo pos2 (starEach [e2] X.env)).any (·.1) = false := by rfl)
    (he : starEach [.Call (.Name "zip" p2) [e, e2] [] pos2] X.env = (false, eval (.Call (.Name "zip" p2) [e, e2] [] pos2) X.env) :: starEach [] X.env := by rfl) :
    PE X (.Call (.Name "list" p) [.Call (.Name "zip" p2) [e, e2] [] pos2] [] pos) (tLZ X.K ta) := by
  refine ⟨fun pins s σ H Q I h => ?_⟩
  refine wpAny_Call_Name_kw (ld_blt I hgl hml PyProof.Rows.boot_list ?_)
  refine PyProof.Rows.callWith_type1 ?_ he rfl
  rw [he]
  show wpAny _ _ (spliced ((false, eval (.Call (.Name "zip" p2) [e, e2] [] pos2) X.env) :: backTo pos (starEach [] X.env))) _ _ s
  refine Calls.spliced_cons ?_
  refine Call_ (ld_blt I hgz hmz PyProof.Rows.boot_zip (PyProof.Rows.callWith_type1 (thn (ha.run pos2 pins s σ H _ I h) fun us s1 ⟨vs, H1, I1, r1, q1⟩ => ?_) hs hpl))
  obtain ⟨a, b, xs, ys, rfl, qx, qy, hl, hlt, k⟩ := q1
  obtain ⟨v1, v2, rfl, rr1, rr2⟩ := vals2 r1
  cases rr1
  cases rr2
  obtain ⟨its, rv, p1, _⟩ := I1.tuple qx
  obtain ⟨its2, rv2, p2, _⟩ := I1.tuple qy
  obtain ⟨o1, ho1, _⟩ := id p1
  obtain ⟨o2, ho2, _⟩ := id p2
  have fresh5 : ∀ c, c ∈ [s1.heap.objs.size + 4, s1.heap.objs.size + 2, s1.heap.objs.size + 3, s1.heap.objs.size, s1.heap.objs.size + 1] → FpOk X pins H1 c := fun c hcm => by
    have e' : c = s1.heap.objs.size + 4 ∨ c = s1.heap.objs.size + 2 ∨ c = s1.heap.objs.size + 3 ∨ c = s1.heap.objs.size ∨ c = s1.heap.objs.size + 1 := by simpa using hcm
    have hle : s1.heap.objs.size ≤ c := by
      rcases e' with q | q | q | q | q <;> rw [q]
      · exact Nat.le_add_right _ _
      · exact Nat.le_add_right _ _
      · exact Nat.le_add_right _ _
      · exact Nat.le_refl _
      · exact Nat.le_add_right _ _
    exact I1.fpOk hle (I1.hok.fresh hle)
  refine RZ.call_zipT (show s1.heap.IsTuple a its.toArray from p1) (show s1.heap.IsTuple b its2.toArray from p2) fun h' hz hTI hTO h1 h2 hsz hk => ?_
  refine Calls.spliced_nil ?_
  have I2 : Inv X pins σ H1 { s1 with heap := h' } := I1.kept (t' := s1.toks) hk
  exact fresh_list hc (PySem.W.ktu_apart s1.heap.objs.size a b (Heap.lt_size ho1) (Heap.lt_size ho2)) I2 fresh5 hz hTI hTO h1 h2 qx qy hl hlt k
end
end Lz

set_option maxHeartbeats 4000000
/-! values and layouts -/
namespace Dk
open PySem PySem.Spec PyProof.Rows L2
def top (i : Nat) : Stmt := PySem.Challenge.pw_driftkept_k08_entering_and_leaving_alone.main.body.getD i (.Pass ⟨0, 0, 0, 0⟩)
abbrev sWhole : Stmt := top 8
abbrev sWithin : Stmt := top 9
abbrev sLInit : Stmt := inClass (top 20) 0
abbrev sEpoch : Stmt := inClass (top 20) 1
abbrev sESlot : Stmt := inClass (top 20) 2
abbrev sCSlot : Stmt := inClass (top 20) 3
abbrev sWord : Stmt := inClass (top 20) 4
abbrev sRecord : Stmt := inClass (top 20) 5
abbrev sCells : Stmt := inClass (top 20) 6
abbrev sIsCell : Stmt := inClass (top 20) 7
abbrev sIsLast : Stmt := inClass (top 20) 8
abbrev sHasT : Stmt := inClass (top 20) 10
/-- the type of a value that is no object -/
def vty : V → Option String
  | .non => some "NoneType"
  | .bl _ => some "bool"
  | .int _ => some "int"
  | .str _ => some "str"
  | _ => none
theorem ty_of {K : PySem.W.Frag} {H : Hp} : ∀ {v : V} {t : String}, vty v = some t → TyX K H v (.type t)
  | .non, _, h => by cases h; exact .base .non
  | .bl b, _, h => by cases h; exact .base (.bl b)
  | .int i, _, h => by cases h; exact .base (.int i)
  | .str x, _, h => by cases h; exact .base (.str x)
def isI : V → Bool
  | .int _ => true
  | _ => false
/-- an integer within lo .. hi -/
def inW (lo hi : Int) : V → Bool
  | .int i => decide (lo ≤ i) && decide (i ≤ hi)
  | _ => false
theorem inW_int {lo hi i : Int} : inW lo hi (.int i) = true ↔ lo ≤ i ∧ i ≤ hi := by
  show (decide (lo ≤ i) && decide (i ≤ hi)) = true ↔ _
  simp
/-- the built-in names as they are -/
structure Bn (mg : Str → Option Value) : Prop where
  isi : mg "isinstance" = none
  int : mg "int" = none
  bool : mg "bool" = none
  str : mg "str" = none
  tuple : mg "tuple" = none
  list : mg "list" = none
  range : mg "range" = none
  len : mg "len" = none
  abs : mg "abs" = none
def lf (t w r : Int) : List (Str × V) := [("threads", .int t), ("words", .int w), ("records", .int r)]
/-- a layout stands at a -/
def LayAt (C : Addr) (H : Hp) (a : Addr) (t w r : Int) : Prop := ∃ dx, H a = some (.ins C dx (lf t w r))
structure LTxt (K : PySem.W.Frag) (mg : Str → Option Value) (C : Addr) : Prop where
  bn : Bn mg
  cl : Cls K C
  nT : NoAttr K C "threads"
  nW : NoAttr K C "words"
  nR : NoAttr K C "records"
def spWhole : Sp := fun vs H Q _ => ∃ v t, vs = [v] ∧ vty v = some t ∧ Q (.bl (isI v)) H
def spWithin : Sp := fun vs H Q _ => ∃ v t lo hi, vs = [v, .int lo, .int hi] ∧ vty v = some t ∧ Q (.bl (inW lo hi v)) H
def spL0 (C : Addr) (g : Int → Int → Int → V) : Sp := fun vs H Q _ => ∃ a t w r, vs = [.ref a] ∧ LayAt C H a t w r ∧ Q (g t w r) H
def spL1 (C : Addr) (g : Int → Int → Int → Int → V) : Sp := fun vs H Q _ => ∃ a t w r i, vs = [.ref a, .int i] ∧ LayAt C H a t w r ∧ Q (g t w r i) H
def spLV (C : Addr) (g : Int → Int → Int → V → V) : Sp := fun vs H Q _ => ∃ a t w r v ty, vs = [.ref a, v] ∧ vty v = some ty ∧ LayAt C H a t w r ∧ Q (g t w r v) H
/-- the cells -/
def cells (t w r : Int) : Int := 1 + t + t + w + r
def first (t : Int) : Int := 1 + t
def rec0 (t w : Int) : Int := 1 + t + t + w
def geB (x : Int) : V → Bool
  | .int i => decide (x ≤ i)
  | _ => false
def lastB (t w r : Int) (v : V) : Bool := inW 0 (cells t w r - 1) v && geB (first t + 0) v
def recB (t w r : Int) (v : V) : Bool := inW 0 (cells t w r - 1) v && geB (rec0 t w + 0) v
section
variable {P : Program} {w : World} {K : PySem.W.Frag} {mg : Str → Option Value} {base : Heap} {C : Addr}
theorem scWhole : FnScope ["value"] ["value"] (defScope sWhole) := ⟨rfl, rfl, rfl, by decide +kernel, rfl, by decide +kernel, by decide +kernel⟩
theorem go_whole (F : GT K mg "is_whole" sWhole ["value"]) (T : Bn mg) : GO P w K mg base CX0 1 "is_whole" ["value"] spWhole := by
  obtain ⟨f, fd, F, hm, hb⟩ := F
  refine ⟨f, fd, ?_, hm, F.kp, hb⟩
  refine F.ok scWhole (fun vs H Q E h => ?_) (fun cdv A outer s H vs Q E hr h => ?_)
  · obtain ⟨v, t, rfl, _⟩ := h
    rfl
  · obtain ⟨v, t, rfl, ht, k⟩ := h
    refine ⟨_, pss_one (ps_ret (pe_and (pe_callB call_isi (by rfl) T.isi (by decide +kernel) (pa_cons (pv 0) (pa_cons (pe_bltn (v := .ty "int") (by rfl) T.int (by decide +kernel) rfl) pa_nil)))
      (pe_one (pe_not (pe_callB call_isi (by rfl) T.isi (by decide +kernel) (pa_cons (pv 0) (pa_cons (pe_bltn (v := .ty "bool") (by rfl) T.bool (by decide +kernel) rfl) pa_nil))))))), ?_⟩
    have ty := ty_of (K := K) (H := H) ht
    cases v <;> cases ht
    · exact ⟨_, rfl, _, _, _, _, false, rfl, .ty "int", ty, kit_ty (by decide +kernel), false, rfl, k⟩
    · refine ⟨_, rfl, _, _, _, _, true, rfl, .ty "int", ty, kit_ty (by decide +kernel), true, rfl, ?_⟩
      exact iteT ⟨_, rfl, _, _, _, _, true, rfl, .ty "bool", ty, kit_ty (by decide +kernel), true, rfl, k⟩
    · refine ⟨_, rfl, _, _, _, _, true, rfl, .ty "int", ty, kit_ty (by decide +kernel), true, rfl, ?_⟩
      exact iteT ⟨_, rfl, _, _, _, _, false, rfl, .ty "bool", ty, kit_ty (by decide +kernel), false, rfl, k⟩
    · exact ⟨_, rfl, _, _, _, _, false, rfl, .ty "int", ty, kit_ty (by decide +kernel), false, rfl, k⟩
theorem scWithin : FnScope ["value", "low", "high"] ["value", "low", "high"] (defScope sWithin) := ⟨rfl, rfl, rfl, by decide +kernel, rfl, by decide +kernel, by decide +kernel⟩
theorem go_within (F : GT K mg "is_within" sWithin ["value", "low", "high"]) (G : GO P w K mg base CX0 1 "is_whole" ["value"] spWhole) : GO P w K mg base CX0 2 "is_within" ["value", "low", "high"] spWithin := by
  obtain ⟨f, fd, F, hm, hb⟩ := F
  refine ⟨f, fd, ?_, hm, F.kp, hb⟩
  refine F.ok scWithin (fun vs H Q E h => ?_) (fun cdv A outer s H vs Q E hr h => ?_)
  · obtain ⟨v, t, lo, hi, rfl, _⟩ := h
    rfl
  · obtain ⟨v, t, lo, hi, rfl, ht, k⟩ := h
    refine ⟨_, pss_one (ps_ret (pe_and (pc_ G hr (pa_cons (pv 0) pa_nil)) (pe_one (pe_chain op_le op_le (pv 1) (pv 0) (pv 2))))), ?_⟩
    refine ⟨_, rfl, v, t, rfl, ht, _, rfl, ?_⟩
    cases v <;> cases ht
    · exact iteF k
    · exact iteF k
    · rename_i i
      refine iteT ⟨_, rfl, _, rfl, _, _, rfl, rfl, _, rfl, ?_⟩
      have e : inW lo hi (.int i) = (decide (lo ≤ i) && decide (i ≤ hi)) := rfl
      rw [e] at k
      cases h1 : decide (lo ≤ i) with
      | true =>
        rw [h1] at k
        exact iteT ⟨_, rfl, _, _, rfl, rfl, by simpa using k⟩
      | false =>
        rw [h1] at k
        exact iteF (by simpa using k)
    · exact iteF k
theorem scEpoch : FnScope ["self"] ["self"] (defScope sEpoch) := ⟨rfl, rfl, rfl, by decide +kernel, rfl, by decide +kernel, by decide +kernel⟩
theorem mo_epoch (F : MT K C "epoch" "Layout.epoch" sEpoch ["self"]) : MO P w K mg base CX0 C 1 "epoch" ["self"] (spL0 C fun _ _ _ => .int 0) := by
  obtain ⟨f, fd, F, hm, hb⟩ := F
  refine ⟨f, fd, ?_, hm, hb⟩
  refine F.ok scEpoch (fun vs H Q E h => ?_) (fun cdv A outer s H vs Q E hr h => ?_)
  · obtain ⟨a, t, w, r, rfl, _⟩ := h
    rfl
  · obtain ⟨a, t, w, r, rfl, _, k⟩ := h
    exact ⟨_, pss_one (ps_ret pe_int), k⟩
theorem scESlot : FnScope ["self", "thread"] ["self", "thread"] (defScope sESlot) := ⟨rfl, rfl, rfl, by decide +kernel, rfl, by decide +kernel, by decide +kernel⟩
theorem mo_eslot (F : MT K C "epoch_slot" "Layout.epoch_slot" sESlot ["self", "thread"]) : MO P w K mg base CX0 C 1 "epoch_slot" ["self", "thread"] (spL1 C fun _ _ _ i => .int (1 + i)) := by
  obtain ⟨f, fd, F, hm, hb⟩ := F
  refine ⟨f, fd, ?_, hm, hb⟩
  refine F.ok scESlot (fun vs H Q E h => ?_) (fun cdv A outer s H vs Q E hr h => ?_)
  · obtain ⟨a, t, w, r, i, rfl, _⟩ := h
    rfl
  · obtain ⟨a, t, w, r, i, rfl, _, k⟩ := h
    exact ⟨_, pss_one (ps_ret (pe_op op_add pe_int (pv 1))), _, rfl, _, _, rfl, rfl, k⟩
theorem scCSlot : FnScope ["self", "thread"] ["self", "thread"] (defScope sCSlot) := ⟨rfl, rfl, rfl, by decide +kernel, rfl, by decide +kernel, by decide +kernel⟩
theorem mo_cslot (F : MT K C "call_slot" "Layout.call_slot" sCSlot ["self", "thread"]) (T : LTxt K mg C) (G : MO P w K mg base CX0 C 1 "epoch_slot" ["self", "thread"] (spL1 C fun _ _ _ i => .int (1 + i))) :
    MO P w K mg base CX0 C 2 "call_slot" ["self", "thread"] (spL1 C fun t _ _ i => .int (first t + i)) := by
  obtain ⟨f, fd, F, hm, hb⟩ := F
  refine ⟨f, fd, ?_, hm, hb⟩
  refine F.ok scCSlot (fun vs H Q E h => ?_) (fun cdv A outer s H vs Q E hr h => ?_)
  · obtain ⟨a, t, w, r, i, rfl, _⟩ := h
    rfl
  · obtain ⟨a, t, w, r, i, rfl, L, k⟩ := h
    obtain ⟨dx, h1⟩ := id L
    refine ⟨_, pss_one (ps_ret (pe_op op_add (pm_ G T.cl hr (pv 0) (pa_cons (pe_fld (pv 0) rfl) pa_nil)) (pv 1))), ?_⟩
    exact ⟨_, rfl, a, dx, _, rfl, h1, rfl, _, rfl, a, C, dx, _, _, rfl, h1, T.cl, T.nT, rfl, a, t, w, r, t, rfl, L, _, rfl, _, _, rfl, rfl, k⟩
theorem scWord : FnScope ["self", "index"] ["self", "index"] (defScope sWord) := ⟨rfl, rfl, rfl, by decide +kernel, rfl, by decide +kernel, by decide +kernel⟩
theorem mo_word (F : MT K C "word" "Layout.word" sWord ["self", "index"]) (T : LTxt K mg C) (G : MO P w K mg base CX0 C 2 "call_slot" ["self", "thread"] (spL1 C fun t _ _ i => .int (first t + i))) :
    MO P w K mg base CX0 C 3 "word" ["self", "index"] (spL1 C fun t _ _ i => .int (first t + t + i)) := by
  obtain ⟨f, fd, F, hm, hb⟩ := F
  refine ⟨f, fd, ?_, hm, hb⟩
  refine F.ok scWord (fun vs H Q E h => ?_) (fun cdv A outer s H vs Q E hr h => ?_)
  · obtain ⟨a, t, w, r, i, rfl, _⟩ := h
    rfl
  · obtain ⟨a, t, w, r, i, rfl, L, k⟩ := h
    obtain ⟨dx, h1⟩ := id L
    refine ⟨_, pss_one (ps_ret (pe_op op_add (pm_ G T.cl hr (pv 0) (pa_cons (pe_fld (pv 0) rfl) pa_nil)) (pv 1))), ?_⟩
    exact ⟨_, rfl, a, dx, _, rfl, h1, rfl, _, rfl, a, C, dx, _, _, rfl, h1, T.cl, T.nT, rfl, a, t, w, r, t, rfl, L, _, rfl, _, _, rfl, rfl, k⟩
theorem scRecord : FnScope ["self", "index"] ["self", "index"] (defScope sRecord) := ⟨rfl, rfl, rfl, by decide +kernel, rfl, by decide +kernel, by decide +kernel⟩
theorem mo_record (F : MT K C "record" "Layout.record" sRecord ["self", "index"]) (T : LTxt K mg C) (G : MO P w K mg base CX0 C 3 "word" ["self", "index"] (spL1 C fun t _ _ i => .int (first t + t + i))) :
    MO P w K mg base CX0 C 4 "record" ["self", "index"] (spL1 C fun t w _ i => .int (rec0 t w + i)) := by
  obtain ⟨f, fd, F, hm, hb⟩ := F
  refine ⟨f, fd, ?_, hm, hb⟩
  refine F.ok scRecord (fun vs H Q E h => ?_) (fun cdv A outer s H vs Q E hr h => ?_)
  · obtain ⟨a, t, w, r, i, rfl, _⟩ := h
    rfl
  · obtain ⟨a, t, w, r, i, rfl, L, k⟩ := h
    obtain ⟨dx, h1⟩ := id L
    refine ⟨_, pss_one (ps_ret (pe_op op_add (pm_ G T.cl hr (pv 0) (pa_cons (pe_fld (pv 0) rfl) pa_nil)) (pv 1))), ?_⟩
    exact ⟨_, rfl, a, dx, _, rfl, h1, rfl, _, rfl, a, C, dx, _, _, rfl, h1, T.cl, T.nW, rfl, a, t, w, r, w, rfl, L, _, rfl, _, _, rfl, rfl, k⟩
theorem scCells : FnScope ["self"] ["self"] (defScope sCells) := ⟨rfl, rfl, rfl, by decide +kernel, rfl, by decide +kernel, by decide +kernel⟩
theorem mo_cells (F : MT K C "cells" "Layout.cells" sCells ["self"]) (T : LTxt K mg C) (G : MO P w K mg base CX0 C 4 "record" ["self", "index"] (spL1 C fun t w _ i => .int (rec0 t w + i))) :
    MO P w K mg base CX0 C 5 "cells" ["self"] (spL0 C fun t w r => .int (cells t w r)) := by
  obtain ⟨f, fd, F, hm, hb⟩ := F
  refine ⟨f, fd, ?_, hm, hb⟩
  refine F.ok scCells (fun vs H Q E h => ?_) (fun cdv A outer s H vs Q E hr h => ?_)
  · obtain ⟨a, t, w, r, rfl, _⟩ := h
    rfl
  · obtain ⟨a, t, w, r, rfl, L, k⟩ := h
    obtain ⟨dx, h1⟩ := id L
    refine ⟨_, pss_one (ps_ret (pm_ G T.cl hr (pv 0) (pa_cons (pe_fld (pv 0) rfl) pa_nil))), ?_⟩
    exact ⟨_, rfl, a, dx, _, rfl, h1, rfl, _, rfl, a, C, dx, _, _, rfl, h1, T.cl, T.nR, rfl, a, t, w, r, r, rfl, L, k⟩
theorem scIsCell : FnScope ["self", "cell"] ["self", "cell"] (defScope sIsCell) := ⟨rfl, rfl, rfl, by decide +kernel, rfl, by decide +kernel, by decide +kernel⟩
theorem mo_iscell (F : MT K C "is_cell" "Layout.is_cell" sIsCell ["self", "cell"]) (T : LTxt K mg C) (G : MO P w K mg base CX0 C 5 "cells" ["self"] (spL0 C fun t w r => .int (cells t w r)))
    (GW : GO P w K mg base CX0 2 "is_within" ["value", "low", "high"] spWithin) : MO P w K mg base CX0 C 6 "is_cell" ["self", "cell"] (spLV C fun t w r v => .bl (inW 0 (cells t w r - 1) v)) := by
  obtain ⟨f, fd, F, hm, hb⟩ := F
  refine ⟨f, fd, ?_, hm, hb⟩
  refine F.ok scIsCell (fun vs H Q E h => ?_) (fun cdv A outer s H vs Q E hr h => ?_)
  · obtain ⟨a, t, w, r, v, ty, rfl, _⟩ := h
    rfl
  · obtain ⟨a, t, w, r, v, ty, rfl, hv, L, k⟩ := h
    obtain ⟨dx, h1⟩ := id L
    refine ⟨_, pss_one (ps_ret (pc_ GW (hr.mono (by decide)) (pa_cons (pv 1) (pa_cons pe_int (pa_cons (pe_op op_sub (pm0_ G T.cl hr (pv 0)) pe_int) pa_nil))))), ?_⟩
    exact ⟨_, rfl, _, rfl, a, dx, _, rfl, h1, rfl, a, t, w, r, rfl, L, _, _, rfl, rfl, v, ty, _, _, rfl, hv, k⟩
theorem scIsLast : FnScope ["self", "cell"] ["self", "cell"] (defScope sIsLast) := ⟨rfl, rfl, rfl, by decide +kernel, rfl, by decide +kernel, by decide +kernel⟩
theorem mo_islast (F : MT K C "is_lasting" "Layout.is_lasting" sIsLast ["self", "cell"]) (T : LTxt K mg C) (G : MO P w K mg base CX0 C 6 "is_cell" ["self", "cell"] (spLV C fun t w r v => .bl (inW 0 (cells t w r - 1) v)))
    (GC : MO P w K mg base CX0 C 2 "call_slot" ["self", "thread"] (spL1 C fun t _ _ i => .int (first t + i))) : MO P w K mg base CX0 C 7 "is_lasting" ["self", "cell"] (spLV C fun t w r v => .bl (lastB t w r v)) := by
  obtain ⟨f, fd, F, hm, hb⟩ := F
  refine ⟨f, fd, ?_, hm, hb⟩
  refine F.ok scIsLast (fun vs H Q E h => ?_) (fun cdv A outer s H vs Q E hr h => ?_)
  · obtain ⟨a, t, w, r, v, ty, rfl, _⟩ := h
    rfl
  · obtain ⟨a, t, w, r, v, ty, rfl, hv, L, k⟩ := h
    obtain ⟨dx, h1⟩ := id L
    refine ⟨_, pss_one (ps_ret (pe_and (pm_ G T.cl hr (pv 0) (pa_cons (pv 1) pa_nil)) (pe_one (pe_cmpR op_ge (pv 1) (pm_ GC T.cl (hr.mono (by decide)) (pv 0) (pa_cons pe_int pa_nil)) (nomark _))))), ?_⟩
    refine ⟨_, rfl, a, dx, _, rfl, h1, rfl, _, rfl, a, t, w, r, v, ty, rfl, hv, L, _, rfl, ?_⟩
    simp only [lastB] at k
    cases v <;> cases hv
    · exact iteF k
    · exact iteF k
    · rename_i i
      cases h2 : inW 0 (cells t w r - 1) (.int i) with
      | true =>
        rw [h2] at k
        exact iteT ⟨_, rfl, _, rfl, a, dx, _, rfl, h1, rfl, a, t, w, r, _, rfl, L, _, _, rfl, rfl, (by rw [Bool.true_and] at k; exact k)⟩
      | false =>
        rw [h2] at k
        exact iteF (by rw [Bool.false_and] at k; exact k)
    · exact iteF k
end
end Dk

set_option maxHeartbeats 4000000
/-! the refusals; a layout is made -/
namespace Dk
open PySem PySem.Spec PyProof.Rows L2
abbrev sPass : Stmt := top 22
abbrev bmVE : List Value := [.type "ValueError", .type "Exception", .type "BaseException", .type "object"]
/-- what the top has written of the refusals: NotValid at NV, LineError at LE -/
structure XTxt (K : PySem.W.Frag) (mg : Str → Option Value) (NV LE : Addr) : Prop where
  gN : mg "NotValid" = some (.ref NV)
  gL : mg "LineError" = some (.ref LE)
  xN : PySem.W.excIn K NV bmVE "ValueError.__new__" = true
  kN : PySem.W.keepIn K (.ref NV) = true
  sN : PySem.W.subIn K (.ref NV) (.type "BaseException") = some true
  tN : PySem.W.typeIn K (.ref NV) = some (.type "type")
  eN : PySem.W.exmOne K (.ref NV) (.ref LE) = some true
  eC : ExcC K NV
  kit : PySem.W.kitOne K (.ref NV) (.ref NV) = some true
def lok (t w r : Int) : Bool := inW 1 3 (.int t) && (inW 1 4 (.int w) && inW 4 200 (.int r))
structure LOk (t w r : Int) : Prop where
  t1 : 1 ≤ t
  t3 : t ≤ 3
  w1 : 1 ≤ w
  w4 : w ≤ 4
  r4 : 4 ≤ r
  r200 : r ≤ 200
theorem lok_iff {t w r : Int} : lok t w r = true ↔ LOk t w r := by
  unfold lok
  rw [Bool.and_eq_true, Bool.and_eq_true, inW_int, inW_int, inW_int]
  exact ⟨fun ⟨⟨a, b⟩, ⟨c, d⟩, e, f⟩ => ⟨a, b, c, d, e, f⟩, fun ⟨a, b, c, d, e, f⟩ => ⟨⟨a, b⟩, ⟨c, d⟩, e, f⟩⟩
def spLInit (C NV : Addr) : Sp := fun vs H Q E => ∃ p dx t w r, vs = [.ref p, .int t, .int w, .int r] ∧ H p = some (.ins C dx []) ∧
  (lok t w r = true → ∀ H', LayAt C H' p t w r → (∀ b o, H b = some o → b ≠ p → H' b = some o) → Q .non H') ∧ (lok t w r = false → E (.ref NV) none H)
def spTold (C : Addr) : Sp := fun vs H Q _ => ∃ t w r, vs = [.int t, .int w, .int r] ∧
  (lok t w r = true → ∀ p H', H p = none → LayAt C H' p t w r → Same H H' → Q (.ref p) H') ∧ (lok t w r = false → ∀ p H', H' p = some (.lst [.bl true]) → Same H H' → Q (.ref p) H')
def rIsE' (K : PySem.W.Frag) (D a : Addr) (cls : Value) (d : Option Addr) : List V → Hp → VK → Prop := fun xs H Q => cls = .ref D ∧ d = none ∧ rIsE K D a xs H Q
theorem call_isE' {X : Cx} {a D : Addr} {oe : Obj} {cls : Value} {d : Option Addr} {pn : List (Addr × Obj)} (C : ExcC X.K D) (hz : Zc cls d oe) (hf : ∃ vs, oe.data = .fields vs) :
    CallR (X.suite a ((a, oe) :: pn)) (.builtin "isinstance") (rIsE' X.K D a cls d) := by
  intro pins s σ H xs us Q I r h
  obtain ⟨rfl, rfl, h⟩ := h
  exact call_isE C hz hf pins s σ H xs us Q I r h
section
variable {P : Program} {w : World} {K : PySem.W.Frag} {mg : Str → Option Value} {base : Heap} {C NV LE : Addr}
theorem scLInit : FnScope ["self", "threads", "words", "records"] ["self", "threads", "words", "records"] (defScope sLInit) := ⟨rfl, rfl, rfl, by decide +kernel, rfl, by decide +kernel, by decide +kernel⟩
theorem ok_linit {f : Addr} {fd : FuncData} (F : Fun K "__init__" "Layout.__init__" sLInit f fd) (T : LTxt K mg C) (X0 : XTxt K mg NV LE) (G : GO P w K mg base CX0 2 "is_within" ["value", "low", "high"] spWithin) :
    FnOk P w K mg base (L2.CX P w) 3 f fd ["self", "threads", "words", "records"] (spLInit C NV) := by
  refine F.okX scLInit (fun vs H Q E h => ?_) (fun cdv A outer s H vs Q E hr h => ?_)
  · obtain ⟨p, dx, t, w, r, rfl, _⟩ := h
    rfl
  · obtain ⟨p, dx, t, w, r, rfl, hp, k1, k2⟩ := h
    refine ⟨_, pss_cons (ps_if (pt_not (PW.pt (pw_and (pt_val (pc_ G hr (pa_cons (pv 1) (pa_cons pe_int (pa_cons pe_int pa_nil))))) (pw_and (pt_val (pc_ G hr (pa_cons (pv 2) (pa_cons pe_int (pa_cons pe_int pa_nil)))))
        (pw_and1 (pt_val (pc_ G hr (pa_cons (pv 3) (pa_cons pe_int (pa_cons pe_int pa_nil))))))))))
        (pss_one (ps_raise rfl (takes_of rfl rfl rfl rfl) (pmk_own0 PySem.F.excBase_ValueError X0.xN X0.gN X0.kN (raises_own X0.sN X0.tN) rfl))) pss_nil)
      (pss_cons (ps_fld (pv 0) (pv 1) rfl) (pss_cons (ps_fld (pv 0) (pv 2) rfl) (pss_one (ps_fld (pv 0) (pv 3) rfl)))), ?_⟩
    have fin : lok t w r = true → tSeq (sFld K (tVar 0) (tVar 1) "threads") (tSeq (sFld K (tVar 0) (tVar 2) "words") (sFld K (tVar 0) (tVar 3) "records")) { nx := fun _ H' => Q .non H', rt := Q } (L2.start ["self", "threads", "words", "records"] [.ref p, .int t, .int w, .int r]) H := fun q => by
      refine ⟨_, rfl, _, rfl, p, C, dx, [], rfl, hp, T.cl, T.nT, (by show 0 < 1000; decide), _, rfl, _, rfl, p, C, dx, _, rfl, upd_same, T.cl, T.nW, (by show 1 < 1000; decide), _, rfl, _, rfl, p, C, dx, _, rfl, upd_same, T.cl, T.nR, (by show 2 < 1000; decide), ?_⟩
      exact k1 q _ ⟨dx, upd_same⟩ fun b o e hb => by rw [upd_ne hb, upd_ne hb, upd_ne hb]; exact e
    refine ⟨_, rfl, _, _, _, _, rfl, rfl, _, rfl, ?_⟩
    cases h1 : inW 1 3 (V.int t) with
    | false => exact iteF (iteT (k2 (by unfold lok; rw [h1]; rfl)))
    | true =>
      refine iteT ⟨_, rfl, _, _, _, _, rfl, rfl, _, rfl, ?_⟩
      cases h2 : inW 1 4 (V.int w) with
      | false => exact iteF (iteT (k2 (by unfold lok; rw [h1, h2]; rfl)))
      | true =>
        refine iteT ⟨_, rfl, _, _, _, _, rfl, rfl, _, rfl, ?_⟩
        cases h3 : inW 4 200 (V.int r) with
        | false => exact (iteT (k2 (by unfold lok; rw [h1, h2, h3]; rfl)))
        | true => exact (iteF (fin (by unfold lok; rw [h1, h2, h3]; rfl)))
/-- passing_values -/
def spPass (C : Addr) : Sp := fun vs H Q _ => ∃ a t w r, vs = [.ref a] ∧ LayAt C H a t w r ∧ LOk t w r ∧ ∀ p H', H p = none → H' p = some (.lst (.int 0 :: List.replicate t.toNat .non)) → Same H H' → Q (.ref p) H'
theorem flat1 : ∀ n : Nat, (List.replicate n [V.non]).flatten = List.replicate n V.non
  | 0 => rfl
  | n + 1 => by
    rw [List.replicate_succ, List.flatten_cons, flat1 n]
    rfl
theorem scPass : FnScope ["layout"] ["layout"] (defScope sPass) := ⟨rfl, rfl, rfl, by decide +kernel, rfl, by decide +kernel, by decide +kernel⟩
theorem go_pass (F : GT K mg "passing_values" sPass ["layout"]) (T : LTxt K mg C) : GO P w K mg base CX0 1 "passing_values" ["layout"] (spPass C) := by
  obtain ⟨f, fd, F, hm, hb⟩ := F
  refine ⟨f, fd, ?_, hm, F.kp, hb⟩
  refine F.ok scPass (fun vs H Q E h => ?_) (fun cdv A outer s H vs Q E hr h => ?_)
  · obtain ⟨a, t, w, r, rfl, _⟩ := h
    rfl
  · obtain ⟨a, t, w, r, rfl, ⟨dx, h1⟩, ok, k⟩ := h
    have q1 := ok.t1
    have q3 := ok.t3
    refine ⟨_, pss_one (ps_ret (pe_op op_cat (pe_lst (pa_cons pe_int pa_nil)) (pe_op op_rep (pe_lst (pa_cons pe_non pa_nil)) (pe_fld (pv 0) rfl)))), ?_⟩
    refine ⟨(by show 1 ≤ sizeLine; decide), fun p1 n1 => ⟨(by show 1 ≤ sizeLine; decide), fun p2 n2 => ?_⟩⟩
    have a1 : a ≠ p1 := ne_of_none h1 n1
    have e1 : upd H p1 (HO.lst [V.int 0]) a = some (.ins C dx (lf t w r)) := by rw [upd_ne a1]; exact h1
    have a2 : a ≠ p2 := ne_of_none e1 n2
    have p12 : p1 ≠ p2 := ne_of_none (upd_same (H := H) (a := p1) (o := HO.lst [V.int 0])) n2
    have hs : [V.non].length * t.toNat ≤ sizeLine := by
      have : sizeLine = 16777216 := sizeLine_eq
      simp only [List.length_singleton]
      omega
    refine ⟨_, rfl, a, C, dx, _, _, rfl, (by rw [upd_ne a2]; exact e1), T.cl, T.nT, rfl, _, _, _, rfl, rfl, upd_same, (by omega), (by omega), hs, fun p3 n3 => ?_⟩
    have p13 : p1 ≠ p3 := ne_of_none (by rw [upd_ne p12]; exact upd_same) n3
    refine ⟨p1, p3, _, _, rfl, rfl, (by rw [upd_ne p13, upd_ne p12]; exact upd_same), upd_same, ?_, fun p4 n4 => ?_⟩
    · rw [flat1, List.length_replicate]
      have : sizeLine = 16777216 := sizeLine_eq
      simp only [List.length_singleton]
      omega
    · have sm : Same H (upd (upd (upd H p1 (HO.lst [V.int 0])) p2 (HO.lst [V.non])) p3 (HO.lst (List.replicate t.toNat [V.non]).flatten)) := fun b o e => by
        have b1 := ne_of_none e n1
        have e' : upd H p1 (HO.lst [V.int 0]) b = some o := by rw [upd_ne b1]; exact e
        have b2 := ne_of_none e' n2
        have e'' : upd (upd H p1 (HO.lst [V.int 0])) p2 (HO.lst [V.non]) b = some o := by rw [upd_ne b2]; exact e'
        rw [upd_ne (ne_of_none e'' n3)]
        exact e''
      refine k p4 _ (sm.free n4) (by rw [upd_same, flat1]; rfl) fun b o e => ?_
      rw [upd_ne (ne_of_none (sm b o e) n4)]
      exact sm b o e
end
end Dk

set_option maxHeartbeats 4000000
/-! dicts over cells; the rule of a name = {k: v for ..} -/
namespace Dk
open PySem PySem.Spec PyProof.Rows L2
section
variable {X : Cx}
theorem ps_setDc {i : Nat} {y : Str} {py : Pos} {kx vx tg iter : Expr} {ifs : List Expr} {scope : Scope} {own : List (Str × Nat)} {pos spos : Pos} {wi : TI} {g : TG} {tt : TT} {tk tv : TE} (hc : X.calm = true) (hN : X.N.Nodup) (hy : X.N[i]? = some y) (hyl : X.env.scope.names.lookup y = some .local)
    (hsw : swapsWith (.DictComp kx vx [⟨tg, iter, ifs, 0⟩] scope pos) (some (.Name y py)) spos.line X.env = pure true) (hi : PI X tg iter wi) (ok : BlkOk X.N X.env.scope scope own)
    (hg : ∀ (s : Shared) (H : Hp) (C : Addr) (cl : List (Str × Addr)) (fp : List Addr), PG (X.blk s H scope (compEnvC scope cl C X.env) fp) tg g) (ht : ∀ (s : Shared) (H : Hp) (C : Addr) (cl : List (Str × Addr)) (fp : List Addr), PTs (X.blk s H scope (compEnvC scope cl C X.env) fp) ifs tt)
    (hk : ∀ (s : Shared) (H : Hp) (C : Addr) (cl : List (Str × Addr)) (fp : List Addr), PE (X.blk s H scope (compEnvC scope cl C X.env) fp) kx tk)
    (he : ∀ (s : Shared) (H : Hp) (C : Addr) (cl : List (Str × Addr)) (fp : List Addr), PE (X.blk s H scope (compEnvC scope cl C X.env) fp) vx tv) (hs : ∀ x, foldedSetIterable iter X.env x = pure x := by intro _; rfl) :
    PS X (.Assign [.Name y py] (.DictComp kx vx [⟨tg, iter, ifs, 0⟩] scope pos) spos) (tAsg (tDc wi g tt tk tv (own.map (·.2))) (gName i)) := by
  refine ⟨fun pins s σ H D I h => ?_⟩
  rw [exec_Assign_Name_used _ _ _ _ hsw]
  refine wpAny_bind (wpAny_standAt (wpAny_bind ?_))
  show wpAny _ X.A (do let _ ← comprehension (.DictComp kx vx [⟨tg, iter, ifs, 0⟩] scope pos) scope X.env (firstIterPos [⟨tg, iter, ifs, 0⟩] pos) newDict false (eval iter X.env) (some (assign (.Name y py) X.env))) _ _ s
  have h : tDc wi g tt tk tv (own.map (·.2)) σ H (fun x H1 => gName i x σ H1 D.nx) := h
  refine wpAny_bind (thn (dc_core (Qf := fun _ s' => SP X pins D .next s') hc hN I hi ok hg ht hk he hs h fun L C s' m H' I' q hn f => ?_) fun _ s' hq => wpAny_pure (wpAny_pure hq))
  show wpAny _ _ (assign (.Name y py) X.env (.ref L)) _ _ _
  refine wpAny_assign_Name (store_ok2 (v := V.ref L) I' hN hy (.inl hyl) rfl (fun s2 I2 ⟨a, sb, ha⟩ => ?_) (.inr hyl))
  obtain ⟨f0, f1, f2, f3, f4, f5⟩ := f
  have haC : C ≠ a := by
    rcases ha with z | z
    · rw [z]; exact f1
    · exact fun e => f4 y a z e.symm
  refine ⟨m, hn.sameBut sb haC, fun h3 sb3 => ?_⟩
  exact ⟨_, H', I2.turned (t' := s2.toks) (fun b o hb e => (sb3.2 b hb).trans e) f0 f1 f3 f4 f5, q⟩
theorem sw_trueD {kx vx : Expr} {gs : List Comprehension} {scope : Scope} {pos py : Pos} {y : Str} {l : Nat} {env : Env} (hk : env.scope.kind = .function) (hy : env.scope.names.lookup y = some .local) (hl : (py.line == pos.line) = true)
    (ha : (scope.names.any fun (n, k) => n == y && (k == .local || k == .cell)) = false) : swapsWith (.DictComp kx vx gs scope pos) (some (.Name y py)) l env = pure true := by
  have ky : env.kindOf y = some .local := hy
  have hb : env.blockKind = .function := by unfold Env.blockKind; rw [hk]; rfl
  unfold swapsWith
  simp only [hb, ky, ha, Expr.pos, hl]
  rfl
end
/-! ### a dict whose keys are f, f + 1, .. -/
def kv (f : Int) (n : Nat) (g : Nat → V) : List (Key × V) := (List.range n).map fun (j : Nat) => ((Sum.inl (f + (j : Int)) : Key), g j)
def setf (g : Nat → V) (j : Nat) (v : V) : Nat → V := fun i => if i = j then v else g i
theorem kv_len (f : Int) (n : Nat) (g : Nat → V) : (kv f n g).length = n := by unfold kv; rw [List.length_map, List.length_range]
theorem kv_congr {f : Int} {n : Nat} {g h : Nat → V} (e : ∀ j, j < n → g j = h j) : kv f n g = kv f n h := by
  unfold kv
  exact List.map_congr_left fun (j : Nat) hj => by rw [e j (List.mem_range.mp hj)]
theorem kv_succ (f : Int) (n : Nat) (g : Nat → V) : kv f (n + 1) g = kv f n g ++ [((Sum.inl (f + (n : Int)) : Key), g n)] := by
  unfold kv
  rw [List.range_succ, List.map_append]
  rfl
theorem kv_no (f : Int) (g : Nat → V) (i : Int) : ∀ n : Nat, (∀ j : Nat, j < n → f + (j : Int) ≠ i) → valV (kv f n g) (Sum.inl i : Key) = none
  | 0, _ => rfl
  | n + 1, h => by
    have ih := kv_no f g i n fun j hj => h j (by omega)
    rw [kv_succ, valV_snoc _ _ _ _ (kv_no f g (f + (n : Int)) n fun j hj e => by omega), if_neg (fun e => h n (by omega) (Sum.inl.inj e).symm)]
    exact ih
theorem kv_val (f : Int) (g : Nat → V) (j : Nat) : ∀ n : Nat, j < n → valV (kv f n g) (Sum.inl (f + (j : Int)) : Key) = some (g j)
  | 0, h => by omega
  | n + 1, h => by
    rw [kv_succ, valV_snoc _ _ _ _ (kv_no f g (f + (n : Int)) n fun j hj e => by omega)]
    by_cases e : j = n
    · subst e
      rw [if_pos rfl]
    · rw [if_neg (fun q => e (by have := Sum.inl.inj q; omega))]
      exact kv_val f g j n (by omega)
theorem kv_new (f : Int) (n : Nat) (g : Nat → V) (v : V) : putK (kv f n g) (Sum.inl (f + (n : Int)) : Key) v = kv f (n + 1) (setf g n v) := by
  rw [putK_new v (kv_no f g (f + (n : Int)) n fun j hj e => by omega), kv_succ]
  rw [kv_congr (h := setf g n v) (n := n) (fun j hj => by unfold setf; rw [if_neg (by omega)])]
  unfold setf
  rw [if_pos rfl]
theorem kv_put (f : Int) (n : Nat) (g : Nat → V) (j : Nat) (v : V) (hj : j < n) : putK (kv f n g) (Sum.inl (f + (j : Int)) : Key) v = kv f n (setf g j v) := by
  unfold putK
  rw [valV_any, kv_val f g j n hj, if_pos (by rfl)]
  unfold kv
  rw [List.map_map]
  refine List.map_congr_left fun i hi => ?_
  show (if (Sum.inl (f + (i : Int)) : Key) = Sum.inl (f + (j : Int)) then _ else _) = _
  by_cases e : i = j
  · subst e
    rw [if_pos rfl]
    unfold setf
    rw [if_pos rfl]
  · rw [if_neg (fun q => e (by have := Sum.inl.inj q; omega))]
    unfold setf
    rw [if_neg e]
theorem kv_at {f : Int} {n : Nat} {g : Nat → V} {i : Nat} {k : Key} {v : V} (h : (kv f n g)[i]? = some (k, v)) : i < n ∧ k = Sum.inl (f + (i : Int)) ∧ v = g i := by
  unfold kv at h
  rw [List.getElem?_map] at h
  cases e : (List.range n)[i]? with
  | none => rw [e] at h; cases h
  | some j =>
    rw [e] at h
    have hi : i < n := by
      have := (List.getElem?_eq_some_iff.mp e).1
      rwa [List.length_range] at this
    rw [List.getElem?_range hi] at e
    have ej : i = j := Option.some.inj e
    subst ej
    have := Option.some.inj h
    exact ⟨hi, (congrArg Prod.fst this).symm, (congrArg Prod.snd this).symm⟩
end Dk

set_option maxHeartbeats 4000000
/-! the trails and the notes of a new memory -/
namespace Dk
open PySem PySem.Spec PyProof.Rows L2
abbrev sTrails : Stmt := top 23
abbrev sNotes : Stmt := top 24
/-- the value of the j-th lasting cell, behind k words; the empty record is at E0 -/
def Init (E0 : Addr) (t w r : Nat) (k j : Nat) (v : V) : Prop :=
  if t ≤ j ∧ j < t + k then v = .int ((1 + t + j + w : Nat) : Int)
  else if t + w ≤ j ∧ j < t + w + k then v = .ref E0
  else v = .non
def seta (tl : Nat → Addr) (i : Nat) (p : Addr) : Nat → Addr := fun j => if j = i then p else tl j
theorem seta_same {tl : Nat → Addr} {i : Nat} {p : Addr} : seta tl i p i = p := if_pos rfl
theorem seta_ne {tl : Nat → Addr} {i j : Nat} {p : Addr} (h : j ≠ i) : seta tl i p j = tl j := if_neg h
theorem setf_same {g : Nat → V} {i : Nat} {v : V} : setf g i v i = v := if_pos rfl
theorem setf_ne {g : Nat → V} {i j : Nat} {v : V} (h : j ≠ i) : setf g i v j = g j := if_neg h
def sett (tr : Nat → List V) (i : Nat) (l : List V) : Nat → List V := fun j => if j = i then l else tr j
theorem sett_same {tr : Nat → List V} {i : Nat} {l : List V} : sett tr i l i = l := if_pos rfl
theorem sett_ne {tr : Nat → List V} {i j : Nat} {l : List V} (h : j ≠ i) : sett tr i l j = tr j := if_neg h
theorem setf_ref (tl : Nat → Addr) (i : Nat) (p : Addr) : setf (fun j => .ref (tl j)) i (.ref p) = fun j => .ref (seta tl i p j) := by
  funext j
  unfold setf seta
  by_cases c : j = i
  · rw [if_pos c, if_pos c]
  · rw [if_neg c, if_neg c]
/-- the dict of the trails at D: the key f + j has the list at tl j, which holds tr j -/
structure TrG (H : Hp) (D : Addr) (f : Int) (n : Nat) (tl : Nat → Addr) (tr : Nat → List V) : Prop where
  d : H D = some (.dK (kv f n fun j => .ref (tl j)))
  l : ∀ j, j < n → H (tl j) = some (.lst (tr j))
  inj : ∀ i j, i < n → j < n → tl i = tl j → i = j
theorem TrG.same {H H' : Hp} {D : Addr} {f : Int} {n : Nat} {tl : Nat → Addr} {tr : Nat → List V} (R : TrG H D f n tl tr) (s : Same H H') : TrG H' D f n tl tr := ⟨s _ _ R.d, fun j hj => s _ _ (R.l j hj), R.inj⟩
/-- a new list p is put in the place of the i-th -/
theorem TrG.put {H H1 : Hp} {D p : Addr} {f : Int} {n i : Nat} {tl : Nat → Addr} {tr : Nat → List V} {l : List V} (R : TrG H D f n tl tr) (s : Same H H1) (hp : H p = none) (h1 : H1 p = some (.lst l)) (hi : i < n) :
    TrG (upd H1 D (.dK (putK (kv f n fun j => .ref (tl j)) (Sum.inl (f + (i : Int)) : Key) (.ref p)))) D f n (seta tl i p) (sett tr i l) := by
  have nD : p ≠ D := (ne_of_none R.d hp).symm
  refine ⟨?_, fun j hj => ?_, fun j l hj hl e => ?_⟩
  · rw [upd_same, kv_put _ _ _ _ _ hi, setf_ref]
  · by_cases c : j = i
    · rw [c, seta_same, sett_same, upd_ne nD]
      exact h1
    · rw [seta_ne c, sett_ne c]
      have e1 := s _ _ (R.l j hj)
      rw [upd_ne (ne_of (s _ _ (R.l j hj)) (s _ _ R.d) (by intro z; cases z))]
      exact e1
  · have np : ∀ j, j < n → tl j ≠ p := fun j hj => ne_of_none (R.l j hj) hp
    by_cases c : j = i
    · by_cases c2 : l = i
      · omega
      · rw [c, seta_same, seta_ne c2] at e
        exact absurd e.symm (np l hl)
    · by_cases c2 : l = i
      · rw [seta_ne c, c2, seta_same] at e
        exact absurd e (np j hj)
      · rw [seta_ne c, seta_ne c2] at e
        exact R.inj j l hj hl e
/-- a new list p comes for the key behind the last -/
theorem TrG.snoc {H H1 : Hp} {D p : Addr} {f : Int} {n : Nat} {tl : Nat → Addr} {tr : Nat → List V} {l : List V} (R : TrG H D f n tl tr) (s : Same H H1) (hp : H p = none) (h1 : H1 p = some (.lst l)) :
    TrG (upd H1 D (.dK (putK (kv f n fun j => .ref (tl j)) (Sum.inl (f + (n : Int)) : Key) (.ref p)))) D f (n + 1) (seta tl n p) (sett tr n l) := by
  have nD : p ≠ D := (ne_of_none R.d hp).symm
  refine ⟨?_, fun j hj => ?_, fun j l hj hl e => ?_⟩
  · rw [upd_same, kv_new, setf_ref]
  · by_cases c : j = n
    · rw [c, seta_same, sett_same, upd_ne nD]
      exact h1
    · rw [seta_ne c, sett_ne c]
      have e1 := s _ _ (R.l j (by omega))
      rw [upd_ne (ne_of e1 (s _ _ R.d) (by intro z; cases z))]
      exact e1
  · have np : ∀ j, j < n → tl j ≠ p := fun j hj => ne_of_none (R.l j hj) hp
    by_cases c : j = n
    · by_cases c2 : l = n
      · omega
      · rw [c, seta_same, seta_ne c2] at e
        exact absurd e.symm (np l (by omega))
    · by_cases c2 : l = n
      · rw [seta_ne c, c2, seta_same] at e
        exact absurd e (np j (by omega))
      · rw [seta_ne c, seta_ne c2] at e
        exact R.inj j l (by omega) (by omega) e
/-- the trails of a new memory behind k words -/
structure TrAt (E0 : Addr) (H : Hp) (D : Addr) (t w r : Nat) (tl : Nat → Addr) (tr : Nat → List V) (k : Nat) (H0 : Hp) : Prop where
  g : TrG H D ((1 + t : Nat) : Int) (t + w + r) tl tr
  ini : ∀ j, j < t + w + r → ∃ v, tr j = [v] ∧ Init E0 t w r k j v
  new : ∀ j, j < t + w + r → H0 (tl j) = none
  nD : H0 D = none
structure NOk (t w r : Nat) : Prop where
  t1 : 1 ≤ t
  t3 : t ≤ 3
  w1 : 1 ≤ w
  w4 : w ≤ 4
  r4 : 4 ≤ r
  r200 : r ≤ 200
theorem NOk.lok {t w r : Nat} (h : NOk t w r) : LOk (t : Int) w r := ⟨by have := h.t1; omega, by have := h.t3; omega, by have := h.w1; omega, by have := h.w4; omega, by have := h.r4; omega, by have := h.r200; omega⟩
theorem first_n (t : Nat) : first (t : Int) + 0 = ((1 + t : Nat) : Int) := by unfold first; omega
theorem cells_n (t w r : Nat) : cells (t : Int) w r = ((1 + t + (t + w + r) : Nat) : Int) := by unfold cells; omega
def spTrails (C E0 : Addr) : Sp := fun vs H Q _ => ∃ (a : Addr) (t w r : Nat), vs = [.ref a] ∧ LayAt C H a t w r ∧ NOk t w r ∧
  ∀ (D : Addr) (tl : Nat → Addr) (tr : Nat → List V) (H' : Hp), TrAt E0 H' D t w r tl tr w H → Same H H' → Q (.ref D) H'
def spNotes (C : Addr) : Sp := fun vs H Q _ => ∃ (a : Addr) (t w r : Nat), vs = [.ref a] ∧ LayAt C H a t w r ∧ NOk t w r ∧
  ∀ (D : Addr) (na : List Addr) (H' : Hp), H' D = some (.lst (na.map V.ref)) → na.length = t → na.Nodup → (∀ a, a ∈ na → H' a = some (.dK []) ∧ H a = none) → H D = none → Same H H' → Q (.ref D) H'
section
variable {P : Program} {w : World} {K : PySem.W.Frag} {mg : Str → Option Value} {base : Heap} {C E0 : Addr}
theorem scTrails : FnScope ["layout", "trails", "index", "cell"] ["layout"] (defScope sTrails) := ⟨rfl, rfl, rfl, by decide +kernel, rfl, by decide +kernel, by decide +kernel⟩
theorem go_trails (F : GT K mg "first_trails" sTrails ["layout"]) (T : LTxt K mg C) (gEm : mg "EMPTY" = some (.ref E0)) (GS : MO P w K mg base CX0 C 2 "call_slot" ["self", "thread"] (spL1 C fun t _ _ i => .int (first t + i)))
    (GW : MO P w K mg base CX0 C 3 "word" ["self", "index"] (spL1 C fun t _ _ i => .int (first t + t + i))) (GR : MO P w K mg base CX0 C 4 "record" ["self", "index"] (spL1 C fun t w _ i => .int (rec0 t w + i)))
    (GC : MO P w K mg base CX0 C 5 "cells" ["self"] (spL0 C fun t w r => .int (cells t w r))) : GO P w K mg base CX0 6 "first_trails" ["layout"] (spTrails C E0) := by
  obtain ⟨f, fd, F, hm, hb⟩ := F
  refine ⟨f, fd, ?_, hm, F.kp, hb⟩
  refine F.ok scTrails (fun vs H Q E h => ?_) (fun cdv A outer s H vs Q E hr h => ?_)
  · obtain ⟨a, t, w, r, rfl, _⟩ := h
    rfl
  · obtain ⟨a, t, w, r, rfl, L, ok, k⟩ := h
    obtain ⟨dx, h1⟩ := id L
    have hu := hu_of hr
    have hr2 : Room 2 _ := hr.mono (by decide)
    have hr3 : Room 3 _ := hr.mono (by decide)
    have hr4 : Room 4 _ := hr.mono (by decide)
    refine ⟨_, pss_cons (ps_setDc (i := 1) (own := [("cell", 3)]) (g := gName 3) (tt := tYes) rfl scTrails.nd rfl rfl (sw_trueD rfl rfl rfl (by decide +kernel))
        (pi_range2 rfl T.bn.range (pa_cons (pm_ GS T.cl hr2 (pv 0) (pa_cons pe_int pa_nil)) (pa_cons (pm0_ GC T.cl hr (pv 0)) pa_nil)))
        (blkOk_by (N := ["layout", "trails", "index", "cell"]) (sc := defScope sTrails) (by decide +kernel)) (fun _ _ _ _ _ => pg_name (i := 3) scTrails.nd rfl (Or.inl rfl)) (fun _ _ _ _ _ => pts_nil) (fun _ _ _ _ _ => pv 3) (fun _ _ _ _ _ => pe_lst (pa_cons pe_non pa_nil)))
      (pss_cons (ps_for PassesOwn.never rfl (pi_range1 rfl T.bn.range (pa_cons (pe_fld (pv 0) rfl) pa_nil)) (pg_name (i := 2) scTrails.nd rfl (Or.inl rfl))
        (pss_cons (ps_dput hu (pv 1) (pm_ GW T.cl hr3 (pv 0) (pa_cons (pv 2) pa_nil)) (pe_lst (pa_cons (pm_ GR T.cl hr4 (pv 0) (pa_cons (pv 2) pa_nil)) pa_nil)) rfl)
        (pss_one (ps_dput hu (pv 1) (pm_ GR T.cl hr4 (pv 0) (pa_cons (pv 2) pa_nil)) (pe_lst (pa_cons (pe_glob (v := .ref E0) rfl gEm rfl) pa_nil)) rfl))))
      (pss_one (ps_ret (pv 1)))), ?_⟩
    have hsl : sizeLine = 16777216 := sizeLine_eq
    have q1 := ok.t1
    have q2 := ok.t3
    have q3 := ok.w1
    have q4 := ok.w4
    have q5 := ok.r4
    have q6 := ok.r200
    have hf := first_n t
    have hc := cells_n t w r
    refine ⟨_, rfl, a, dx, _, rfl, h1, rfl, a, t, w, r, 0, rfl, L, _, rfl, a, dx, _, rfl, h1, rfl, a, t, w, r, rfl, L, _, _, rfl, ⟨by omega, by omega, by omega, by omega⟩, fun D hD => ?_⟩
    rw [hf, hc]
    have en : (((1 + t + (t + w + r) : Nat) : Int) - ((1 + t : Nat) : Int)).toNat = t + w + r := by omega
    rw [en]
    refine dc_it walk_range (fun i H' => ∃ (tl : Nat → Addr) (tr : Nat → List V), TrG H' D ((1 + t : Nat) : Int) i tl tr ∧ (∀ j, j < i → tr j = [.non] ∧ H (tl j) = none) ∧ Same H H')
      ⟨fun _ => 0, fun _ => [], ⟨upd_same, fun j h => by omega, fun j l h => by omega⟩, fun j h => by omega, fun b o e => by rw [upd_ne (ne_of_none e hD)]; exact e⟩ (fun _ _ _ _ => trivial) ?_ ?_
    · rintro i x H9 H1 hi ⟨tl, tr, R, hl, sm⟩ ⟨rfl, rfl⟩
      refine ⟨rfl, _, rfl, (by show 1 ≤ sizeLine; decide), fun p hp => ?_⟩
      have pD : D ≠ p := ne_of_none R.d hp
      have s1 : Same H1 (upd H1 p (.lst [.non])) := fun b o e => by rw [upd_ne (ne_of_none e hp)]; exact e
      refine ⟨_, Sum.inl _, rfl, (by rw [upd_ne pD]; exact R.d), (by rw [kv_len]; omega), _, _, R.snoc s1 hp upd_same, fun j hj => ?_, fun b o e => ?_⟩
      · by_cases c : j = i
        · rw [c, seta_same, sett_same]
          exact ⟨rfl, sm.free hp⟩
        · rw [seta_ne c, sett_ne c]
          exact hl j (by omega)
      · rw [upd_ne (ne_of_none e hD)]
        exact s1 _ _ (sm b o e)
    · rintro H1 ⟨tl, tr, R, hl, sm⟩
      have R0 : TrAt E0 H1 D t w r tl tr 0 H := by
        refine ⟨R, fun j hj => ⟨.non, (hl j hj).1, ?_⟩, fun j hj => (hl j hj).2, hD⟩
        unfold Init
        rw [if_neg (by omega), if_neg (by omega)]
      have h1' := sm _ _ h1
      refine ⟨_, rfl, a, C, dx, _, _, rfl, h1', T.cl, T.nW, rfl, _, rfl, by omega, by omega, for_range (lo := 0) (n := (w : Int).toNat)
        (fun i σ H2 => ∃ (v c : Option V) (tl : Nat → Addr) (tr : Nat → List V), σ = [some (.ref a), some (.ref D), v, c] ∧ TrAt E0 H2 D t w r tl tr i H ∧ Same H H2) ⟨_, _, tl, tr, rfl, R0, sm⟩ ?_ ?_⟩
      · rintro i σ H2 hi ⟨v, c, tl2, tr2, rfl, R, sm2⟩
        have g1 := sm2 _ _ h1
        have L2 : LayAt C H2 a t w r := ⟨dx, g1⟩
        have hw : i < w := by omega
        -- trails[layout.word(index)] = [layout.record(index)]
        refine ⟨_, rfl, a, dx, _, rfl, g1, rfl, _, rfl, a, t, w, r, _, rfl, L2, (by show 1 ≤ sizeLine; decide), fun p hp => ?_⟩
        have sp1 : Same H2 (upd H2 p (HO.lst [V.int (rec0 (t : Int) w + (0 + (i : Int)))])) := fun b o e => by rw [upd_ne (ne_of_none e hp)]; exact e
        have k1 : (first (t : Int) + t + (0 + (i : Int))) = ((1 + t : Nat) : Int) + ((t + i : Nat) : Int) := by unfold first; omega
        refine ⟨_, rfl, _, rfl, a, dx, _, rfl, sp1 _ _ g1, rfl, _, rfl, a, t, w, r, _, rfl, ⟨dx, sp1 _ _ g1⟩, D, _, rfl, DPut.k (k := Sum.inl _) (sp1 _ _ R.g.d) (by rw [kv_len]; omega), ?_⟩
        rw [k1]
        have R1 := R.g.put sp1 hp upd_same (i := t + i) (by omega)
        have s3 : Same H _ := fun b o e => (show upd (upd H2 p (HO.lst [V.int (rec0 (t : Int) w + (0 + (i : Int)))])) D (.dK (putK (kv ((1 + t : Nat) : Int) (t + w + r) fun j => .ref (tl2 j)) (Sum.inl (((1 + t : Nat) : Int) + ((t + i : Nat) : Int)) : Key) (.ref p))) b = some o from by
          rw [upd_ne (ne_of_none e hD)]
          exact sp1 _ _ (sm2 b o e))
        have it3 : ∀ j, j < t + w + r → ∃ v, sett tr2 (t + i) [V.int (rec0 (t : Int) w + (0 + (i : Int)))] j = [v] ∧ (j = t + i → v = .int (rec0 (t : Int) w + (0 + (i : Int)))) ∧ (j ≠ t + i → Init E0 t w r i j v) := fun j hj => by
          by_cases c : j = t + i
          · exact ⟨_, (by rw [c, sett_same]), fun _ => rfl, fun h => absurd c h⟩
          · obtain ⟨v, e1, e2⟩ := R.ini j hj
            exact ⟨v, (by rw [sett_ne c]; exact e1), fun h => absurd h c, fun _ => e2⟩
        generalize hH3 : upd (upd H2 p (HO.lst [V.int (rec0 (t : Int) w + (0 + (i : Int)))])) D (.dK (putK (kv ((1 + t : Nat) : Int) (t + w + r) fun j => .ref (tl2 j)) (Sum.inl (((1 + t : Nat) : Int) + ((t + i : Nat) : Int)) : Key) (.ref p))) = H3 at R1 s3 ⊢
        have n3 : ∀ j, j < t + w + r → H (seta tl2 (t + i) p j) = none := fun j hj => by
          by_cases c : j = t + i
          · rw [c, seta_same]
            exact sm2.free hp
          · rw [seta_ne c]
            exact R.new j hj
        generalize htr3 : sett tr2 (t + i) [V.int (rec0 (t : Int) w + (0 + (i : Int)))] = tr3 at R1 it3
        generalize htl3 : seta tl2 (t + i) p = tl3 at R1 n3
        -- trails[layout.record(index)] = [("items", ())]
        refine ⟨(by show 1 ≤ sizeLine; decide), fun p2 hp2 => ?_⟩
        have s36 : Same H3 (upd H3 p2 (.lst [.ref E0])) := fun b o e => by rw [upd_ne (ne_of_none e hp2)]; exact e
        have g3 := s36 _ _ (s3 _ _ h1)
        have hp23 : H3 p2 = none := hp2
        have k2 : (rec0 (t : Int) w + (0 + (i : Int))) = ((1 + t : Nat) : Int) + ((t + w + i : Nat) : Int) := by unfold rec0; omega
        refine ⟨_, rfl, _, rfl, a, dx, _, rfl, g3, rfl, _, rfl, a, t, w, r, _, rfl, ⟨dx, g3⟩, D, _, rfl, DPut.k (k := Sum.inl _) (s36 _ _ R1.d) (by rw [kv_len]; omega), ?_⟩
        rw [k2]
        have R2 := R1.put s36 hp23 upd_same (i := t + w + i) (by omega)
        refine ⟨_, _, _, _, rfl, ⟨R2, fun j hj => ?_, fun j hj => ?_, hD⟩, fun b o e => ?_⟩
        · by_cases c : j = t + w + i
          · refine ⟨.ref E0, (by rw [c, sett_same]), ?_⟩
            unfold Init
            rw [if_neg (by omega), if_pos (by omega)]
          · obtain ⟨v, e1, e2, e3⟩ := it3 j hj
            refine ⟨v, (by rw [sett_ne c]; exact e1), ?_⟩
            unfold Init
            by_cases c1 : j = t + i
            · rw [if_pos (by omega), e2 c1]
              exact congrArg V.int (by rw [c1]; unfold rec0; omega)
            · have e3 := e3 c1
              unfold Init at e3
              by_cases c2 : t ≤ j ∧ j < t + i
              · rw [if_pos c2] at e3
                rw [if_pos (by omega)]
                exact e3
              · rw [if_neg c2] at e3
                rw [if_neg (by omega)]
                by_cases c3 : t + w ≤ j ∧ j < t + w + i
                · rw [if_pos c3] at e3
                  rw [if_pos (by omega)]
                  exact e3
                · rw [if_neg c3] at e3
                  rw [if_neg (by omega)]
                  exact e3
        · by_cases c : j = t + w + i
          · rw [c, seta_same]
            exact s3.free hp23
          · rw [seta_ne c]
            exact n3 j hj
        · rw [upd_ne (ne_of_none e hD)]
          exact s36 _ _ (s3 b o e)
      · rintro σ H2 ⟨v, c, tl2, tr2, rfl, R, sm2⟩
        have ew : (w : Int).toNat = w := by omega
        rw [ew] at R
        exact ⟨_, rfl, k D tl2 tr2 H2 R sm2⟩
theorem scNotes : FnScope ["layout", "thread"] ["layout"] (defScope sNotes) := ⟨rfl, rfl, rfl, by decide +kernel, rfl, by decide +kernel, by decide +kernel⟩
theorem go_notes (F : GT K mg "no_notes" sNotes ["layout"]) (T : LTxt K mg C) : GO P w K mg base CX0 1 "no_notes" ["layout"] (spNotes C) := by
  obtain ⟨f, fd, F, hm, hb⟩ := F
  refine ⟨f, fd, ?_, hm, F.kp, hb⟩
  refine F.ok scNotes (fun vs H Q E h => ?_) (fun cdv A outer s H vs Q E hr h => ?_)
  · obtain ⟨a, t, w, r, rfl, _⟩ := h
    rfl
  · obtain ⟨a, t, w, r, rfl, L, ok, k⟩ := h
    obtain ⟨dx, h1⟩ := id L
    refine ⟨_, pss_one (ps_ret (pe_lc (own := [("thread", 1)]) (g := gName 1) (tt := tYes) rfl scNotes.nd (pi_range1 rfl T.bn.range (pa_cons (pe_fld (pv 0) rfl) pa_nil))
      (blkOk_by (N := ["layout", "thread"]) (sc := defScope sNotes) (by decide +kernel)) (fun _ _ _ _ _ => pg_name (i := 1) scNotes.nd rfl (Or.inl rfl)) (fun _ _ _ _ _ => pts_nil) (fun _ _ _ _ _ => pe_dnewK))), ?_⟩
    have q1 := ok.t1
    have q3 := ok.t3
    refine ⟨_, rfl, a, C, dx, _, _, rfl, h1, T.cl, T.nT, rfl, _, rfl, by omega, by omega, fun D hD => lc_range (lo := 0) (n := (t : Int).toNat)
      (fun i H' => ∃ na : List Addr, H' D = some (.lst (na.map V.ref)) ∧ na.length = i ∧ na.Nodup ∧ (∀ a, a ∈ na → H' a = some (.dK []) ∧ H a = none) ∧ Same H H') ⟨[], upd_same, rfl, List.nodup_nil, fun a h => by simp at h, fun b o e => by rw [upd_ne (ne_of_none e hD)]; exact e⟩ ?_ ?_⟩
    · rintro i H' hi ⟨na, hl, len, nd, all, sm⟩
      refine ⟨rfl, fun p hp => ?_⟩
      have pD : D ≠ p := ne_of_none hl hp
      have hsz : na.length < sizeLine := by
        have : sizeLine = 16777216 := sizeLine_eq
        omega
      refine ⟨na.map V.ref, (by rw [upd_ne pD]; exact hl), (by rw [List.length_map]; exact hsz), na ++ [p], ?_, by simp [len], ?_, ?_, ?_⟩
      · rw [upd_same, List.map_append]
        rfl
      · refine nd_snoc nd fun m => ?_
        have := (all p m).1
        rw [hp] at this
        cases this
      · intro b hb
        rcases List.mem_append.mp hb with m | m
        · obtain ⟨e1, e2⟩ := all b m
          have bD : b ≠ D := ne_of e1 hl (by intro z; cases z)
          rw [upd_ne bD, upd_ne (ne_of_none e1 hp)]
          exact ⟨e1, e2⟩
        · have e := List.mem_singleton.mp m
          subst e
          rw [upd_ne pD.symm, upd_same]
          exact ⟨rfl, sm.free hp⟩
      · intro b o e
        have e1 := sm b o e
        rw [upd_ne (ne_of_none e hD), upd_ne (ne_of_none e1 hp)]
        exact e1
    · rintro H' ⟨na, hl, len, nd, all, sm⟩
      exact k D na H' hl (by omega) nd all hD sm
end
end Dk

set_option maxHeartbeats 4000000
/-! a memory is made -/
namespace Dk
open PySem PySem.Spec PyProof.Rows L2
abbrev sMInit : Stmt := inClass (top 25) 0
/-- what a memory holds -/
structure MS where
  count : Int
  ps : List V
  tr : Nat → List V
  lost : Nat → Int
  notes : List (List (Key × V))
  log : List V
/-- where its parts stand -/
structure Adr where
  a : Addr
  pl : Addr
  td : Addr
  ld : Addr
  nl : Addr
  gl : Addr
  tl : Nat → Addr
  na : List Addr
def mf (A : Adr) (c : Int) : List (Str × V) := [("layout", .ref A.a), ("count", .int c), ("_passing", .ref A.pl), ("_trails", .ref A.td), ("_lost", .ref A.ld), ("_notes", .ref A.nl), ("_log", .ref A.gl)]
structure MemAt (C M : Addr) (H : Hp) (m : Addr) (t w r : Nat) (A : Adr) (S : MS) : Prop where
  ob : ∃ dx, H m = some (.ins M dx (mf A S.count))
  lay : LayAt C H A.a t w r
  ps : H A.pl = some (.lst S.ps)
  tr : TrG H A.td ((1 + t : Nat) : Int) (t + w + r) A.tl S.tr
  ld : H A.ld = some (.dK (kv ((1 + t : Nat) : Int) (t + w + r) fun j => .int (S.lost j)))
  nl : H A.nl = some (.lst (A.na.map V.ref))
  nn : A.na.length = t
  nd : A.na.Nodup
  no : ∀ (i : Nat) (b : Addr), A.na[i]? = some b → ∃ ns, S.notes[i]? = some ns ∧ H b = some (.dK ns)
  gl : H A.gl = some (.lst S.log)
  d1 : ∀ j, j < t + w + r → A.tl j ≠ A.pl ∧ A.tl j ≠ A.gl ∧ A.tl j ≠ A.nl
  d2 : A.pl ≠ A.gl ∧ A.pl ≠ A.nl ∧ A.gl ≠ A.nl
  d3 : A.td ≠ A.ld
  d4 : ∀ b, b ∈ A.na → b ≠ A.td ∧ b ≠ A.ld
  d5 : m ≠ A.a
/-- the addresses that are the memory's own -/
def Foot (m : Addr) (A : Adr) (n : Nat) (b : Addr) : Prop := b = m ∨ b = A.pl ∨ b = A.td ∨ b = A.ld ∨ b = A.nl ∨ b = A.gl ∨ (∃ j, j < n ∧ b = A.tl j) ∨ b ∈ A.na
def S0 (t : Nat) (tr : Nat → List V) : MS := ⟨0, .int 0 :: List.replicate t .non, tr, fun _ => 0, List.replicate t [], []⟩
structure MTxt (K : PySem.W.Frag) (M : Addr) : Prop where
  cl : Cls K M
  nL : NoAttr K M "layout"
  nC : NoAttr K M "count"
  nP : NoAttr K M "_passing"
  nT : NoAttr K M "_trails"
  nO : NoAttr K M "_lost"
  nN : NoAttr K M "_notes"
  nG : NoAttr K M "_log"
/-- all but what stands at p is as it was -/
def Keep (p : Addr) (H H' : Hp) : Prop := ∀ b o, H b = some o → b ≠ p → H' b = some o
theorem Keep.of {p : Addr} {H H' : Hp} (s : Same H H') : Keep p H H' := fun b o e _ => s b o e
theorem Keep.trans {p : Addr} {H H1 H2 : Hp} (a : Keep p H H1) (b : Keep p H1 H2) : Keep p H H2 := fun c o e h => b c o (a c o e h) h
theorem Keep.up {p : Addr} {H : Hp} {o : HO} : Keep p H (upd H p o) := fun b u e h => by rw [upd_ne h]; exact e
def spMInit (C M E0 : Addr) : Sp := fun vs H Q _ => ∃ (p dx a : Addr) (t w r : Nat), vs = [.ref p, .ref a] ∧ H p = some (.ins M dx []) ∧ LayAt C H a t w r ∧ NOk t w r ∧
  ∀ (A : Adr) (tr : Nat → List V) (H' : Hp), A.a = a → MemAt C M H' p t w r A (S0 t tr) → (∀ j, j < t + w + r → ∃ v, tr j = [v] ∧ Init E0 t w r w j v) → Keep p H H' → (∀ b, Foot p A (t + w + r) b → b = p ∨ H b = none) → Q .non H'
section
variable {P : Program} {w : World} {K : PySem.W.Frag} {mg : Str → Option Value} {base : Heap} {C M E0 : Addr}
theorem scMInit : FnScope ["self", "layout", "cell"] ["self", "layout"] (defScope sMInit) := ⟨rfl, rfl, rfl, by decide +kernel, rfl, by decide +kernel, by decide +kernel⟩
theorem ok_minit {f : Addr} {fd : FuncData} (F : Fun K "__init__" "Memory.__init__" sMInit f fd) (T : LTxt K mg C) (TM : MTxt K M) (GP : GO P w K mg base CX0 1 "passing_values" ["layout"] (spPass C))
    (GT : GO P w K mg base CX0 6 "first_trails" ["layout"] (spTrails C E0)) (GN : GO P w K mg base CX0 1 "no_notes" ["layout"] (spNotes C)) : FnOk P w K mg base CX0 7 f fd ["self", "layout"] (spMInit C M E0) := by
  refine F.ok scMInit (fun vs H Q E h => ?_) (fun cdv A outer s H vs Q E hr h => ?_)
  · obtain ⟨p, dx, a, t, w, r, rfl, _⟩ := h
    rfl
  · obtain ⟨p, dx, a, t, w, r, rfl, hp, L, ok, k⟩ := h
    obtain ⟨da, ha⟩ := id L
    have hr1 : Room 1 _ := hr.mono (by decide)
    have pa : p ≠ a := ne_of hp ha (by intro z; cases z)
    refine ⟨_, pss_cons (ps_fld (pv 0) (pv 1) rfl) (pss_cons (ps_fld (pv 0) pe_int rfl) (pss_cons (ps_fld (pv 0) (pc_ GP hr1 (pa_cons (pv 1) pa_nil)) rfl)
      (pss_cons (ps_fld (pv 0) (pc_ GT hr (pa_cons (pv 1) pa_nil)) rfl)
      (pss_cons (ps_fld (pv 0) (pe_lock (pe_dc (own := [("cell", 2)]) (g := gName 2) (tt := tYes) rfl scMInit.nd (pi_keys (pe_fld (pv 0) rfl)) (blkOk_by (N := ["self", "layout", "cell"]) (sc := defScope sMInit) (by decide +kernel))
        (fun _ _ _ _ _ => pg_name (i := 2) scMInit.nd rfl (Or.inl rfl)) (fun _ _ _ _ _ => pts_nil) (fun _ _ _ _ _ => pv 2) (fun _ _ _ _ _ => pe_int))) rfl)
      (pss_cons (ps_fld (pv 0) (pc_ GN hr1 (pa_cons (pv 1) pa_nil)) rfl) (pss_one (ps_fld (pv 0) (pe_lst pa_nil) rfl))))))), ?_⟩
    -- self.layout = layout; self.count = 0
    refine ⟨_, rfl, _, rfl, p, M, dx, [], rfl, hp, TM.cl, TM.nL, (by show 0 < 1000; decide), ?_⟩
    refine ⟨_, rfl, p, M, dx, _, rfl, upd_same, TM.cl, TM.nC, (by show 1 < 1000; decide), ?_⟩
    generalize hH2 : upd (upd H p _) p _ = H2
    have k2 : Keep p H H2 := by rw [← hH2]; exact Keep.up.trans Keep.up
    have p2 : H2 p = some (.ins M dx [("layout", .ref a), ("count", .int 0)]) := by rw [← hH2]; exact upd_same
    -- self._passing = passing_values(layout)
    refine ⟨_, rfl, a, t, w, r, rfl, ⟨da, k2 _ _ ha pa.symm⟩, ok.lok, fun pl H3 npl hpl s3 => ?_⟩
    refine ⟨_, rfl, p, M, dx, _, rfl, s3 _ _ p2, TM.cl, TM.nP, (by show 2 < 1000; decide), ?_⟩
    generalize hH4 : upd H3 p _ = H4
    have k4 : Keep p H2 H4 := by rw [← hH4]; exact (Keep.of s3).trans Keep.up
    have p4 : H4 p = some (.ins M dx [("layout", .ref a), ("count", .int 0), ("_passing", .ref pl)]) := by rw [← hH4]; exact upd_same
    have plp : pl ≠ p := (ne_of_none p2 npl).symm
    have e4 : H4 pl = some (.lst (.int 0 :: List.replicate (t : Int).toNat .non)) := by rw [← hH4, upd_ne plp]; exact hpl
    -- self._trails = first_trails(layout)
    refine ⟨_, rfl, a, t, w, r, rfl, ⟨da, k4 _ _ (k2 _ _ ha pa.symm) pa.symm⟩, ok, fun td tl tr H5 R s5 => ?_⟩
    refine ⟨_, rfl, p, M, dx, _, rfl, s5 _ _ p4, TM.cl, TM.nT, (by show 3 < 1000; decide), ?_⟩
    generalize hH6 : upd H5 p _ = H6
    have k56 : Keep p H5 H6 := by rw [← hH6]; exact Keep.up
    have k6 : Keep p H4 H6 := (Keep.of s5).trans k56
    have p6 : H6 p = some (.ins M dx [("layout", .ref a), ("count", .int 0), ("_passing", .ref pl), ("_trails", .ref td)]) := by rw [← hH6]; exact upd_same
    have tdp : td ≠ p := (ne_of_none p4 R.nD).symm
    have tlp : ∀ j, j < t + w + r → tl j ≠ p := fun j hj => (ne_of_none p4 (R.new j hj)).symm
    have G6 : TrG H6 td ((1 + t : Nat) : Int) (t + w + r) tl tr := ⟨k56 _ _ R.g.d tdp, fun j hj => k56 _ _ (R.g.l j hj) (tlp j hj), R.g.inj⟩
    -- self._lost = {cell: 0 for cell in self._trails}
    refine ⟨td, _, G6.d, trivial, fun od => ?_⟩
    have tdp' : p ≠ td := tdp.symm
    have f6 : upd H6 td (.frz od (.dK (kv ((1 + t : Nat) : Int) (t + w + r) fun j => .ref (tl j)))) p = some (.ins M dx [("layout", .ref a), ("count", .int 0), ("_passing", .ref pl), ("_trails", .ref td)]) := by rw [upd_ne tdp']; exact p6
    refine ⟨_, rfl, p, M, dx, _, _, rfl, f6, TM.cl, TM.nT, rfl, td, od, rfl, .inl ⟨_, upd_same, fun D hD => ?_⟩⟩
    have tdD : td ≠ D := ne_of_none upd_same hD
    refine dc_it walk_keys (fun i H' => H' D = some (.dK (kv ((1 + t : Nat) : Int) i fun _ => .int 0)) ∧ Same (upd H6 td (.frz od (.dK (kv ((1 + t : Nat) : Int) (t + w + r) fun j => .ref (tl j))))) H')
      ⟨upd_same, fun b o e => by rw [upd_ne (ne_of_none e hD)]; exact e⟩ (fun i H' _ q => q.2 _ _ upd_same) ?_ ?_
    · rintro i x H9 H1 hi ⟨hd, sm⟩ ⟨rfl, kk, v, e, rfl⟩
      obtain ⟨hi', rfl, rfl⟩ := kv_at e
      refine ⟨rfl, _, rfl, _, Sum.inl _, rfl, hd, (by rw [kv_len]; have : sizeLine = 16777216 := sizeLine_eq; have := ok.t3; have := ok.w4; have := ok.r200; omega), ?_, fun b o e => ?_⟩
      · rw [upd_same, kv_new]
        refine congrArg (fun q => some (HO.dK q)) (kv_congr fun j hj => ?_)
        unfold setf
        split <;> rfl
      · rw [upd_ne (ne_of_none e hD)]
        exact sm b o e
    · rintro H7 ⟨hd, sm⟩
      rw [kv_len] at hd
      refine ⟨sm _ _ upd_same, ?_⟩
      have e8 : Same H6 (upd H7 td (.dK (kv ((1 + t : Nat) : Int) (t + w + r) fun j => .ref (tl j)))) := fun b o e => by
        by_cases c : b = td
        · subst c
          rw [upd_same]
          exact G6.d.symm.trans e
        · rw [upd_ne c]
          refine sm b o ?_
          rw [upd_ne c]
          exact e
      have hd8 : upd H7 td (.dK (kv ((1 + t : Nat) : Int) (t + w + r) fun j => .ref (tl j))) D = some (.dK (kv ((1 + t : Nat) : Int) (t + w + r) fun _ => .int 0)) := by rw [upd_ne tdD.symm]; exact hd
      have nD6 : H6 D = none := by
        rw [upd_ne tdD.symm] at hD
        exact hD
      generalize hH8 : upd H7 td _ = H8 at e8 hd8 ⊢
      have pD : D ≠ p := (ne_of_none p6 nD6).symm
      refine ⟨_, rfl, p, M, dx, _, rfl, e8 _ _ p6, TM.cl, TM.nO, (by show 4 < 1000; decide), ?_⟩
      generalize hH9 : upd H8 p _ = H9
      have k9 : Keep p H6 H9 := by rw [← hH9]; exact (Keep.of e8).trans Keep.up
      have p9 : H9 p = some (.ins M dx [("layout", .ref a), ("count", .int 0), ("_passing", .ref pl), ("_trails", .ref td), ("_lost", .ref D)]) := by rw [← hH9]; exact upd_same
      have d9 : H9 D = some (.dK (kv ((1 + t : Nat) : Int) (t + w + r) fun _ => .int 0)) := by rw [← hH9, upd_ne pD]; exact hd8
      -- self._notes = no_notes(layout)
      have a9 := k9 _ _ (k6 _ _ (k4 _ _ (k2 _ _ ha pa.symm) pa.symm) pa.symm) pa.symm
      refine ⟨_, rfl, a, t, w, r, rfl, ⟨da, a9⟩, ok, fun nl na H10 hnl hlen hnd hall nnl s10 => ?_⟩
      refine ⟨_, rfl, p, M, dx, _, rfl, s10 _ _ p9, TM.cl, TM.nN, (by show 5 < 1000; decide), ?_⟩
      generalize hH11 : upd H10 p _ = H11
      have k10 : Keep p H10 H11 := by rw [← hH11]; exact Keep.up
      have k11 : Keep p H9 H11 := (Keep.of s10).trans k10
      have p11 : H11 p = some (.ins M dx [("layout", .ref a), ("count", .int 0), ("_passing", .ref pl), ("_trails", .ref td), ("_lost", .ref D), ("_notes", .ref nl)]) := by rw [← hH11]; exact upd_same
      have nlp : nl ≠ p := (ne_of_none p9 nnl).symm
      have nap : ∀ b, b ∈ na → b ≠ p := fun b hb => (ne_of_none p9 (hall b hb).2).symm
      -- self._log = []
      refine ⟨(by show 0 ≤ sizeLine; exact Nat.zero_le _), fun gl ngl => ?_⟩
      have glp : gl ≠ p := (ne_of_none p11 ngl).symm
      refine ⟨_, rfl, p, M, dx, _, rfl, (by rw [upd_ne glp.symm]; exact p11), TM.cl, TM.nG, (by show 6 < 1000; decide), ?_⟩
      generalize hH12 : upd (upd H11 gl _) p _ = H12
      have k12 : Keep p H11 H12 := by
        rw [← hH12]
        intro b o e h
        rw [upd_ne h, upd_ne (ne_of_none e ngl)]
        exact e
      have p12 : H12 p = some (.ins M dx [("layout", .ref a), ("count", .int 0), ("_passing", .ref pl), ("_trails", .ref td), ("_lost", .ref D), ("_notes", .ref nl), ("_log", .ref gl)]) := by rw [← hH12]; exact upd_same
      have g12 : H12 gl = some (.lst []) := by rw [← hH12, upd_ne glp, upd_same]
      have k6z : Keep p H6 H12 := (k9.trans k11).trans k12
      have k4z : Keep p H4 H12 := k6.trans k6z
      have pl12 := k4z _ _ e4 plp
      have et : (t : Int).toNat = t := by omega
      rw [et] at pl12
      have kz : Keep p H H12 := (k2.trans k4).trans k4z
      have nl11 : H11 nl = some (.lst (na.map V.ref)) := k10 _ _ hnl nlp
      have pl4 : H4 pl ≠ none := by rw [e4]; intro z; cases z
      have frN : ∀ {b : Addr}, b ≠ p → H4 b = none → H b = none := fun {b} hb e => by
        cases q : H b with
        | none => rfl
        | some o =>
          have := k4 _ _ (k2 _ _ q hb) hb
          rw [e] at this
          cases this
      have frN2 : ∀ {b : Addr}, b ≠ p → H6 b = none → H4 b = none := fun {b} hb e => by
        cases q : H4 b with
        | none => rfl
        | some o =>
          have := k6 _ _ q hb
          rw [e] at this
          cases this
      have frN3 : ∀ {b : Addr}, b ≠ p → H9 b = none → H6 b = none := fun {b} hb e => by
        cases q : H6 b with
        | none => rfl
        | some o =>
          have := k9 _ _ q hb
          rw [e] at this
          cases this
      have frN4 : ∀ {b : Addr}, b ≠ p → H11 b = none → H9 b = none := fun {b} hb e => by
        cases q : H9 b with
        | none => rfl
        | some o =>
          have := k11 _ _ q hb
          rw [e] at this
          cases this
      refine k ⟨a, pl, td, D, nl, gl, tl, na⟩ tr H12 rfl ⟨⟨dx, p12⟩, ⟨da, k12 _ _ (k11 _ _ a9 pa.symm) pa.symm⟩, pl12, ⟨k6z _ _ G6.d tdp, fun j hj => k6z _ _ (G6.l j hj) (tlp j hj), G6.inj⟩, k12 _ _ (k11 _ _ d9 pD) pD, k12 _ _ nl11 nlp, hlen, hnd, ?_, g12, ?_, ?_, ?_, ?_, pa⟩ ?_ kz ?_
      · intro i b hb
        have hm := List.mem_of_getElem? hb
        refine ⟨[], ?_, k12 _ _ (k10 _ _ (hall b hm).1 (nap b hm)) (nap b hm)⟩
        have hi : i < t := by
          have q : i < na.length := (List.getElem?_eq_some_iff.mp hb).1
          omega
        show (List.replicate t ([] : List (Key × V)))[i]? = some []
        rw [List.getElem?_replicate, if_pos hi]
      · intro j hj
        have e6 := k6z
        refine ⟨fun e => ?_, fun e => ?_, fun e => ?_⟩
        · have := R.new j hj
          have e : tl j = pl := e
          rw [e] at this
          exact pl4 this
        · have e : tl j = gl := e
          have := k11 _ _ (k9 _ _ (G6.l j hj) (tlp j hj)) (tlp j hj)
          rw [e, ngl] at this
          cases this
        · have e : tl j = nl := e
          have := k9 _ _ (G6.l j hj) (tlp j hj)
          rw [e, nnl] at this
          cases this
      · have q9 := k9 _ _ (k6 _ _ e4 plp) plp
        have q11 := k11 _ _ q9 plp
        refine ⟨fun e => ?_, fun e => ?_, fun e => ?_⟩
        · have e : pl = gl := e
          rw [e, ngl] at q11
          cases q11
        · have e : pl = nl := e
          rw [e, nnl] at q9
          cases q9
        · have e : gl = nl := e
          rw [← e, ngl] at nl11
          cases nl11
      · exact tdD
      · intro b hb
        have e9 := (hall b hb).2
        refine ⟨fun e => ?_, fun e => ?_⟩
        · have e : b = td := e
          have := k9 _ _ G6.d tdp
          rw [← e, e9] at this
          cases this
        · have e : b = D := e
          rw [← e, e9] at d9
          cases d9
      · intro j hj
        obtain ⟨v, e1, e2⟩ := R.ini j hj
        exact ⟨v, e1, e2⟩
      · intro b hb
        by_cases hbp : b = p
        · exact .inl hbp
        · refine .inr ?_
          rcases hb with e | e | e | e | e | e | ⟨j, hj, e⟩ | e
          · exact absurd e hbp
          · have e : b = pl := e
            rw [e]
            cases q : H pl with
            | none => rfl
            | some o =>
              have := k2 _ _ q plp
              rw [npl] at this
              cases this
          · have e : b = td := e
            rw [e]
            exact frN tdp R.nD
          · have e : b = D := e
            rw [e]
            exact frN pD (frN2 pD nD6)
          · have e : b = nl := e
            rw [e]
            exact frN nlp (frN2 nlp (frN3 nlp nnl))
          · have e : b = gl := e
            rw [e]
            exact frN glp (frN2 glp (frN3 glp (frN4 glp ngl)))
          · have e : b = tl j := e
            rw [e]
            exact frN (tlp j hj) (R.new j hj)
          · exact frN hbp (frN2 hbp (frN3 hbp (hall b e).2))
end
end Dk

set_option maxHeartbeats 4000000
/-! a memory is looked at -/
namespace Dk
open PySem PySem.Spec PyProof.Rows L2
abbrev sPeek : Stmt := inClass (top 25) 2
abbrev sLasting : Stmt := inClass (top 25) 3
abbrev sTrail : Stmt := inClass (top 25) 4
abbrev sAsk : Stmt := inClass (top 25) 8
/-- the present value of the cell i -/
def cellV (S : MS) (t i : Nat) : Option V := if i < 1 + t then S.ps[i]? else (S.tr (i - (1 + t))).getLast?
theorem inW_nat {n i : Nat} : inW 0 (((n : Nat) : Int) - 1) (.int (i : Int)) = decide (i < n) := by
  show (decide ((0 : Int) ≤ (i : Int)) && decide ((i : Int) ≤ (n : Int) - 1)) = _
  by_cases c : i < n
  · rw [decide_eq_true c, decide_eq_true (by omega), decide_eq_true (by omega)]
    rfl
  · rw [decide_eq_false c, decide_eq_false (p := (i : Int) ≤ (n : Int) - 1) (by omega)]
    exact Bool.and_false _
theorem lastB_nat {t w r i : Nat} : lastB (t : Int) w r (.int (i : Int)) = decide (1 + t ≤ i ∧ i < 1 + t + (t + w + r)) := by
  unfold lastB
  rw [cells_n, inW_nat, first_n]
  show (decide (i < 1 + t + (t + w + r)) && decide (((1 + t : Nat) : Int) ≤ (i : Int))) = _
  by_cases c : i < 1 + t + (t + w + r)
  · by_cases d : 1 + t ≤ i
    · rw [decide_eq_true c, decide_eq_true (by omega), decide_eq_true ⟨d, c⟩]
      rfl
    · rw [decide_eq_true c, decide_eq_false (p := ((1 + t : Nat) : Int) ≤ (i : Int)) (by omega), decide_eq_false (p := 1 + t ≤ i ∧ i < 1 + t + (t + w + r)) (fun z => d z.1)]
      rfl
  · rw [decide_eq_false c, decide_eq_false (p := 1 + t ≤ i ∧ i < 1 + t + (t + w + r)) (fun z => c z.2)]
    rfl
theorem recB_nat {t w r i : Nat} : recB (t : Int) w r (.int (i : Int)) = decide (1 + t + t + w ≤ i ∧ i < 1 + t + (t + w + r)) := by
  unfold recB
  rw [cells_n, inW_nat]
  show (decide (i < 1 + t + (t + w + r)) && decide (rec0 (t : Int) w + 0 ≤ (i : Int))) = _
  unfold rec0
  by_cases c : i < 1 + t + (t + w + r)
  · by_cases d : 1 + t + t + w ≤ i
    · rw [decide_eq_true c, decide_eq_true (by omega), decide_eq_true ⟨d, c⟩]
      rfl
    · rw [decide_eq_true c, decide_eq_false (p := (1 + (t : Int) + t + w + 0 ≤ (i : Int))) (by omega), decide_eq_false (p := 1 + t + t + w ≤ i ∧ i < 1 + t + (t + w + r)) (fun z => d z.1)]
      rfl
  · rw [decide_eq_false c, decide_eq_false (p := 1 + t + t + w ≤ i ∧ i < 1 + t + (t + w + r)) (fun z => c z.2)]
    rfl
theorem atI_getLast {xs : List V} {v : V} (h : xs.getLast? = some v) : atI xs (-1) = some v := by
  have : xs ≠ [] := by
    intro e
    rw [e] at h
    cases h
  have e := List.dropLast_concat_getLast this
  have h : xs.getLast this = v := by
    have e2 := List.getLast?_eq_some_getLast this
    rw [h] at e2
    exact (Option.some.inj e2).symm
  rw [h] at e
  rw [← e]
  exact atI_last _ _
def spPeek (C M : Addr) : Sp := fun vs H Q _ => ∃ (m : Addr) (t w r i : Nat) (A : Adr) (S : MS) (v : V), vs = [.ref m, .int (i : Int)] ∧ MemAt C M H m t w r A S ∧ i < 1 + t + (t + w + r) ∧ cellV S t i = some v ∧ Q v H
def spAsk (C M NV : Addr) : Sp := fun vs H Q E => ∃ (m : Addr) (t w r i : Nat) (A : Adr) (S : MS), vs = [.ref m, .int (i : Int)] ∧ MemAt C M H m t w r A S ∧
  ((1 + t ≤ i ∧ i < 1 + t + (t + w + r)) → Q .non H) ∧ (¬ (1 + t ≤ i ∧ i < 1 + t + (t + w + r)) → E (.ref NV) none H)
def spLasting (C M NV : Addr) : Sp := fun vs H Q E => ∃ (m : Addr) (t w r i : Nat) (A : Adr) (S : MS), vs = [.ref m, .int (i : Int)] ∧ MemAt C M H m t w r A S ∧
  ((1 + t ≤ i ∧ i < 1 + t + (t + w + r)) → ∃ v, (S.tr (i - (1 + t)))[0]? = some v ∧ Q v H) ∧ (¬ (1 + t ≤ i ∧ i < 1 + t + (t + w + r)) → E (.ref NV) none H)
def spTrail (C M NV : Addr) : Sp := fun vs H Q E => ∃ (m : Addr) (t w r i : Nat) (A : Adr) (S : MS), vs = [.ref m, .int (i : Int)] ∧ MemAt C M H m t w r A S ∧
  ((1 + t ≤ i ∧ i < 1 + t + (t + w + r)) → ∀ p, H p = none → Q (.ref p) (upd H p (.lst (S.tr (i - (1 + t)))))) ∧ (¬ (1 + t ≤ i ∧ i < 1 + t + (t + w + r)) → E (.ref NV) none H)
section
variable {P : Program} {w : World} {K : PySem.W.Frag} {mg : Str → Option Value} {base : Heap} {C M NV LE : Addr}
theorem scPeek : FnScope ["self", "cell"] ["self", "cell"] (defScope sPeek) := ⟨rfl, rfl, rfl, by decide +kernel, rfl, by decide +kernel, by decide +kernel⟩
theorem mo_peek (F : MT K M "peek" "Memory.peek" sPeek ["self", "cell"]) (T : LTxt K mg C) (TM : MTxt K M) (GI : MO P w K mg base CX0 C 6 "is_cell" ["self", "cell"] (spLV C fun t w r v => .bl (inW 0 (cells t w r - 1) v)))
    (GL : MO P w K mg base CX0 C 7 "is_lasting" ["self", "cell"] (spLV C fun t w r v => .bl (lastB t w r v))) : MO P w K mg base CX0 M 8 "peek" ["self", "cell"] (spPeek C M) := by
  obtain ⟨f, fd, F, hm, hb⟩ := F
  refine ⟨f, fd, ?_, hm, hb⟩
  refine F.ok scPeek (fun vs H Q E h => ?_) (fun cdv A outer s H vs Q E hr h => ?_)
  · obtain ⟨m, t, w, r, i, A, S, v, rfl, _⟩ := h
    rfl
  · obtain ⟨m, t, w, r, i, B, S, v, rfl, D, hi, hv, k⟩ := h
    obtain ⟨dx, h1⟩ := D.ob
    obtain ⟨da, ha⟩ := D.lay
    have hu := hu_of hr
    refine ⟨_, pss_cons (ps_if (pt_not (pt_val (pm_ GI T.cl (hr.mono (by decide)) (pe_fld (pv 0) rfl) (pa_cons (pv 1) pa_nil)))) (pss_one ps_never) pss_nil)
      (pss_cons (ps_if (pt_val (pm_ GL T.cl hr (pe_fld (pv 0) rfl) (pa_cons (pv 1) pa_nil))) (pss_one (ps_ret (pe_ix ix_list (pe_dget hu (pe_fld (pv 0) rfl) (pv 1) (fun _ _ => rfl)) (pe_un un_neg pe_int) (fun _ _ => rfl)))) pss_nil)
      (pss_one (ps_ret (pe_ix ix_list (pe_fld (pv 0) rfl) (pv 1) (fun _ _ => rfl))))), ?_⟩
    refine ⟨_, rfl, m, M, dx, _, _, rfl, h1, TM.cl, TM.nL, rfl, B.a, da, _, rfl, ha, rfl, _, rfl, B.a, t, w, r, _, "int", rfl, rfl, ⟨da, ha⟩, _, rfl, ?_⟩
    rw [cells_n, inW_nat, decide_eq_true hi]
    refine iteF ?_
    refine ⟨_, rfl, m, M, dx, _, _, rfl, h1, TM.cl, TM.nL, rfl, B.a, da, _, rfl, ha, rfl, _, rfl, B.a, t, w, r, _, "int", rfl, rfl, ⟨da, ha⟩, _, rfl, ?_⟩
    rw [lastB_nat]
    unfold cellV at hv
    by_cases c : i < 1 + t
    · rw [if_pos c] at hv
      rw [decide_eq_false (by omega)]
      refine iteF ?_
      exact ⟨_, rfl, m, M, dx, _, _, rfl, h1, TM.cl, TM.nP, rfl, _, rfl, B.pl, _, _, _, rfl, rfl, SqL.of D.ps, atI_nat hv, k⟩
    · rw [if_neg c] at hv
      rw [decide_eq_true (by omega)]
      refine iteT ?_
      have hj : i - (1 + t) < t + w + r := by omega
      have ei : ((1 + t : Nat) : Int) + ((i - (1 + t) : Nat) : Int) = (i : Int) := by omega
      have g : DGet H B.td (.int (i : Int)) (some (.ref (B.tl (i - (1 + t))))) := by
        have := DGet.k (k := (Sum.inl (i : Int) : Key)) D.tr.d
        rw [← ei, kv_val _ _ _ _ hj, ei] at this
        exact this
      exact ⟨_, rfl, m, M, dx, _, _, rfl, h1, TM.cl, TM.nT, rfl, _, rfl, B.td, _, rfl, g, 1, rfl, B.tl (i - (1 + t)), _, _, _, rfl, rfl, SqL.of (D.tr.l _ hj), atI_getLast hv, k⟩
theorem scAsk : FnScope ["self", "cell"] ["self", "cell"] (defScope sAsk) := ⟨rfl, rfl, rfl, by decide +kernel, rfl, by decide +kernel, by decide +kernel⟩
theorem mo_ask (F : MT K M "_ask_lasting" "Memory._ask_lasting" sAsk ["self", "cell"]) (T : LTxt K mg C) (TM : MTxt K M) (X0 : XTxt K mg NV LE)
    (GL : MO P w K mg base CX0 C 7 "is_lasting" ["self", "cell"] (spLV C fun t w r v => .bl (lastB t w r v))) : MO P w K mg base (L2.CX P w) M 8 "_ask_lasting" ["self", "cell"] (spAsk C M NV) := by
  obtain ⟨f, fd, F, hm, hb⟩ := F
  refine ⟨f, fd, ?_, hm, hb⟩
  refine F.okX scAsk (fun vs H Q E h => ?_) (fun cdv A outer s H vs Q E hr h => ?_)
  · obtain ⟨m, t, w, r, i, A, S, rfl, _⟩ := h
    rfl
  · obtain ⟨m, t, w, r, i, B, S, rfl, D, k1, k2⟩ := h
    obtain ⟨dx, h1⟩ := D.ob
    obtain ⟨da, ha⟩ := D.lay
    refine ⟨_, pss_one (ps_if (pt_not (pt_val (pm_ GL T.cl hr (pe_fld (pv 0) rfl) (pa_cons (pv 1) pa_nil))))
      (pss_one (ps_raise rfl (takes_of rfl rfl rfl rfl) (pmk_own0 PySem.F.excBase_ValueError X0.xN X0.gN X0.kN (raises_own X0.sN X0.tN) rfl))) pss_nil), ?_⟩
    refine ⟨_, rfl, m, M, dx, _, _, rfl, h1, TM.cl, TM.nL, rfl, B.a, da, _, rfl, ha, rfl, _, rfl, B.a, t, w, r, _, "int", rfl, rfl, ⟨da, ha⟩, _, rfl, ?_⟩
    rw [lastB_nat]
    by_cases c : 1 + t ≤ i ∧ i < 1 + t + (t + w + r)
    · rw [decide_eq_true c]
      exact iteF (k1 c)
    · rw [decide_eq_false c]
      exact iteT (k2 c)
theorem scLasting : FnScope ["self", "cell"] ["self", "cell"] (defScope sLasting) := ⟨rfl, rfl, rfl, by decide +kernel, rfl, by decide +kernel, by decide +kernel⟩
theorem mo_lasting (F : MT K M "lasting" "Memory.lasting" sLasting ["self", "cell"]) (TM : MTxt K M) (GA : MO P w K mg base (L2.CX P w) M 8 "_ask_lasting" ["self", "cell"] (spAsk C M NV)) :
    MO P w K mg base (L2.CX P w) M 9 "lasting" ["self", "cell"] (spLasting C M NV) := by
  obtain ⟨f, fd, F, hm, hb⟩ := F
  refine ⟨f, fd, ?_, hm, hb⟩
  refine F.okX scLasting (fun vs H Q E h => ?_) (fun cdv A outer s H vs Q E hr h => ?_)
  · obtain ⟨m, t, w, r, i, A, S, rfl, _⟩ := h
    rfl
  · obtain ⟨m, t, w, r, i, B, S, rfl, D, k1, k2⟩ := h
    obtain ⟨dx, h1⟩ := D.ob
    have hu := hu_of hr
    refine ⟨_, pss_cons (ps_expr (pmE_ (E := fun _ => E) GA TM.cl hr (fun σ => passAt (takes_of rfl rfl rfl rfl) σ) (pv 0) (pa_cons (pv 1) pa_nil)))
      (pss_one (ps_ret (pe_ix ix_list (pe_dget hu (pe_fld (pv 0) rfl) (pv 1) (fun _ _ => rfl)) pe_int (fun _ _ => rfl)))), ?_⟩
    refine ⟨_, rfl, m, dx, _, rfl, h1, rfl, _, rfl, m, t, w, r, i, B, S, rfl, D, fun c => ?_, k2⟩
    obtain ⟨v, hv, q⟩ := k1 c
    have hj : i - (1 + t) < t + w + r := by omega
    have ei : ((1 + t : Nat) : Int) + ((i - (1 + t) : Nat) : Int) = (i : Int) := by omega
    have g : DGet H B.td (.int (i : Int)) (some (.ref (B.tl (i - (1 + t))))) := by
      have := DGet.k (k := (Sum.inl (i : Int) : Key)) D.tr.d
      rw [← ei, kv_val _ _ _ _ hj, ei] at this
      exact this
    exact ⟨_, rfl, m, M, dx, _, _, rfl, h1, TM.cl, TM.nT, rfl, _, rfl, B.td, _, rfl, g, B.tl (i - (1 + t)), _, _, _, rfl, rfl, SqL.of (D.tr.l _ hj), atI_nat (j := 0) hv, q⟩
theorem scTrail : FnScope ["self", "cell"] ["self", "cell"] (defScope sTrail) := ⟨rfl, rfl, rfl, by decide +kernel, rfl, by decide +kernel, by decide +kernel⟩
theorem mo_trail (F : MT K M "trail" "Memory.trail" sTrail ["self", "cell"]) (T : LTxt K mg C) (TM : MTxt K M) (GA : MO P w K mg base (L2.CX P w) M 8 "_ask_lasting" ["self", "cell"] (spAsk C M NV)) :
    MO P w K mg base (L2.CX P w) M 9 "trail" ["self", "cell"] (spTrail C M NV) := by
  obtain ⟨f, fd, F, hm, hb⟩ := F
  refine ⟨f, fd, ?_, hm, hb⟩
  refine F.okX scTrail (fun vs H Q E h => ?_) (fun cdv A outer s H vs Q E hr h => ?_)
  · obtain ⟨m, t, w, r, i, A, S, rfl, _⟩ := h
    rfl
  · obtain ⟨m, t, w, r, i, B, S, rfl, D, k1, k2⟩ := h
    obtain ⟨dx, h1⟩ := D.ob
    have hu := hu_of hr
    refine ⟨_, pss_cons (ps_expr (pmE_ (E := fun _ => E) GA TM.cl hr (fun σ => passAt (takes_of rfl rfl rfl rfl) σ) (pv 0) (pa_cons (pv 1) pa_nil)))
      (pss_one (ps_ret (pe_callTy call_list_of (by rfl) T.bn.list (by decide +kernel) (pa_cons (pe_dget hu (pe_fld (pv 0) rfl) (pv 1) (fun _ _ => rfl)) pa_nil)))), ?_⟩
    refine ⟨_, rfl, m, dx, _, rfl, h1, rfl, _, rfl, m, t, w, r, i, B, S, rfl, D, fun c => ?_, k2⟩
    have q := k1 c
    have hj : i - (1 + t) < t + w + r := by omega
    have ei : ((1 + t : Nat) : Int) + ((i - (1 + t) : Nat) : Int) = (i : Int) := by omega
    have g : DGet H B.td (.int (i : Int)) (some (.ref (B.tl (i - (1 + t))))) := by
      have := DGet.k (k := (Sum.inl (i : Int) : Key)) D.tr.d
      rw [← ei, kv_val _ _ _ _ hj, ei] at this
      exact this
    exact ⟨_, rfl, m, M, dx, _, _, rfl, h1, TM.cl, TM.nT, rfl, _, rfl, B.td, _, rfl, g, B.tl (i - (1 + t)), _, rfl, .inl (SqL.of (D.tr.l _ hj)), q⟩
end
end Dk

set_option maxHeartbeats 4000000
/-! the tape of a law -/
namespace Dk
open PySem PySem.Spec PyProof.Rows L2
abbrev sTape : Stmt := top 27
abbrev sAt : Stmt := top 28
def Small (ms : List Int) : Prop := ∀ v, v ∈ ms → 0 ≤ v ∧ v < 1000
theorem Small.snoc {ms : List Int} {v : Int} (h : Small ms) (a : 0 ≤ v) (b : v < 1000) : Small (ms ++ [v]) := fun x hx => by
  rcases List.mem_append.mp hx with m | m
  · exact h x m
  · rw [List.mem_singleton.mp m]
    exact ⟨a, b⟩
def atD (ms : List Int) (k : Nat) : Int := (ms[k]?).getD 0
theorem atD_small {ms : List Int} {k : Nat} (h : Small ms) : 0 ≤ atD ms k ∧ atD ms k < 1000 := by
  unfold atD
  cases e : ms[k]? with
  | none => exact ⟨by decide, by decide⟩
  | some v => exact h v (List.mem_of_getElem? e)
def spTape (K : PySem.W.Frag) : Sp := fun vs H Q _ => ∃ (a : Addr) (ns : List Int), vs = [.ref a] ∧ SqL K H a (ns.map V.int) ∧ ns.length ≤ 63 ∧
  ∀ (p : Addr) (ms : List Int) (H' : Hp), H p = none → H' p = some (.lst (ms.map V.int)) → Small ms → ms.length ≤ 3780 → Same H H' → Q (.ref p) H'
def spAt (K : PySem.W.Frag) : Sp := fun vs H Q _ => ∃ (p : Addr) (ms : List Int) (k : Nat), vs = [.ref p, .int (k : Int)] ∧ SqL K H p (ms.map V.int) ∧ Q (.int (atD ms k)) H
section
variable {P : Program} {w : World} {K : PySem.W.Frag} {mg : Str → Option Value} {base : Heap}
theorem scTape : FnScope ["script", "tape", "k", "value", "step"] ["script"] (defScope sTape) := ⟨rfl, rfl, rfl, by decide +kernel, rfl, by decide +kernel, by decide +kernel⟩
theorem go_tape (F : GT K mg "_law_tape" sTape ["script"]) (T : Bn mg) : GO P w K mg base CX0 1 "_law_tape" ["script"] (spTape K) := by
  obtain ⟨f, fd, F, hm, hb⟩ := F
  refine ⟨f, fd, ?_, hm, F.kp, hb⟩
  refine F.ok scTape (fun vs H Q E h => ?_) (fun cdv A outer s H vs Q E hr h => ?_)
  · obtain ⟨a, ns, rfl, _⟩ := h
    rfl
  · obtain ⟨a, ns, rfl, hS, hlen, k⟩ := h
    have hsl : sizeLine = 16777216 := sizeLine_eq
    refine ⟨_, pss_cons (ps_set (i := 1) scTape.nd rfl (Or.inl rfl) (pe_lst pa_nil))
      (pss_cons (ps_for PassesOwn.never rfl (pi_range1 rfl T.range (pa_cons (pe_callB call_len_seq (by rfl) T.len PySem.boot_len (pa_cons (pv 0) pa_nil)) pa_nil)) (pg_name (i := 2) scTape.nd rfl (Or.inl rfl))
        (pss_cons (ps_set (i := 3) scTape.nd rfl (Or.inl rfl) (pe_callB call_abs (by rfl) T.abs (by decide +kernel) (pa_cons (pe_callTy call_int1 (by rfl) T.int (by decide +kernel) (pa_cons (pe_ix ix_list (pv 0) (pv 2) (fun _ _ => rfl)) pa_nil)) pa_nil)))
        (pss_one (ps_if (pt_cmpR op_ge (pv 3) (pe_op op_pow pe_int pe_int) (nomark _))
          (pss_one (ps_for PassesOwn.never rfl (pi_range1 rfl T.range (pa_cons pe_int pa_nil)) (pg_name (i := 4) scTape.nd rfl (Or.inl rfl))
            (pss_one (ps_if (pt_cmpR op_gt (pv 3) pe_int (nomark _))
              (pss_cons (ps_expr (pe_bm PySem.F.plainAttrs_list PySem.F.slot_list_append PySem.F.type_list_append mt_append (pv 1) (pa_cons (pe_op op_mod (pv 3) pe_int) pa_nil)))
              (pss_one (ps_set (i := 3) scTape.nd rfl (Or.inl rfl) (pe_op op_fdiv (pv 3) pe_int)))) pss_nil))))
          (pss_one (ps_for PassesOwn.never rfl (pi_range1 rfl T.range (pa_cons pe_int pa_nil)) (pg_name (i := 4) scTape.nd rfl (Or.inl rfl))
            (pss_cons (ps_set (i := 3) scTape.nd rfl (Or.inl rfl) (pe_op op_mod (pe_op op_add (pe_op op_add (pe_op op_mul (pv 3) pe_int) (pe_op op_mul pe_int (pe_op op_add (pv 2) pe_int))) (pe_op op_mul pe_int (pv 4))) pe_int))
            (pss_cons (ps_set (i := 3) scTape.nd rfl (Or.inl rfl) (pe_op op_mod (pe_op op_mul (pv 3) pe_int) pe_int))
            (pss_one (ps_expr (pe_bm PySem.F.plainAttrs_list PySem.F.slot_list_append PySem.F.type_list_append mt_append (pv 1) (pa_cons (pe_op op_mod (pe_op op_fdiv (pv 3) pe_int) pe_int) pa_nil))))))))))))
      (pss_one (ps_ret (pv 1)))), ?_⟩
    -- tape = []
    refine ⟨(by show 0 ≤ sizeLine; exact Nat.zero_le _), fun D hD => ?_⟩
    have s0 : Same H (upd H D (.lst [])) := fun b o e => by rw [upd_ne (ne_of_none e hD)]; exact e
    refine ⟨_, rfl, a, _, rfl, .inl (s0.seq hS), _, rfl, (by rw [List.length_map]; omega), (by rw [List.length_map]; omega), for_range (lo := 0) (n := ((ns.map V.int).length : Int).toNat)
      (fun i σ H2 => ∃ (x y z : Option V) (ms : List Int), σ = [some (.ref a), some (.ref D), x, y, z] ∧ H2 D = some (.lst (ms.map V.int)) ∧ Small ms ∧ ms.length ≤ 60 * i ∧ Same H H2) ⟨_, _, _, [], rfl, upd_same, fun v h => by simp at h, by simp, s0⟩ ?_ ?_⟩
    · rintro i σ H2 hi ⟨x, y, z, ms, rfl, hl, sm, len, s2⟩
      have hi' : i < ns.length := by
        rw [List.length_map] at hi
        omega
      have hv : (ns.map V.int)[i]? = some (V.int ns[i]) := by rw [List.getElem?_map, List.getElem?_eq_getElem hi']; rfl
      refine ⟨_, rfl, _, rfl, a, _, _, _, rfl, rfl, s2.seq hS, at_of (j := i) (by omega) hv, .inl ⟨_, rfl, _, rfl, ?_⟩⟩
      generalize hval : (if ns[i] < 0 then -ns[i] else ns[i]) = val
      refine ⟨_, rfl, _, _, rfl, rfl, ⟨by decide, by decide, by decide⟩, _, _, rfl, rfl, _, rfl, ite2 (fun _ => ?_) (fun _ => ?_)⟩
      · refine ⟨60, rfl, by decide, by decide, for_range (lo := 0) (n := (60 : Int).toNat)
          (fun l σ H2 => ∃ (val : Int) (z : Option V) (ms' : List Int), σ = [some (.ref a), some (.ref D), some (.int (0 + (i : Int))), some (.int val), z] ∧ H2 D = some (.lst (ms'.map V.int)) ∧ Small ms' ∧ ms'.length ≤ ms.length + l ∧ Same H H2) ⟨_, _, ms, rfl, hl, sm, by omega, s2⟩ ?_ ?_⟩
        · rintro l σ H3 hl3 ⟨val3, z3, ms3, rfl, hl3', sm3, len3, s3⟩
          refine ⟨_, rfl, _, _, rfl, rfl, _, rfl, ite2 (fun _ => ?_) (fun _ => ?_)⟩
          · refine ⟨_, rfl, .inl ⟨rfl, _, SqL.of hl3'⟩, _, rfl, _, _, rfl, rfl, (by show (0 : Int) < 1000; decide), D, _, _, rfl, rfl, hl3', ?_, ?_⟩
            · rw [List.length_map]
              have : (60 : Int).toNat = 60 := rfl
              omega
            · refine ⟨_, rfl, _, _, rfl, rfl, ⟨by decide, by decide⟩, ?_⟩
              refine ⟨_, _, ms3 ++ [val3 % 1000], rfl, ?_, sm3.snoc (Int.emod_nonneg _ (by decide)) (Int.emod_lt_of_pos _ (by decide)), ?_, fun b o e => ?_⟩
              · rw [upd_same, List.map_append]
                rfl
              · rw [List.length_append, List.length_singleton]
                omega
              · rw [upd_ne (ne_of_none e hD)]
                exact s3 b o e
          · exact ⟨_, _, ms3, rfl, hl3', sm3, by omega, s3⟩
        · rintro σ H3 ⟨val3, z3, ms3, rfl, hl3', sm3, len3, s3⟩
          exact ⟨_, _, _, ms3, rfl, hl3', sm3, (by have : (60 : Int).toNat = 60 := rfl; omega), s3⟩
      · refine ⟨4, rfl, by decide, by decide, for_range (lo := 0) (n := (4 : Int).toNat)
          (fun l σ H2 => ∃ (val : Int) (z : Option V) (ms' : List Int), σ = [some (.ref a), some (.ref D), some (.int (0 + (i : Int))), some (.int val), z] ∧ H2 D = some (.lst (ms'.map V.int)) ∧ Small ms' ∧ ms'.length ≤ ms.length + l ∧ Same H H2) ⟨_, _, ms, rfl, hl, sm, by omega, s2⟩ ?_ ?_⟩
        · rintro l σ H3 hl3 ⟨val3, z3, ms3, rfl, hl3', sm3, len3, s3⟩
          refine ⟨_, rfl, _, _, rfl, rfl, .inr ⟨by decide, by decide⟩, _, rfl, _, _, rfl, rfl, _, _, rfl, rfl, .inl ⟨by decide, by decide⟩, _, _, rfl, rfl, _, rfl, _, _, rfl, rfl, .inl ⟨by decide, by decide⟩, _, _, rfl, rfl, _, _, rfl, rfl, (by show (0 : Int) < 2147483647; decide), ?_⟩
          refine ⟨_, rfl, _, _, rfl, rfl, .inr ⟨by decide, by decide⟩, _, _, rfl, rfl, (by show (0 : Int) < 2147483647; decide), ?_⟩
          refine ⟨_, rfl, .inl ⟨rfl, _, SqL.of hl3'⟩, _, rfl, _, _, rfl, rfl, ⟨by decide, by decide⟩, _, _, rfl, rfl, (by show (0 : Int) < 1000; decide), D, _, _, rfl, rfl, hl3', ?_, ?_⟩
          · rw [List.length_map]
            have : (4 : Int).toNat = 4 := rfl
            omega
          · refine ⟨_, _, ms3 ++ [((val3 * 48271 + 69621 * (0 + (i : Int) + 1) + 7 * (0 + (l : Int))) % 2147483647 * 16807 % 2147483647 / 1000) % 1000], rfl, ?_, sm3.snoc (Int.emod_nonneg _ (by decide)) (Int.emod_lt_of_pos _ (by decide)), ?_, fun b o e => ?_⟩
            · rw [upd_same, List.map_append]
              rfl
            · rw [List.length_append, List.length_singleton]
              omega
            · rw [upd_ne (ne_of_none e hD)]
              exact s3 b o e
        · rintro σ H3 ⟨val3, z3, ms3, rfl, hl3', sm3, len3, s3⟩
          exact ⟨_, _, _, ms3, rfl, hl3', sm3, (by have : (4 : Int).toNat = 4 := rfl; omega), s3⟩
    · rintro σ H2 ⟨x, y, z, ms, rfl, hl, sm, len, s2⟩
      exact ⟨_, rfl, k D ms H2 hD hl sm (by rw [List.length_map] at len; omega) s2⟩
theorem scAt : FnScope ["tape", "k"] ["tape", "k"] (defScope sAt) := ⟨rfl, rfl, rfl, by decide +kernel, rfl, by decide +kernel, by decide +kernel⟩
theorem go_at (F : GT K mg "_law_at" sAt ["tape", "k"]) (T : Bn mg) : GO P w K mg base CX0 1 "_law_at" ["tape", "k"] (spAt K) := by
  obtain ⟨f, fd, F, hm, hb⟩ := F
  refine ⟨f, fd, ?_, hm, F.kp, hb⟩
  refine F.ok scAt (fun vs H Q E h => ?_) (fun cdv A outer s H vs Q E hr h => ?_)
  · obtain ⟨p, ms, k, rfl, _⟩ := h
    rfl
  · obtain ⟨p, ms, i, rfl, hS, k⟩ := h
    refine ⟨_, pss_cons (ps_if (pt_cmpR op_lt (pv 1) (pe_callB call_len_seq (by rfl) T.len PySem.boot_len (pa_cons (pv 0) pa_nil)) (nomark _)) (pss_one (ps_ret (pe_ix ix_list (pv 0) (pv 1) (fun _ _ => rfl)))) pss_nil)
      (pss_one (ps_ret pe_int)), ?_⟩
    refine ⟨_, rfl, _, rfl, p, _, rfl, .inl hS, _, _, rfl, rfl, _, rfl, ite2 (fun c => ?_) (fun c => ?_)⟩
    · have hi : i < ms.length := by
        have c := of_decide_eq_true c
        rw [List.length_map] at c
        omega
      have hv : (ms.map V.int)[i]? = some (V.int ms[i]) := by rw [List.getElem?_map, List.getElem?_eq_getElem hi]; rfl
      have ea : atD ms i = ms[i] := by unfold atD; rw [List.getElem?_eq_getElem hi]; rfl
      rw [ea] at k
      exact ⟨_, rfl, _, rfl, p, _, _, _, rfl, rfl, hS, atI_nat hv, k⟩
    · have hi : ¬ i < ms.length := fun h => c (decide_eq_true (by rw [List.length_map]; omega))
      have ea : atD ms i = 0 := by unfold atD; rw [List.getElem?_eq_none (by omega)]; rfl
      rw [ea] at k
      exact k
end
end Dk

set_option maxHeartbeats 4000000
/-! match over a tuple whose first item is a text -/
namespace Dk
open PySem PySem.Spec PyProof.Rows L2
/-- the captures of a pattern: names, each in its slot -/
inductive Caps (X : Cx) : List Pattern → List Str → List Nat → Prop where
  | nil : Caps X [] [] []
  | cons {n : Str} {i : Nat} {pos : Pos} {ps : List Pattern} {ns : List Str} {is : List Nat} (hi : X.N[i]? = some n) (hl : X.env.scope.names.lookup n = some .local) (h : Caps X ps ns is) : Caps X (.MatchAs none (some n) pos :: ps) (n :: ns) (i :: is)
theorem Caps.len {X : Cx} {ps : List Pattern} {ns : List Str} {is : List Nat} (h : Caps X ps ns is) : ns.length = ps.length ∧ is.length = ps.length := by
  induction h with
  | nil => exact ⟨rfl, rfl⟩
  | cons _ _ _ ih => exact ⟨by simp [ih.1], by simp [ih.2]⟩
theorem Caps.noStar {X : Cx} {ps : List Pattern} {ns : List Str} {is : List Nat} (h : Caps X ps ns is) : ∀ p, p ∈ ps → p.isStar = false := by
  induction h with
  | nil => intro p hp; cases hp
  | cons _ _ _ ih =>
    intro p hp
    rcases List.mem_cons.mp hp with e | m
    · subst e
      rfl
    · exact ih p m
/-- the slots stored one after the other -/
def setAll : L2.St → List Nat → List V → L2.St
  | σ, i :: is, v :: vs => setAll (σ.set i (some v)) is vs
  | σ, _, _ => σ
section
variable {X : Cx}
theorem caps_match {A : Around} {E : Value → Shared → Prop} {s : Shared} {Q : Option (List (Str × Value)) → Shared → Prop} {ps : List Pattern} {ns : List Str} {is : List Nat} (h : Caps X ps ns is) :
    ∀ {us : List Value}, us.length = ps.length → Q (some (ns.zip us)) s → wpAny (model X.prog X.w) A (matchEach ps X.env us) Q E s := by
  induction h generalizing Q with
  | nil =>
    intro us hl q
    cases us with
    | nil => exact wpAny_matchEach_nil q
    | cons _ _ => cases hl
  | @cons n i pos ps ns is hi hl h ih =>
    intro us hlen q
    cases us with
    | nil => cases hlen
    | cons u us =>
      refine wpAny_matchEach_cons (wpAny_matchPattern_Capture ?_)
      exact ih (by simpa using hlen) q
theorem caps_assign {ps : List Pattern} {ns : List Str} {is : List Nat} (h : Caps X ps ns is) (hN : X.N.Nodup) : ∀ {pins : List (Addr × Obj)} {s : Shared} {σ : L2.St} {H : Hp} {E : Value → Shared → Prop} {Q : Unit → Shared → Prop} {vs : List V} {us : List Value}, Inv X pins σ H s → Vals vs us → us.length = ns.length →
    (∀ s', Inv X pins (setAll σ is vs) H s' → Q () s') → wpAny (model X.prog X.w) X.A (assignInOrder ((ns.zip us).map fun (n, _) => bindName X.env n) ((ns.zip us).map (·.2))) Q E s := by
  induction h with
  | nil =>
    intro pins s σ H E Q vs us I r hl q
    refine wpAny_assignInOrder_none (q s ?_)
    cases vs <;> exact I
  | @cons n i pos ps ns is hi hl h ih =>
    intro pins s σ H E Q vs us I r hlen q
    cases r with
    | nil => cases hlen
    | @cons v u vs us rv rs =>
      show wpAny _ _ (assignInOrder ((fun (n, _) => bindName X.env n) (n, u) :: (ns.zip us).map fun (n, _) => bindName X.env n) (u :: (ns.zip us).map (·.2))) _ _ _
      refine wpAny_assignInOrder_more ?_
      show wpAny _ _ (bindName X.env n u) _ _ _
      refine wpAny_bindName (store_ok I hN hi (.inl hl) rv (fun s1 I1 => ?_) (.inr hl))
      exact ih I1 rs (by simpa using hlen) q
/-- the cases of a match whose subject is a tuple -/
structure PMs (X : Cx) (cs : List MatchCase) (t : Addr → List V → TS) : Prop where
  run : ∀ (fst : Bool) (pins : List (Addr × Obj)) (s : Shared) (σ : L2.St) (H : Hp) (D : Ends) (a : Addr) (xs : List V), Inv X pins σ H s → SqT X.K H a xs → t a xs D σ H → wpAny (model X.prog X.w) X.A (matchCases cs X.env (.ref a) fst) (SP X pins D) X.xe s
def mNil : Addr → List V → TS := fun _ _ D σ H => D.nx σ H
theorem pms_nil : PMs X [] mNil := ⟨fun fst pins s σ H D a xs I q h => wpAny_matchCases_nil ⟨σ, H, I, h⟩⟩
/-- case ("kind", a, b, ..) -/
def mCase (kind : Str) (is : List Nat) (tb : TS) (tr : Addr → List V → TS) : Addr → List V → TS := fun a xs D σ H =>
  if xs.length = is.length + 1 then ∃ z ys, xs = .str z :: ys ∧ (if z = kind then tb D (setAll σ is ys) H else tr a xs D σ H) else tr a xs D σ H
theorem pms_case {kind : Str} {j : Nat} {p1 p2 pos : Pos} {ps : List Pattern} {ns : List Str} {is : List Nat} {body : List Stmt} {rest : List MatchCase} {tb : TS} {tr : Addr → List V → TS} (hc : X.calm = true) (hN : X.N.Nodup) (h : Caps X ps ns is) (hb : PSs X body tb) (hr : PMs X rest tr) :
    PMs X (⟨.MatchSequence (.MatchValue (.Constant (.str kind) j p1) p2 :: ps) pos, none, body⟩ :: rest) (mCase kind is tb tr) := by
  refine ⟨fun fst pins s σ H D a xs I q hw => ?_⟩
  obtain ⟨its, rv, ht, hz⟩ := I.tuple q
  have hsl : sizeLine = 16777216 := sizeLine_eq
  have hfit : ((its.toArray.size : Nat) : Int) < 2 ^ 63 := by
    rw [List.size_toArray, ← rv.length]
    omega
  have hstar : (Pattern.MatchValue (.Constant (.str kind) j p1) p2 :: ps).findIdx? (·.isStar) = none := by
    refine List.findIdx?_eq_none_iff.mpr fun p hp => ?_
    rcases List.mem_cons.mp hp with e | m
    · subst e
      rfl
    · exact h.noStar p m
  have hwild : ((Pattern.MatchValue (.Constant (.str kind) j p1) p2 :: ps).all fun p => p.isWildcard || (p.isStar && p.names.isEmpty)) = false := by
    rw [List.all_cons]
    rfl
  unfold mCase at hw
  refine wpAny_matchCases_cons ?_
  by_cases hlen : xs.length = is.length + 1
  · rw [if_pos hlen] at hw
    obtain ⟨z, ys, rfl, hw⟩ := hw
    have hsz : its.toArray.size = (Pattern.MatchValue (.Constant (.str kind) j p1) p2 :: ps).length := by
      rw [List.size_toArray, ← rv.length, hlen, h.len.2]
      rfl
    refine matchSeq_tuple_hit ht hfit hsz ?_ hstar hwild
    have ht' : IsTup (({ s with toks := s.toks + 1 + 1 } : Shared)).heap a its.toArray := ht
    rw [← hsz]
    refine unpackItems_tuple (I.ok.hd hc) ht' fun h' hx => ?_
    have I1 : Inv X pins σ H { s with heap := h', toks := s.toks + 1 + 1 } := I.kept (t' := s.toks + 1 + 1) fun b o e => hx b o (Nat.ne_of_lt (Heap.lt_size e)) e
    show wpAny _ _ (matchEach _ _ its.toArray.toList) _ _ _
    rw [List.toList_toArray]
    cases rv with
    | @cons _ u _ us ru rs =>
      refine wpAny_matchEach_cons ?_
      refine wpAny_matchPattern_Value ?_
      refine thn ((pe_str (X := X) (x := kind) (j := j) (pos := p1)).run pins _ σ H (fun y H1 => y = .str kind ∧ H1 = H) I1 ⟨rfl, rfl⟩) fun ku s2 ⟨y, H2, I2, r2, ey, eH⟩ => ?_
      subst ey
      subst eH
      refine thn (op_eq pins s2 σ H2 (.str z) (.str kind) u ku (fun c H3 => c = .bl (decide (V.str z = V.str kind)) ∧ H3 = H2) I2 ru r2 ⟨rfl, rfl, rfl⟩) fun cv s3 ⟨c, H3, I3, r3, ec, eH⟩ => ?_
      subst ec
      subst eH
      cases r3
      refine wpAny_truthy_bool ?_
      have hus : us.length = ps.length := by
        have := rs.length
        have := h.len.2
        simp only [List.length_cons] at hlen
        omega
      by_cases hk : z = kind
      · rw [if_pos hk] at hw
        subst hk
        have et : decide (V.str z = V.str z) = true := decide_eq_true rfl
        rw [if_pos et]
        refine caps_match h hus ?_
        show wpAny _ _ (assignInOrder (((ns.zip us)).map fun (n, _) => bindName X.env n) ((ns.zip us).map (·.2))) _ _ _
        refine caps_assign h hN I3 rs (by rw [hus, h.len.1]) fun s4 I4 => ?_
        exact hb.run pins s4 _ _ D I4 hw
      · rw [if_neg hk] at hw
        have et : decide (V.str z = V.str kind) = false := decide_eq_false fun e => hk (V.str.inj e)
        rw [if_neg (by rw [et]; exact Bool.false_ne_true)]
        exact hr.run false pins s3 σ _ D a _ I3 q hw
  · rw [if_neg hlen] at hw
    have hsz : its.toArray.size ≠ (Pattern.MatchValue (.Constant (.str kind) j p1) p2 :: ps).length := by
      rw [List.size_toArray, ← rv.length]
      have := h.len.2
      simp only [List.length_cons]
      omega
    exact matchSeq_tuple_miss ht hfit hsz (hr.run false pins _ σ H D a xs (I.tok _) q hw) hstar hwild
/-- match e: .. -/
def tMatch (K : PySem.W.Frag) (te : TE) (tm : Addr → List V → TS) : TS := fun D σ H => te σ H fun x H1 => ∃ a xs, x = .ref a ∧ SqT K H1 a xs ∧ tm a xs D σ H1
theorem ps_match {e : Expr} {te : TE} {cs : List MatchCase} {tm : Addr → List V → TS} {pos : Pos} (he : PE X e te) (hm : PMs X cs tm) : PS X (.Match e cs pos) (tMatch X.K te tm) := by
  refine ⟨fun pins s σ H D I h => ?_⟩
  refine wpAny_Match (thn (he.run pins s σ H _ I h) fun u s1 ⟨x, H1, I1, r1, a, xs, ex, q, hw⟩ => ?_)
  subst ex
  cases r1
  exact hm.run true pins s1 σ H1 D a xs I1 q hw
end
end Dk

set_option maxHeartbeats 4000000
/-! del xs[a:c] -/
namespace Dk
open PySem PySem.Spec PyProof.Rows L2
def mySel (start stop step : Int) (i : Nat) : Bool :=
  if step > 0 then decide (start ≤ i) && decide ((i : Int) < stop) && ((i : Int) - start) % step == 0
  else decide (stop < i) && decide ((i : Int) ≤ start) && (start - (i : Int)) % (-step) == 0
theorem mySel_one {a c k : Nat} : mySel (a : Int) (c : Int) 1 k = (decide (a ≤ k) && decide (k < c)) := by
  unfold mySel
  rw [if_pos (by decide), Int.emod_one]
  have e1 : decide ((a : Int) ≤ (k : Int)) = decide (a ≤ k) := decide_eq_decide.mpr (by omega)
  have e2 : decide ((k : Int) < (c : Int)) = decide (k < c) := decide_eq_decide.mpr (by omega)
  rw [e1, e2]
  simp
def keepF (a c : Nat) : Value × Nat → Option Value := fun p => if mySel (a : Int) (c : Int) 1 p.2 = true then none else some p.1
theorem kept_eq {a c : Nat} (hac : a ≤ c) : ∀ (l : List Value) (m : Nat), (l.zipIdx m).filterMap (keepF a c) = l.take (a - m) ++ l.drop (c - m)
  | [], m => by simp
  | x :: l, m => by
    have ih := kept_eq hac l (m + 1)
    rw [List.zipIdx_cons, List.filterMap_cons]
    by_cases h1 : m < a
    · have e : keepF a c (x, m) = some x := by
        unfold keepF
        rw [mySel_one, decide_eq_false (by omega)]
        rfl
      rw [e, show a - m = (a - (m + 1)) + 1 by omega, show c - m = (c - (m + 1)) + 1 by omega]
      show x :: (l.zipIdx (m + 1)).filterMap (keepF a c) = _
      rw [ih]
      rfl
    · by_cases h2 : m < c
      · have e : keepF a c (x, m) = none := by
          unfold keepF
          rw [mySel_one, decide_eq_true (by omega), decide_eq_true h2]
          rfl
        rw [e, show a - m = 0 by omega, show c - m = (c - (m + 1)) + 1 by omega]
        show (l.zipIdx (m + 1)).filterMap (keepF a c) = _
        rw [ih, show a - (m + 1) = 0 by omega]
        rfl
      · have e : keepF a c (x, m) = some x := by
          unfold keepF
          rw [mySel_one, decide_eq_false (p := m < c) h2, Bool.and_false]
          rfl
        rw [e, show a - m = 0 by omega, show c - m = 0 by omega]
        show x :: (l.zipIdx (m + 1)).filterMap (keepF a c) = _
        rw [ih, show a - (m + 1) = 0 by omega, show c - (m + 1) = 0 by omega]
        rfl
section
variable {prog : Program} {w : World} {A : Around} {E : Value → Shared → Prop} {s : Shared}
theorem delItem_slice {l sl : Addr} {items : Array Value} {n : Nat} {vl vu : Value} {lo hi : Option Int} {a c : Nat} {Q : Unit → Shared → Prop}
    (e : s.heap.get? l = some { cls := .type "list", data := .seq items n }) (hs : s.heap.IsSliceOf sl vl vu .none) (pl : IsPart vl lo) (pu : IsPart vu hi) (hb : sliceBounds lo hi none items.size = ((a : Int), (c : Int), 1)) (hac : a ≤ c)
    (hsz : items.size ≤ sizeLine) (h : ∀ f : Array Value → Array Value, f items = (items.toList.take a ++ items.toList.drop c).toArray → Q () { s with heap := s.heap.update l (Obj.mapSeq f) }) :
    wpAny (model prog w) A (delItem (.ref l) (.ref sl)) Q E s := by
  have hl : s.heap.IsList l items := PySem.IsL.isList e
  obtain ⟨os, hos, hcs, hds⟩ := id hs
  have hTs : s.TypeIs (.ref sl) "slice" := ⟨os, hos, hcs⟩
  have hstep : ¬ ((rawPart none == rawInt 0) = true) := Bool.false_ne_true
  refine PySem.wpAny_delItem_slot hl.typeIs (by decide) PySem.F.slot_list_delitem ?_
  refine wpAny_call_entry PySem.F.slot_list_delitem hl.typeIs PySem.F.entry_list_delitem ?_ (PySem.F.args_list_delitem_2 _ _)
  show wpAny _ _ (Builtin.List.listSubscript? (.ref sl) >>= _) _ _ s
  refine wpAny_bind ?_
  unfold Builtin.List.listSubscript?
  refine wpAny_bind (wpAny_specialOf hTs slice_no_index ?_)
  simp only [Option.isNone_none, if_true]
  refine wpAny_pure ?_
  show wpAny _ _ (typeOf (.ref sl) >>= _) _ _ s
  refine wpAny_bind (wpAny_typeOf hTs ?_)
  first
    | rw [if_neg (by decide)]
    | refine PySem.W.KFB.if_not (by decide) ?_
  rw [listSliceParts_eq]
  refine wpAny_bind (wpAny_bind (wpAny_field hos hds (x := .none) rfl (wpAny_bind (wpAny_listPart .none ?_))))
  rw [if_neg hstep]
  refine wpAny_bind (wpAny_field hos hds (x := vl) rfl (wpAny_bind (wpAny_listPart pl ?_)))
  refine wpAny_bind (wpAny_field hos hds (x := vu) rfl (wpAny_bind (wpAny_listPart pu (wpAny_pure ?_))))
  refine wpAny_bind (m := Builtin.List.listItems (.ref l)) ?_
  unfold Builtin.List.listItems
  refine wpAny_bind (wpAny_seqItems e rfl (wpAny_pure ?_))
  refine wpAny_bind (wpAny_of_eq ((sliceIndices_raw lo hi none items.size (by simp)).trans (congrArg (pure : Int × Int × Int → Sem (Int × Int × Int)) hb)) ?_)
  refine wpAny_bind (wpAny_rule ?_)
  have hf : (fun xs : Array Value => (xs.toList.zipIdx.filterMap (keepF a c)).toArray) items = (items.toList.take a ++ items.toList.drop c).toArray := by
    show (items.toList.zipIdx.filterMap (keepF a c)).toArray = _
    rw [kept_eq hac]
    rfl
  have hz' : ((fun xs : Array Value => (xs.toList.zipIdx.filterMap (keepF a c)).toArray) items).size ≤ sizeLine + 1 := by
    rw [hf, List.size_toArray, List.length_append, List.length_take, List.length_drop, Array.length_toList]
    omega
  show wpAny _ _ (updateSeq l (fun xs => (xs.toList.zipIdx.filterMap (keepF a c)).toArray) >>= _) _ _ s
  refine wpAny_bind (wpAny_updateSeq (hz := hsz) (_hz' := hz') e rfl ?_)
  refine wpAny_bind (wpAny_letGo ?_)
  first
    | exact wpAny_pure ⟨_, rfl, h _ hf⟩
    | exact wpAny_pure ⟨.none, rfl, wpAny_pure (h _ hf)⟩
    | exact wpAny_bind (wpAny_pure (wpAny_pure ⟨.none, rfl, h _ hf⟩))
end
theorem bounds_head {c n : Nat} (hc : c ≤ n) : sliceBounds none (some (c : Int)) none n = (((0 : Nat) : Int), (c : Int), 1) := by
  simp only [sliceBounds, Option.getD_none]
  have h2 : ¬ ((c : Int) < 0) := by omega
  simp only [h2, if_false, show (1 : Int) > 0 by decide, if_true]
  congr 1
  congr 1; omega
theorem bounds_tail {a n : Nat} (ha : a ≤ n) : sliceBounds (some (a : Int)) none none n = ((a : Int), (n : Int), 1) := by
  simp only [sliceBounds, Option.getD_none]
  have h1 : ¬ ((a : Int) < 0) := by omega
  simp only [h1, if_false, show (1 : Int) > 0 by decide, if_true]
  congr 1
  omega
section
variable {X : Cx}
/-- del xs[lo:hi] -/
def tDelSl (to : TE) (tl th : TO) : TS := fun D σ H => to σ H fun x H1 => tl σ H1 fun lo H2 => th σ H2 fun hi H3 => ∃ (l : Addr) (xs : List V) (a c : Nat), x = .ref l ∧ H3 l = some (.lst xs) ∧ sliceBounds lo hi none xs.length = ((a : Int), (c : Int), 1) ∧ a ≤ c ∧
  D.nx σ (upd H3 l (.lst (xs.take a ++ xs.drop c)))
theorem ps_delSl {o : Expr} {lo hi : Option Expr} {to : TE} {tl th : TO} {p2 tpos pos : Pos} (ho : PE X o to) (hl : PO X lo tl) (hu : PO X hi th) : PS X (.Delete [.Subscript o (.Slice lo hi none p2) tpos] pos) (tDelSl to tl th) := by
  refine ⟨fun pins s σ H D I h => ?_⟩
  refine wpAny_Delete (wpAny_deleteEach_cons (wpAny_delete_Subscript (thn (ho.run pins s σ H _ I h) fun u s1 ⟨x, H1, I1, rx, q1⟩ => ?_)))
  refine wpAny_Slice (thn (hl.run pins s1 σ H1 _ I1 q1) fun vl s2 ⟨lo', H2, I2, pl, q2⟩ => thn (hu.run pins s2 σ H2 _ I2 q2) fun vu s3 ⟨hi', H3, I3, pu, q3⟩ => ?_)
  rw [evalPart_none]
  refine wpAny_pure ?_
  have I4 : Inv X pins σ H3 { s3 with heap := s3.heap.push { cls := .type "slice", data := .fields #[vl, vu, .none] } } := I3.kept (t' := s3.toks) fun b ob q => Heap.get?_push_of_some _ q
  obtain ⟨l, xs, a, c, rfl, hH, hb, hac, q⟩ := q3
  cases rx
  obtain ⟨z, its, n, r, hlen, e⟩ := I4.lstM hH
  show wpAny (model X.prog X.w) X.A (delItem (.ref l) (.ref s3.heap.objs.size)) _ _ _
  refine delItem_slice (a := a) (c := c) e (Heap.IsSliceOf.new ..) pl pu (by rw [List.size_toArray, ← hlen]; exact hb) hac (by rw [List.size_toArray]; omega) fun f hf => ?_
  refine wpAny_deleteEach_nil ⟨σ, _, I4.lset (its' := its.take a ++ its.drop c) (t' := s3.toks) hH e ?_ (Vals.append (r.take _) (r.drop _)) ?_, q⟩
  · exact hf
  · rw [List.length_append, List.length_take, List.length_drop]
    omega
end
end Dk

set_option maxHeartbeats 4000000
/-! values that are no tuples; what an access may be -/
namespace Dk
open PySem PySem.Spec PyProof.Rows L2
abbrev sIsValue : Stmt := top 10
abbrev sIsSame : Stmt := top 11
abbrev sIsAcc : Stmt := top 21
theorem iteD {c A B : Prop} [Decidable c] (hc : c) (h : A) : if decide c = true then A else B := by
  rw [decide_eq_true hc]
  exact iteT h
theorem iteND {c A B : Prop} [Decidable c] (hc : ¬ c) (h : B) : if decide c = true then A else B := by
  rw [decide_eq_false hc]
  exact iteF h
theorem iteNT {c A B : Prop} [Decidable c] (hc : ¬ c) (h : A) : if (!decide c) = true then A else B := by
  rw [decide_eq_false hc]
  exact iteT h
def manyB : V → Bool
  | .int i => decide (0 ≤ i)
  | _ => false
theorem notTup {x : V} {t : String} (h : vty x = some t) : kitB t "tuple" = some false := by
  cases x <;> cases h <;> decide +kernel
def isB : V → Bool
  | .bl _ => true
  | _ => false
theorem kit_bool {x : V} {t : String} (h : vty x = some t) : kitB t "bool" = some (isB x) := by
  cases x with
  | non => cases h; show kitB "NoneType" "bool" = some false; decide +kernel
  | bl b => cases h; show kitB "bool" "bool" = some true; decide +kernel
  | int i => cases h; show kitB "int" "bool" = some false; decide +kernel
  | str y => cases h; show kitB "str" "bool" = some false; decide +kernel
  | _ => cases h
theorem kit_ok {x : V} {t : String} (h : vty x = some t) (hx : x ≠ .non) (K : PySem.W.Frag) : PySem.W.kitAny K (.type t) [.type "bool", .type "int", .type "str"] = some true := by
  cases x with
  | non => exact absurd rfl hx
  | bl b =>
    cases h
    exact kitAny_cons (b := true) (kit_ty (by decide +kernel)) (fun z => nomatch z) fun _ => rfl
  | int i =>
    cases h
    exact kitAny_cons (b := false) (kit_ty (by decide +kernel)) (fun _ => kitAny_cons (b := true) (kit_ty (by decide +kernel)) (fun z => nomatch z) fun _ => rfl) fun z => nomatch z
  | str y =>
    cases h
    exact kitAny_cons (b := false) (kit_ty (by decide +kernel)) (fun _ => kitAny_cons (b := false) (kit_ty (by decide +kernel)) (fun _ => kitAny_cons (b := true) (kit_ty (by decide +kernel)) (fun z => nomatch z) fun _ => rfl) fun z => nomatch z) fun z => nomatch z
  | _ => cases h
section
variable {P : Program} {w : World} {K : PySem.W.Frag} {mg : Str → Option Value} {base : Heap} {C M NV LE : Addr}
theorem scIsValue : FnScope ["value", "waiting", "part"] ["value"] (defScope sIsValue) := ⟨rfl, rfl, rfl, by decide +kernel, rfl, by decide +kernel, by decide +kernel⟩
theorem scIsSame : FnScope ["one", "other", "waiting", "left", "right"] ["one", "other"] (defScope sIsSame) := ⟨rfl, rfl, rfl, by decide +kernel, rfl, by decide +kernel, by decide +kernel⟩
theorem scal_flat {x y : V} {t u : String} (hx : vty x = some t) (hy : vty y = some u) (hb : isB x = isB y) : scal x y = true := by
  cases x <;> cases hx <;> cases y <;> cases hy <;> first | rfl | cases hb
end
end Dk

set_option maxHeartbeats 4000000
/-! is_value of nested tuples -/
namespace Dk
open PySem PySem.Spec PyProof.Rows L2
/-- the shape of a value of a cell -/
inductive Tr where
  | sc (v : V)
  | tup (l : List Tr)
mutual
def Tr.sz : Tr → Nat
  | .sc _ => 1
  | .tup l => 1 + szs l
def szs : List Tr → Nat
  | [] => 0
  | t :: l => t.sz + szs l
end
theorem _root_.L2.SqT.same {K : PySem.W.Frag} {H H' : Hp} {a : Addr} {xs : List V} (h : SqT K H a xs) (s : Same H H') : SqT K H' a xs :=
  h.elim (fun h => .inl (h.elim (fun h => .inl (s _ _ h)) fun ⟨o, h⟩ => .inr ⟨o, s _ _ h⟩)) fun h => .inr h
theorem tyT {K : PySem.W.Frag} {H : Hp} {a : Addr} {xs : List V} (h : SqT K H a xs) : TyX K H (.ref a) (.type "tuple") := by
  rcases h with (h | ⟨o, h⟩) | ⟨o, its, n, h, c, _⟩
  · exact .base (.tup h)
  · exact .fTuple h
  · exact .kTuple h c
mutual
inductive DV (K : PySem.W.Frag) (H : Hp) : V → Tr → Prop
  | sc {v : V} {t : String} : vty v = some t → DV K H v (.sc v)
  | tup {a : Addr} {xs : List V} {l : List Tr} : SqT K H a xs → DVs K H xs l → DV K H (.ref a) (.tup l)
inductive DVs (K : PySem.W.Frag) (H : Hp) : List V → List Tr → Prop
  | nil : DVs K H [] []
  | cons {x : V} {xs : List V} {t : Tr} {l : List Tr} : DV K H x t → DVs K H xs l → DVs K H (x :: xs) (t :: l)
end
mutual
theorem DV.ext {K : PySem.W.Frag} {H H' : Hp} (s : Same H H') : ∀ (t : Tr) (v : V), DV K H v t → DV K H' v t
  | .sc _, _, h => by
    cases h with
    | sc e => exact .sc e
  | .tup l, _, h => by
    cases h with
    | tup e d => exact .tup (e.same s) (DVs.ext s l _ d)
theorem DVs.ext {K : PySem.W.Frag} {H H' : Hp} (s : Same H H') : ∀ (l : List Tr) (xs : List V), DVs K H xs l → DVs K H' xs l
  | [], _, h => by
    cases h
    exact .nil
  | t :: l, _, h => by
    cases h with
    | cons d e => exact .cons (DV.ext s t _ d) (DVs.ext s l _ e)
end
theorem sz_pos (t : Tr) : 0 < t.sz := by
  cases t with
  | sc v => show 0 < 1; decide
  | tup l => show 0 < 1 + szs l; omega
theorem DVs.len {K : PySem.W.Frag} {H : Hp} : ∀ {xs : List V} {l : List Tr}, DVs K H xs l → xs.length = l.length ∧ xs.length ≤ szs l
  | _, _, .nil => ⟨rfl, Nat.le_refl _⟩
  | _, _, .cons (t := t) (l := l) d e => by
    have h := DVs.len e
    have p := sz_pos t
    refine ⟨by rw [List.length_cons, List.length_cons, h.1], ?_⟩
    show _ + 1 ≤ t.sz + szs l
    omega
theorem szs_app : ∀ (a b : List Tr), szs (a ++ b) = szs a + szs b
  | [], b => by show szs b = 0 + szs b; omega
  | t :: a, b => by
    show t.sz + szs (a ++ b) = t.sz + szs a + szs b
    rw [szs_app a b]
    omega
theorem DVs.app {K : PySem.W.Frag} {H : Hp} : ∀ {xs ys : List V} {l m : List Tr}, DVs K H xs l → DVs K H ys m → DVs K H (xs ++ ys) (l ++ m)
  | _, _, _, _, .nil, e => e
  | _, _, _, _, .cons d f, e => .cons d (DVs.app f e)
theorem DVs.last {K : PySem.W.Frag} {H : Hp} : ∀ {xs : List V} {l : List Tr} {y : V}, DVs K H xs l → xs[xs.length - 1]? = some y → ∃ m t, DVs K H xs.dropLast m ∧ DV K H y t ∧ szs l = szs m + t.sz
  | _, _, _, .nil, h => by simp at h
  | _, _, y, .cons (x := x) (xs := []) (t := t) d .nil, h => by
    have h : some x = some y := h
    cases h
    exact ⟨[], t, .nil, d, by show t.sz + 0 = 0 + t.sz; omega⟩
  | _, _, y, .cons (x := x) (xs := x2 :: xs) (t := t) (l := l) d e, h => by
    have h' : (x2 :: xs)[(x2 :: xs).length - 1]? = some y := h
    obtain ⟨m, t2, q1, q2, q3⟩ := DVs.last e h'
    exact ⟨t :: m, t2, .cons d q1, q2, by show t.sz + szs l = t.sz + szs m + t2.sz; omega⟩
theorem while_rel {c : TT} {tb : TS} {D : Ends} {σ : L2.St} {H : Hp} (W : Nat → L2.St → Hp → Prop) (h0 : ∃ m, W m σ H)
    (hs : ∀ m σ H, W m σ H → c σ H fun b H1 => if b = true then tb { D with nx := fun σ' H' => ∃ m', m' < m ∧ W m' σ' H', ct := fun σ' H' => ∃ m', m' < m ∧ W m' σ' H', bk := D.nx } σ H1 else D.nx σ H1)
    (mono : ∀ σ H Q Q', (∀ b H1, Q b H1 → Q' b H1) → c σ H Q → c σ H Q') : tWhile c tb D σ H := by
  refine ⟨W, h0, fun m σ H w => mono σ H _ _ (fun b H1 q => ?_) (hs m σ H w)⟩
  cases b with
  | true => exact ⟨_, fun σ' H' h => h, q⟩
  | false => exact q
/-- any value of a cell -/
def spIsValueD (K : PySem.W.Frag) : Sp := fun vs H Q _ => ∃ v t, vs = [v] ∧ DV K H v t ∧ t.sz < sizeLine ∧ ∀ H', Same H H' → Q (.bl true) H'
section
variable {P : Program} {w : World} {K : PySem.W.Frag} {mg : Str → Option Value} {base : Heap} {C M NV LE : Addr}
theorem go_isvalueD (F : GT K mg "is_value" sIsValue ["value"]) (T : Bn mg) : GO P w K mg base CX0 1 "is_value" ["value"] (spIsValueD K) := by
  obtain ⟨f, fd, F, hm, hb⟩ := F
  refine ⟨f, fd, ?_, hm, F.kp, hb⟩
  refine F.ok scIsValue (fun vs H Q E h => ?_) (fun cdv A outer s H vs Q E hr h => ?_)
  · obtain ⟨v, t, rfl, _⟩ := h
    rfl
  · obtain ⟨v, t, rfl, hd, hz, k⟩ := h
    refine ⟨_, pss_cons (ps_set (i := 1) scIsValue.nd rfl (Or.inl rfl) (pe_lst (pa_cons (pv 0) pa_nil)))
      (pss_cons (ps_while PassesOwn.never (pt_truth (pv 1) (by intro _; rfl))
        (pss_cons (ps_set (i := 2) scIsValue.nd rfl (Or.inl rfl) (pe_bm0 PySem.F.plainAttrs_list PySem.F.slot_list_pop PySem.F.type_list_pop mt_pop (pv 1)))
        (pss_one (ps_if (pt_val (pe_callB call_isi (by rfl) T.isi (by decide +kernel) (pa_cons (pv 2) (pa_cons (pe_bltn (v := .ty "tuple") (by rfl) T.tuple (by decide +kernel) rfl) pa_nil))))
          (pss_one (ps_expr (pe_bm PySem.F.plainAttrs_list PySem.F.slot_list_extend PySem.F.type_list_extend mt_extend (pv 1) (pa_cons (pe_callTy call_list_of (by rfl) T.list (by decide +kernel) (pa_cons (pv 2) pa_nil)) pa_nil))))
          (pss_one (ps_if (PW.pt (pw_and (pt_cmpR op_notN (pv 2) pe_non (nomark _)) (pw_and1 (pt_not (pt_val (pe_callB call_isiT (by rfl) T.isi (by decide +kernel) (pa_cons (pv 2) (pa_cons (pe_tup (pa_cons (pe_bltn (v := .ty "bool") (by rfl) T.bool (by decide +kernel) rfl)
            (pa_cons (pe_bltn (v := .ty "int") (by rfl) T.int (by decide +kernel) rfl) (pa_cons (pe_bltn (v := .ty "str") (by rfl) T.str (by decide +kernel) rfl) pa_nil)))) pa_nil))))))))
            (pss_one (ps_ret pe_bl)) pss_nil))))))
      (pss_one (ps_ret pe_bl))), ?_⟩
    refine ⟨_, rfl, (by show 1 ≤ sizeLine; decide), fun D hD => ?_⟩
    have s0 : Same H (upd H D (.lst [v])) := fun b o e => by rw [upd_ne (ne_of_none e hD)]; exact e
    dsimp only [gName, tSeq]
    refine while_rel (fun m σ H2 => Same H H2 ∧ ∃ (p : Option V) (xs : List V) (ts : List Tr), σ = [some v, some (.ref D), p] ∧ H2 D = some (.lst xs) ∧ DVs K H xs ts ∧ m = szs ts ∧ szs ts ≤ t.sz)
      ⟨_, s0, _, [v], [t], rfl, upd_same, .cons hd .nil, rfl, by show t.sz + 0 ≤ t.sz; omega⟩ ?_ ?_
    · rintro m σ H2 ⟨sm, p, xs, ts, rfl, hx, dv, rfl, hle⟩
      cases xs with
      | nil => exact ⟨_, rfl, false, .inl ⟨_, SqL.of hx, rfl⟩, iteF (k _ sm)⟩
      | cons x0 xr =>
        obtain ⟨y, hy⟩ : ∃ y, (x0 :: xr)[(x0 :: xr).length - 1]? = some y := ⟨_, List.getElem?_eq_getElem (by simp)⟩
        obtain ⟨ms, ty, q1, q2, q3⟩ := dv.last hy
        refine ⟨_, rfl, true, .inl ⟨_, SqL.of hx, rfl⟩, iteT ?_⟩
        refine ⟨_, rfl, .inl ⟨rfl, _, SqL.of hx⟩, D, _, y, rfl, rfl, hx, hy, ?_⟩
        have sp : ∀ {H3 : Hp} (l : List V), Same H H3 → Same H (upd H3 D (.lst l)) := fun {H3} l sm b o e => by rw [upd_ne (ne_of_none e hD)]; exact sm b o e
        have sm3 := sp (x0 :: xr).dropLast sm
        have pz := sz_pos ty
        generalize hH3 : upd H2 D (.lst (x0 :: xr).dropLast) = H3 at sm3 ⊢
        have hx3 : H3 D = some (.lst (x0 :: xr).dropLast) := by rw [← hH3]; exact upd_same
        cases q2 with
        | sc ht =>
          refine ⟨_, rfl, _, _, _, _, false, rfl, .ty "tuple", ty_of ht, kit_ty (notTup ht), _, rfl, iteF ?_⟩
          by_cases hn : y = .non
          · refine ⟨_, rfl, rfl, _, rfl, iteNS hn ?_⟩
            exact iteF ⟨_, by omega, sm3, _, _, ms, rfl, hx3, q1, rfl, by omega⟩
          · refine ⟨_, rfl, rfl, _, rfl, ?_⟩
            rw [decide_eq_false hn]
            refine iteT ⟨_, rfl, (by show 3 ≤ sizeLine; decide), fun q hq => ?_⟩
            have qD : D ≠ q := ne_of_none hx3 hq
            refine ⟨_, q, _, _, [.type "bool", .type "int", .type "str"], true, rfl, upd_same, .cons (.ty _) (.cons (.ty _) (.cons (.ty _) .nil)), ty_of ht, kit_ok ht hn K, _, rfl, iteF ?_⟩
            exact ⟨_, by omega, fun b o e => by rw [upd_ne (ne_of_none (sm3 b o e) hq)]; exact sm3 b o e, _, _, ms, rfl, by rw [upd_ne qD]; exact hx3, q1, rfl, by omega⟩
        | tup hq dl =>
          rename_i a ys l
          have ell := dl.len
          have em := q1.len
          have e3 : (Tr.tup l).sz = 1 + szs l := rfl
          refine ⟨_, rfl, _, _, _, _, true, rfl, .ty "tuple", tyT (hq.same sm3), kit_ty (by decide +kernel), _, rfl, iteT ?_⟩
          refine ⟨_, rfl, .inl ⟨rfl, _, SqL.of hx3⟩, _, rfl, a, ys, rfl, .inr (hq.same sm3), fun b hb => ?_⟩
          have bD : D ≠ b := ne_of_none hx3 hb
          have sb : Same H (upd H3 b (.lst ys)) := fun c o e => by rw [upd_ne (ne_of_none (sm3 c o e) hb)]; exact sm3 c o e
          refine ⟨D, b, _, ys, rfl, rfl, by rw [upd_ne bD]; exact hx3, upd_same, by omega, ?_⟩
          exact ⟨szs (ms ++ l), by rw [szs_app]; omega, sp _ sb, _, _, ms ++ l, rfl, upd_same, q1.app dl, rfl, by rw [szs_app]; omega⟩
    · rintro σ H2 Q1 Q2 imp ⟨x, e, kk, t, q⟩
      exact ⟨x, e, kk, t, imp _ _ q⟩
end
end Dk

set_option maxHeartbeats 8000000
/-! is_same of nested tuples -/
namespace Dk
open PySem PySem.Spec PyProof.Rows L2
mutual
def Tr.data : Tr → PyData
  | .sc .non => .none
  | .sc (.bl b) => .bool b
  | .sc (.int i) => .int i
  | .sc (.str s) => .str s
  | .sc _ => .none
  | .tup l => .tuple (datas l)
def datas : List Tr → List PyData
  | [] => []
  | t :: l => t.data :: datas l
end
mutual
theorem DV.dp {K : PySem.W.Frag} {H : Hp} : ∀ (t : Tr) (v : V), DV K H v t → Dp K H v t.data
  | .sc v, _, h => by
    cases h with
    | sc e => cases v <;> cases e <;> constructor
  | .tup l, _, h => by
    cases h with
    | tup e d => exact .tup e (DVs.dp l _ d)
theorem DVs.dp {K : PySem.W.Frag} {H : Hp} : ∀ (l : List Tr) (xs : List V), DVs K H xs l → DpAll K H xs (datas l)
  | [], _, h => by
    cases h
    exact .nil
  | t :: l, _, h => by
    cases h with
    | cons d e => exact .cons (DV.dp t _ d) (DVs.dp l _ e)
end
def Tr.ok (t : Tr) : Prop := SeqAt.shaped t.data = true
theorem shaped_iff {d : PyData} : SeqAt.shaped d = true ↔ d.canLay0 = true ∧ d.depth ≤ 64 := by
  show (d.canLay0 && decide (d.depth ≤ 64)) = true ↔ _
  rw [Bool.and_eq_true, decide_eq_true_iff]
theorem oks : ∀ {l : List Tr}, PyData.canLayAll0 (datas l) = true → PyData.depthAll (datas l) ≤ 64 → ∀ t, t ∈ l → t.ok
  | [], _, _, t, h => by cases h
  | u :: l, h1, h2, t, h => by
    simp only [datas, PyData.canLayAll0, Bool.and_eq_true] at h1
    simp only [datas, PyData.depthAll] at h2
    rcases List.mem_cons.mp h with e | e
    · rw [e]
      exact shaped_iff.mpr ⟨h1.1, by omega⟩
    · exact oks h1.2 (by omega) t e
theorem ok_tup {l : List Tr} (h : (Tr.tup l).ok) : ∀ t, t ∈ l → t.ok := by
  obtain ⟨h1, h2⟩ := shaped_iff.mp h
  simp only [Tr.data, PyData.canLay0] at h1
  simp only [Tr.data, PyData.depth] at h2
  exact oks h1 (by omega)
theorem zip_all {l m : List Tr} : l.length = m.length → ((∀ p, p ∈ l.zip m → p.1 = p.2) ↔ l = m) := by
  induction l generalizing m with
  | nil =>
    intro h
    cases m with
    | nil => simp
    | cons t m => cases h
  | cons t l ih =>
    intro h
    cases m with
    | nil => cases h
    | cons u m =>
      have ih := ih (m := m) (by simpa using h)
      rw [List.zip_cons_cons]
      constructor
      · intro q
        have h1 : t = u := q (t, u) List.mem_cons_self
        rw [h1, ih.mp fun p hp => q p (List.mem_cons_of_mem _ hp)]
      · intro e
        injection e with e1 e2
        intro p hp
        rcases List.mem_cons.mp hp with z | z
        · rw [z]; exact e1
        · exact ih.mpr e2 p z
/-- what waits -/
def wt : List (Tr × Tr) → Nat
  | [] => 0
  | p :: l => p.1.sz + wt l
theorem wt_app : ∀ (a b : List (Tr × Tr)), wt (a ++ b) = wt a + wt b
  | [], b => by show wt b = 0 + wt b; omega
  | p :: a, b => by
    show p.1.sz + wt (a ++ b) = p.1.sz + wt a + wt b
    rw [wt_app a b]
    omega
theorem wt_zip : ∀ {l m : List Tr}, l.length = m.length → wt (l.zip m) = szs l
  | [], _, _ => by simp [wt, szs]
  | t :: l, [], h => by cases h
  | t :: l, u :: m, h => by
    show t.sz + wt (l.zip m) = t.sz + szs l
    rw [wt_zip (by simpa using h)]
theorem wt_len : ∀ (l : List (Tr × Tr)), l.length ≤ wt l
  | [] => Nat.le_refl _
  | p :: l => by
    have := wt_len l
    have := sz_pos p.1
    show l.length + 1 ≤ p.1.sz + wt l
    omega
def Tr.isT : Tr → Bool
  | .sc _ => false
  | .tup _ => true
theorem eqv_ne {K : PySem.W.Frag} {H : Hp} {a b : V} {t u : Tr} (ha : DV K H a t) (hb : DV K H b u) (h : ¬ (t.isT = true ∧ u.isT = true)) (hB : isB a = isB b) (ne : t ≠ u) : PyData.eqv t.data u.data = false := by
  cases ha with
  | sc e1 =>
    cases hb with
    | sc e2 =>
      cases a <;> cases e1 <;> cases b <;> cases e2 <;> first
        | exact absurd rfl ne
        | rfl
        | (exfalso; revert hB; simp [isB]; done)
        | (simp only [Tr.data, PyData.eqv]; rename_i p q; exact beq_eq_false_iff_ne.mpr fun z => ne (by rw [z]))
        | simp [Tr.data, PyData.eqv]
    | tup e2 d2 => cases a <;> cases e1 <;> simp [Tr.data, PyData.eqv]
  | tup e1 d1 =>
    cases hb with
    | sc e2 => cases b <;> cases e2 <;> simp [Tr.data, PyData.eqv]
    | tup e2 d2 => exact absurd ⟨rfl, rfl⟩ h
theorem isB_eq {K : PySem.W.Frag} {H : Hp} {a b : V} {t u : Tr} (ha : DV K H a t) (hb : DV K H b u) (e : t = u) : isB a = isB b := by
  subst e
  cases ha with
  | sc e1 =>
    cases hb with
    | sc e2 => rfl
  | tup e1 d1 =>
    cases hb with
    | tup e2 d2 => rfl
theorem ty_dv {K : PySem.W.Frag} {H : Hp} {a : V} {t : Tr} (h : DV K H a t) : ∃ ty, TyX K H a (.type ty) ∧ kitB ty "bool" = some (isB a) := by
  cases h with
  | sc e => exact ⟨_, ty_of e, kit_bool e⟩
  | tup e d => exact ⟨"tuple", tyT e, by show kitB "tuple" "bool" = some false; decide +kernel⟩
def PVs (K : PySem.W.Frag) (H H2 : Hp) (qs : List Addr) (ps : List (Tr × Tr)) : Prop := qs.length = ps.length ∧ ∀ (i : Nat) (q : Addr) (p : Tr × Tr), qs[i]? = some q → ps[i]? = some p → ∃ a b, H2 q = some (.tup [a, b]) ∧ DV K H a p.1 ∧ DV K H b p.2 ∧ p.1.ok ∧ p.2.ok
theorem PVs.keep {K : PySem.W.Frag} {H H2 H3 : Hp} {qs : List Addr} {ps : List (Tr × Tr)} (h : PVs K H H2 qs ps) (k : ∀ (q : Addr) (a b : V), H2 q = some (.tup [a, b]) → H3 q = some (.tup [a, b])) : PVs K H H3 qs ps :=
  ⟨h.1, fun i q p h1 h2 => let ⟨a, b, e1, e2⟩ := h.2 i q p h1 h2; ⟨a, b, k q a b e1, e2⟩⟩
theorem PVs.init {K : PySem.W.Frag} {H H2 : Hp} {qs : List Addr} {q : Addr} {ps : List (Tr × Tr)} {p : Tr × Tr} (h : PVs K H H2 (qs ++ [q]) (ps ++ [p])) : PVs K H H2 qs ps ∧ ∃ a b, H2 q = some (.tup [a, b]) ∧ DV K H a p.1 ∧ DV K H b p.2 ∧ p.1.ok ∧ p.2.ok := by
  obtain ⟨h1, h2⟩ := h
  have hl : qs.length = ps.length := by simpa using h1
  refine ⟨⟨hl, fun i q' p' e1 e2 => h2 i q' p' ?_ ?_⟩, h2 qs.length q p ?_ ?_⟩
  · rw [List.getElem?_append_left (List.getElem?_eq_some_iff.mp e1).1]; exact e1
  · rw [List.getElem?_append_left (List.getElem?_eq_some_iff.mp e2).1]; exact e2
  · simp
  · rw [hl]; simp
theorem PVs.app {K : PySem.W.Frag} {H H2 : Hp} {qs qt : List Addr} {ps pt : List (Tr × Tr)} (h : PVs K H H2 qs ps) (g : PVs K H H2 qt pt) : PVs K H H2 (qs ++ qt) (ps ++ pt) := by
  refine ⟨by rw [List.length_append, List.length_append, h.1, g.1], fun i q p e1 e2 => ?_⟩
  by_cases c : i < qs.length
  · rw [List.getElem?_append_left c] at e1
    rw [List.getElem?_append_left (by rw [← h.1]; exact c)] at e2
    exact h.2 i q p e1 e2
  · rw [List.getElem?_append_right (by omega)] at e1
    rw [List.getElem?_append_right (by rw [← h.1]; omega), ← h.1] at e2
    exact g.2 _ q p e1 e2
theorem DVs.get {K : PySem.W.Frag} {H : Hp} : ∀ {xs : List V} {l : List Tr} {i : Nat} {x : V} {t : Tr}, DVs K H xs l → xs[i]? = some x → l[i]? = some t → DV K H x t
  | _, _, _, _, _, .nil, h, _ => by simp at h
  | _, _, 0, _, _, .cons d e, h, g => by
    cases h
    cases g
    exact d
  | _, _, i + 1, _, _, .cons d e, h, g => DVs.get (i := i) e (by simpa using h) (by simpa using g)
def spIsSameD (K : PySem.W.Frag) : Sp := fun vs H Q _ => ∃ x y t u, vs = [x, y] ∧ DV K H x t ∧ DV K H y u ∧ t.ok ∧ u.ok ∧ t.sz < sizeLine ∧ ∀ (b : Bool) H', Same H H' → (b = true ↔ t = u) → Q (.bl b) H'
section
variable {P : Program} {w : World} {K : PySem.W.Frag} {mg : Str → Option Value} {base : Heap} {C M NV LE : Addr}
theorem go_issameD (F : GT K mg "is_same" sIsSame ["one", "other"]) (T : Bn mg) (zz : mg "zip" = none) : GO P w K mg base CX0 1 "is_same" ["one", "other"] (spIsSameD K) := by
  obtain ⟨f, fd, F, hm, hb⟩ := F
  refine ⟨f, fd, ?_, hm, F.kp, hb⟩
  refine F.ok scIsSame (fun vs H Q E h => ?_) (fun cdv A outer s H vs Q E hr h => ?_)
  · obtain ⟨x, y, t, u, rfl, _⟩ := h
    rfl
  · obtain ⟨x, y, t, u, rfl, hx, hy, ox, oy, hz, k⟩ := h
    refine ⟨_, pss_cons (ps_set (i := 2) scIsSame.nd rfl (Or.inl rfl) (pe_lst (pa_cons (pe_tup (pa_cons (pv 0) (pa_cons (pv 1) pa_nil))) pa_nil)))
      (pss_cons (ps_while PassesOwn.never (pt_truth (pv 2) (by intro _; rfl))
        (pss_cons (ps_asg (pe_bm0 PySem.F.plainAttrs_list PySem.F.slot_list_pop PySem.F.type_list_pop mt_pop (pv 2)) (pg_tup (by rfl) (pgs_cons (pg_name (i := 3) scIsSame.nd rfl (Or.inl rfl)) (pgs_cons (pg_name (i := 4) scIsSame.nd rfl (Or.inl rfl)) pgs_nil))))
        (pss_one (ps_if (PW.pt (pw_and (pt_val (pe_callB call_isi (by rfl) T.isi (by decide +kernel) (pa_cons (pv 3) (pa_cons (pe_bltn (v := .ty "tuple") (by rfl) T.tuple (by decide +kernel) rfl) pa_nil)))) (pw_and1 (pt_val (pe_callB call_isi (by rfl) T.isi (by decide +kernel) (pa_cons (pv 4) (pa_cons (pe_bltn (v := .ty "tuple") (by rfl) T.tuple (by decide +kernel) rfl) pa_nil)))))))
          (pss_cons (ps_if (pt_cmpR op_ne (pe_callB call_len_seq (by rfl) T.len PySem.boot_len (pa_cons (pv 3) pa_nil)) (pe_callB call_len_seq (by rfl) T.len PySem.boot_len (pa_cons (pv 4) pa_nil)) (nomark _)) (pss_one (ps_ret pe_bl)) pss_nil)
          (pss_one (ps_expr (pe_bm PySem.F.plainAttrs_list PySem.F.slot_list_extend PySem.F.type_list_extend mt_extend (pv 2) (pa_cons (Lz.pe_listZip rfl (by rfl) T.list (by rfl) zz (pa_cons (pv 3) (pa_cons (pv 4) pa_nil))) pa_nil)))))
          (pss_one (ps_if (PW.pt (pw_or (pt_cmpR op_ne (pe_callB call_isi (by rfl) T.isi (by decide +kernel) (pa_cons (pv 3) (pa_cons (pe_bltn (v := .ty "bool") (by rfl) T.bool (by decide +kernel) rfl) pa_nil))) (pe_callB call_isi (by rfl) T.isi (by decide +kernel) (pa_cons (pv 4) (pa_cons (pe_bltn (v := .ty "bool") (by rfl) T.bool (by decide +kernel) rfl) pa_nil))) (nomark _))
              (pw_or1 (pt_cmpR (op_neD hr.units) (pv 3) (pv 4) (nomark _)))))
            (pss_one (ps_ret pe_bl)) pss_nil))))))
      (pss_one (ps_ret pe_bl))), ?_⟩
    refine ⟨_, rfl, _, rfl, (by show 2 ≤ sizeLine; decide), fun p0 hp0 => ⟨(by show 1 ≤ sizeLine; decide), fun D hD => ?_⟩⟩
    have s1 : Same H (upd H p0 (.tup [x, y])) := fun b o e => by rw [upd_ne (ne_of_none e hp0)]; exact e
    have pD : p0 ≠ D := ne_of_none upd_same hD
    have nHD : H D = none := s1.free hD
    have sp : ∀ {H3 : Hp} (l : List V), Same H H3 → Same H (upd H3 D (.lst l)) := fun {H3} l sm b o e => by rw [upd_ne (ne_of_none e nHD)]; exact sm b o e
    dsimp only [gName, tSeq]
    refine while_rel (fun m σ H2 => Same H H2 ∧ ∃ (l r : Option V) (qs : List Addr) (ps : List (Tr × Tr)), σ = [some x, some y, some (.ref D), l, r] ∧ H2 D = some (.lst (qs.map V.ref)) ∧ PVs K H H2 qs ps ∧ m = wt ps ∧ wt ps ≤ t.sz ∧ ((∀ p, p ∈ ps → p.1 = p.2) ↔ t = u))
      ⟨_, sp _ s1, _, _, [p0], [(t, u)], rfl, upd_same, ⟨rfl, fun i q p h1 h2 => ?_⟩, rfl, by show t.sz + 0 ≤ t.sz; omega, by simp⟩ ?_ ?_
    · cases i with
      | zero =>
        cases h1
        cases h2
        exact ⟨x, y, by rw [upd_ne pD]; exact upd_same, hx, hy, ox, oy⟩
      | succ n => simp at h1
    · rintro m σ H2 ⟨sm, l, r, qs, ps, rfl, hD2, pv', rfl, hle, hiff⟩
      rcases List.eq_nil_or_concat qs with rfl | ⟨qi, q, rfl⟩
      · have e : ps = [] := List.eq_nil_of_length_eq_zero (by rw [← pv'.1]; rfl)
        subst e
        exact ⟨_, rfl, false, .inl ⟨_, SqL.of hD2, rfl⟩, iteF (k true _ sm ⟨fun _ => hiff.mp fun p hp => (by cases hp), fun _ => rfl⟩)⟩
      · rcases List.eq_nil_or_concat ps with rfl | ⟨pi, p, rfl⟩
        · have := pv'.1
          simp at this
        · rw [List.concat_eq_append] at pv' hD2
          rw [List.concat_eq_append] at pv' hle hiff ⊢
          obtain ⟨pvi, a, b, hq, da, db, oa, ob⟩ := pv'.init
          rw [List.map_append] at hD2
          have hw : wt (pi ++ [p]) = wt pi + p.1.sz := by rw [wt_app]; rfl
          have hpz := sz_pos p.1
          have hall : (∀ z, z ∈ pi ++ [p] → z.1 = z.2) ↔ (∀ z, z ∈ pi → z.1 = z.2) ∧ p.1 = p.2 := by
            constructor
            · exact fun h => ⟨fun z hz => h z (List.mem_append_left _ hz), h p (by simp)⟩
            · rintro ⟨h1, h2⟩ z hz
              rcases List.mem_append.mp hz with q | q
              · exact h1 z q
              · rw [List.mem_singleton.mp q]
                exact h2
          have hno : p.1 ≠ p.2 → ∀ H', Same H H' → Q (.bl false) H' := fun h H' s' => k false H' s' ⟨fun e => (by cases e), fun e => absurd (hall.mp (hiff.mpr e)).2 h⟩
          refine ⟨_, rfl, true, .inl ⟨_, SqL.of hD2, by simp⟩, iteT ?_⟩
          refine ⟨_, rfl, .inl ⟨rfl, _, SqL.of hD2⟩, D, _, .ref q, rfl, rfl, hD2, by simp, ?_⟩
          rw [show (qi.map V.ref ++ [q].map V.ref).dropLast = qi.map V.ref by simp]
          have sm3 := sp (qi.map V.ref) sm
          have kp : ∀ (z : Addr) (c d : V), H2 z = some (.tup [c, d]) → upd H2 D (.lst (qi.map V.ref)) z = some (.tup [c, d]) := fun z c d e => by rw [upd_ne (ne_of e hD2 (by intro w; cases w))]; exact e
          have pv3 := pvi.keep kp
          have hq3 := kp q a b hq
          have hD3 : upd H2 D (.lst (qi.map V.ref)) D = some (.lst (qi.map V.ref)) := upd_same
          generalize upd H2 D (.lst (qi.map V.ref)) = H3 at sm3 pv3 hq3 hD3 ⊢
          refine ⟨q, [a, b], rfl, SqT.of hq3, rfl, _, _, rfl, _, _, rfl, rfl, ?_⟩
          have da3 := DV.ext sm3 _ _ da
          have db3 := DV.ext sm3 _ _ db
          obtain ⟨tya, qa, ka⟩ := ty_dv (K := K) da3
          obtain ⟨tyb, qb, kb⟩ := ty_dv (K := K) db3
          obtain ⟨t1, t2⟩ := p
          dsimp only at da db da3 db3 oa ob hw hpz hno hall ka kb
          cases t1 with
          | sc v1 =>
            obtain ⟨ty1, h1⟩ : ∃ ty, vty a = some ty := by
              cases da with
              | sc e => exact ⟨_, e⟩
            refine ⟨_, rfl, _, _, _, _, false, rfl, .ty "tuple", ty_of h1, kit_ty (notTup h1), _, rfl, iteF (iteF ?_)⟩
            have nb : ¬ (Tr.isT (Tr.sc v1) = true ∧ Tr.isT t2 = true) := fun h => Bool.noConfusion h.1
            refine ⟨_, rfl, _, _, _, _, _, rfl, .ty "bool", qa, kit_ty ka, _, rfl, _, _, _, _, _, rfl, .ty "bool", qb, kit_ty kb, rfl, _, rfl, ?_⟩
            by_cases hbb : isB a = isB b
            · refine iteNS (congrArg V.bl hbb) ?_
              refine ⟨_, rfl, _, rfl, Tr.data (Tr.sc v1), Tr.data t2, DV.dp _ _ da3, DV.dp _ _ db3, oa, ob, _, rfl, ?_⟩
              by_cases e : (Tr.sc v1) = t2
              · have hev : PyData.eqv (Tr.data (Tr.sc v1)) (Tr.data t2) = true := by rw [← e]; exact SeqAt.eqv_refl _ (SeqAt.canLay_of_shaped oa)
                rw [hev]
                exact iteF ⟨wt pi, by omega, sm3, _, _, qi, pi, rfl, hD3, pv3, rfl, by omega, ⟨fun h => hiff.mp (hall.mpr ⟨h, e⟩), fun h => (hall.mp (hiff.mpr h)).1⟩⟩
              · rw [eqv_ne da db nb hbb e]
                exact iteT (hno e _ sm3)
            · refine iteNT (fun e => hbb (V.bl.inj e)) (iteT ?_)
              exact hno (fun e => hbb (isB_eq da db e)) _ sm3
          | tup l1 =>
            obtain ⟨a1, xs1, rfl, ha1, dl1⟩ : ∃ a1 xs1, a = .ref a1 ∧ SqT K H a1 xs1 ∧ DVs K H xs1 l1 := by
              cases da with
              | tup e d => exact ⟨_, _, rfl, e, d⟩
            cases t2 with
            | sc v2 =>
              obtain ⟨ty2, h2⟩ : ∃ ty, vty b = some ty := by
                cases db with
                | sc e => exact ⟨_, e⟩
              refine ⟨_, rfl, _, _, _, _, true, rfl, .ty "tuple", tyT (ha1.same sm3), kit_ty (by decide +kernel), _, rfl, iteT ⟨_, rfl, _, _, _, _, false, rfl, .ty "tuple", ty_of h2, kit_ty (notTup h2), _, rfl, iteF ?_⟩⟩
              have nb : ¬ (Tr.isT (Tr.tup l1) = true ∧ Tr.isT (Tr.sc v2) = true) := fun h => Bool.noConfusion h.2
              refine ⟨_, rfl, _, _, _, _, _, rfl, .ty "bool", qa, kit_ty ka, _, rfl, _, _, _, _, _, rfl, .ty "bool", qb, kit_ty kb, rfl, _, rfl, ?_⟩
              by_cases hbb : isB (V.ref a1) = isB b
              · refine iteNS (congrArg V.bl hbb) ?_
                refine ⟨_, rfl, _, rfl, Tr.data (Tr.tup l1), Tr.data (Tr.sc v2), DV.dp _ _ da3, DV.dp _ _ db3, oa, ob, _, rfl, ?_⟩
                by_cases e : (Tr.tup l1) = (Tr.sc v2)
                · have hev : PyData.eqv (Tr.data (Tr.tup l1)) (Tr.data (Tr.sc v2)) = true := by rw [← e]; exact SeqAt.eqv_refl _ (SeqAt.canLay_of_shaped oa)
                  rw [hev]
                  exact iteF ⟨wt pi, by omega, sm3, _, _, qi, pi, rfl, hD3, pv3, rfl, by omega, ⟨fun h => hiff.mp (hall.mpr ⟨h, e⟩), fun h => (hall.mp (hiff.mpr h)).1⟩⟩
                · rw [eqv_ne da db nb hbb e]
                  exact iteT (hno e _ sm3)
              · refine iteNT (fun e => hbb (V.bl.inj e)) (iteT ?_)
                exact hno (fun e => hbb (isB_eq da db e)) _ sm3
            | tup l2 =>
              obtain ⟨b1, xs2, rfl, hb1, dl2⟩ : ∃ b1 xs2, b = .ref b1 ∧ SqT K H b1 xs2 ∧ DVs K H xs2 l2 := by
                cases db with
                | tup e d => exact ⟨_, _, rfl, e, d⟩
              have L1 := dl1.len
              have L2 := dl2.len
              have e3 : (Tr.tup l1).sz = 1 + szs l1 := rfl
              have wl := wt_len pi
              have pl := pv3.1
              refine ⟨_, rfl, _, _, _, _, true, rfl, .ty "tuple", tyT (ha1.same sm3), kit_ty (by decide +kernel), _, rfl, iteT ⟨_, rfl, _, _, _, _, true, rfl, .ty "tuple", tyT (hb1.same sm3), kit_ty (by decide +kernel), _, rfl, iteT ?_⟩⟩
              refine ⟨_, rfl, a1, _, rfl, .inr ((ha1.same sm3)), _, rfl, b1, _, rfl, .inr ((hb1.same sm3)), rfl, _, rfl, ?_⟩
              by_cases hlen : xs1.length = xs2.length
              · refine iteNS (by rw [hlen]) ?_
                refine ⟨_, rfl, .inl ⟨rfl, _, SqL.of hD3⟩, _, rfl, _, rfl, a1, b1, xs1, xs2, rfl, (ha1.same sm3), (hb1.same sm3), hlen, by omega, fun S q2 H4 nS hS lq prs ex => ?_⟩
                refine ⟨D, S, _, _, rfl, rfl, ex _ _ hD3, hS, by rw [List.length_map, List.length_map]; omega, ?_⟩
                have hll : l1.length = l2.length := by omega
                have sm4 : Same H H4 := fun c o e => ex _ _ (sm3 c o e)
                have pz : PVs K H H4 q2 (l1.zip l2) := by
                  refine ⟨by rw [List.length_zip]; omega, fun i q p e1 e2 => ?_⟩
                  obtain ⟨g1, g2⟩ := List.getElem?_zip_eq_some.mp e2
                  obtain ⟨_, _, x1, y1, g3, g4, g5⟩ := prs i q e1
                  exact ⟨x1, y1, g5, dl1.get g3 g1, dl2.get g4 g2, ok_tup oa _ (List.mem_of_getElem? g1), ok_tup ob _ (List.mem_of_getElem? g2)⟩
                have pv4 := (pv3.keep fun z c d e => ex _ _ e).app pz
                have hw2 : wt (pi ++ l1.zip l2) = wt pi + szs l1 := by rw [wt_app, wt_zip hll]
                refine ⟨wt (pi ++ l1.zip l2), by omega, sp _ sm4, _, _, qi ++ q2, pi ++ l1.zip l2, rfl, by rw [upd_same, List.map_append], pv4.keep (fun z c d e => ?_), rfl, by omega, ?_⟩
                · rw [upd_ne (ne_of e (ex _ _ hD3) (by intro w; cases w))]
                  exact e
                · rw [← hiff, hall]
                  constructor
                  · intro h
                    exact ⟨fun z hz => h z (List.mem_append_left _ hz), congrArg Tr.tup ((zip_all hll).mp fun z hz => h z (List.mem_append_right _ hz))⟩
                  · rintro ⟨h1, h2⟩ z hz
                    rcases List.mem_append.mp hz with q | q
                    · exact h1 z q
                    · exact (zip_all hll).mpr (Tr.tup.inj h2) z q
              · refine iteNT (fun e => hlen (by have := V.int.inj e; omega)) ?_
                exact hno (fun e => hlen (by rw [L1.1, L2.1, Tr.tup.inj e])) _ sm3
    · rintro σ H2 Q1 Q2 imp ⟨x, e, kk, t, q⟩
      exact ⟨x, e, kk, t, imp _ _ q⟩
end
end Dk

set_option maxHeartbeats 4000000
/-! accesses: what they may be -/
namespace Dk
open PySem PySem.Spec PyProof.Rows L2
inductive Rq where
  | read (i : Nat)
  | write (i : Nat) (v : V)
  | swap (i : Nat) (o n : V)
  | decide (i : Nat) (x : Str)
  | flush (i : Nat)
  | fence
def Rq.vs : Rq → List V
  | .read i => [.str "read", .int (i : Int)]
  | .write i v => [.str "write", .int (i : Int), v]
  | .swap i o n => [.str "swap", .int (i : Int), o, n]
  | .decide i x => [.str "decide", .int (i : Int), .str x]
  | .flush i => [.str "flush", .int (i : Int)]
  | .fence => [.str "fence"]
/-- a value of a cell, of moderate size -/
structure Dvl (K : PySem.W.Frag) (H : Hp) (v : V) (t : Tr) : Prop where
  d : DV K H v t
  o : t.ok
  z : t.sz < 100000
theorem Dvl.same {K : PySem.W.Frag} {H H' : Hp} {v : V} {t : Tr} (h : Dvl K H v t) (s : Same H H') : Dvl K H' v t := ⟨DV.ext s _ _ h.d, h.o, h.z⟩
/-- tuples are kept -/
def ExT (H H' : Hp) : Prop := (∀ b xs, H b = some (.tup xs) → H' b = some (.tup xs)) ∧ ∀ b o xs, H b = some (.frz o (.tup xs)) → H' b = some (.frz o (.tup xs))
theorem ExT.of {H H' : Hp} (s : Same H H') : ExT H H' := ⟨fun _ _ e => s _ _ e, fun _ _ _ e => s _ _ e⟩
theorem ExT.trans {H H1 H2 : Hp} (h : ExT H H1) (k : ExT H1 H2) : ExT H H2 := ⟨fun _ _ e => k.1 _ _ (h.1 _ _ e), fun _ _ _ e => k.2 _ _ _ (h.2 _ _ _ e)⟩
theorem _root_.L2.SqT.extT {K : PySem.W.Frag} {H H' : Hp} {a : Addr} {xs : List V} (h : SqT K H a xs) (s : ExT H H') : SqT K H' a xs :=
  h.elim (fun h => .inl (h.elim (fun h => .inl (s.1 _ _ h)) fun ⟨o, h⟩ => .inr ⟨o, s.2 _ _ _ h⟩)) fun h => .inr h
mutual
theorem DV.extT {K : PySem.W.Frag} {H H' : Hp} (s : ExT H H') : ∀ (t : Tr) (v : V), DV K H v t → DV K H' v t
  | .sc _, _, h => by
    cases h with
    | sc e => exact .sc e
  | .tup l, _, h => by
    cases h with
    | tup e d => exact .tup (e.extT s) (DVs.extT s l _ d)
theorem DVs.extT {K : PySem.W.Frag} {H H' : Hp} (s : ExT H H') : ∀ (l : List Tr) (xs : List V), DVs K H xs l → DVs K H' xs l
  | [], _, h => by
    cases h
    exact .nil
  | t :: l, _, h => by
    cases h with
    | cons d e => exact .cons (DV.extT s t _ d) (DVs.extT s l _ e)
end
theorem Dvl.ext {K : PySem.W.Frag} {H H' : Hp} {v : V} {t : Tr} (h : Dvl K H v t) (s : ExT H H') : Dvl K H' v t := ⟨DV.extT s _ _ h.d, h.o, h.z⟩
theorem Dvl.int {K : PySem.W.Frag} {H : Hp} (i : Int) : Dvl K H (.int i) (.sc (.int i)) := ⟨.sc (t := "int") rfl, by show SeqAt.shaped (.int i) = true; rfl, by show 1 < 100000; decide⟩
theorem Dvl.non {K : PySem.W.Frag} {H : Hp} : Dvl K H .non (.sc .non) := ⟨.sc (t := "NoneType") rfl, by show SeqAt.shaped .none = true; rfl, by show 1 < 100000; decide⟩
def Rq.ok (t w r : Nat) : Rq → Prop
  | .read i => i < 1 + t + (t + w + r)
  | .write i _ => i < 1 + t + (t + w + r)
  | .swap i _ _ => i < 1 + t + (t + w + r)
  | .decide i _ => i < 1 + t + (t + w + r)
  | .flush i => 1 + t ≤ i ∧ i < 1 + t + (t + w + r)
  | .fence => True
/-- its values -/
def Rq.vals (K : PySem.W.Frag) (H : Hp) : Rq → Prop
  | .write _ v => ∃ t, Dvl K H v t
  | .swap _ o n => (∃ t, Dvl K H o t) ∧ ∃ t, Dvl K H n t
  | _ => True
theorem Rq.vals_same {K : PySem.W.Frag} {H H' : Hp} {rq : Rq} (h : rq.vals K H) (s : Same H H') : rq.vals K H' := by
  cases rq with
  | write i v => exact let ⟨t, h⟩ := h; ⟨t, h.same s⟩
  | swap i o n => exact let ⟨⟨t, h⟩, u, h2⟩ := h; ⟨⟨t, h.same s⟩, u, h2.same s⟩
  | _ => trivial
theorem mhit {kind : Str} {is : List Nat} {tb : TS} {tr : Addr → List V → TS} {a : Addr} {ys : List V} {D : Ends} {σ : L2.St} {H : Hp} (hlen : ys.length = is.length) (h : tb D (setAll σ is ys) H) : mCase kind is tb tr a (.str kind :: ys) D σ H := by
  unfold mCase
  rw [if_pos (by rw [List.length_cons, hlen])]
  exact ⟨kind, ys, rfl, by rw [if_pos rfl]; exact h⟩
theorem mmiss {kind z : Str} {is : List Nat} {tb : TS} {tr : Addr → List V → TS} {a : Addr} {ys : List V} {D : Ends} {σ : L2.St} {H : Hp} (hk : z ≠ kind) (h : tr a (.str z :: ys) D σ H) : mCase kind is tb tr a (.str z :: ys) D σ H := by
  unfold mCase
  split
  · exact ⟨z, ys, rfl, by rw [if_neg hk]; exact h⟩
  · exact h
def spHasT (C : Addr) : Sp := fun vs H Q _ => ∃ a t w r v ty, vs = [.ref a, v] ∧ vty v = some ty ∧ LayAt C H a t w r ∧ Q (.bl (inW 0 (t - 1) v)) H
def spIsAcc (K : PySem.W.Frag) (C : Addr) : Sp := fun vs H Q _ => ∃ (la q : Addr) (t w r : Nat) (rq : Rq), vs = [.ref la, .ref q] ∧ LayAt C H la t w r ∧ H q = some (.tup rq.vs) ∧ rq.ok t w r ∧ rq.vals K H ∧ ∀ H', Same H H' → Q (.bl true) H'
section
variable {P : Program} {w : World} {K : PySem.W.Frag} {mg : Str → Option Value} {base : Heap} {C M NV LE : Addr}
theorem scHasT : FnScope ["self", "thread"] ["self", "thread"] (defScope sHasT) := ⟨rfl, rfl, rfl, by decide +kernel, rfl, by decide +kernel, by decide +kernel⟩
theorem mo_hast (F : MT K C "has_thread" "Layout.has_thread" sHasT ["self", "thread"]) (T : LTxt K mg C) (GW : GO P w K mg base CX0 2 "is_within" ["value", "low", "high"] spWithin) : MO P w K mg base CX0 C 3 "has_thread" ["self", "thread"] (spHasT C) := by
  obtain ⟨f, fd, F, hm, hb⟩ := F
  refine ⟨f, fd, ?_, hm, hb⟩
  refine F.ok scHasT (fun vs H Q E h => ?_) (fun cdv A outer s H vs Q E hr h => ?_)
  · obtain ⟨a, t, w, r, v, ty, rfl, _⟩ := h
    rfl
  · obtain ⟨a, t, w, r, v, ty, rfl, hv, ⟨dx, h1⟩, k⟩ := h
    refine ⟨_, pss_one (ps_ret (pc_ GW hr (pa_cons (pv 1) (pa_cons pe_int (pa_cons (pe_op op_sub (pe_fld (pv 0) rfl) pe_int) pa_nil))))), ?_⟩
    exact ⟨_, rfl, _, rfl, a, C, dx, _, _, rfl, h1, T.cl, T.nT, rfl, _, _, rfl, rfl, v, ty, _, _, rfl, hv, k⟩
abbrev NA : List Str := ["layout", "request", "cell", "value", "old", "new", "word"]
theorem scIsAcc : FnScope NA ["layout", "request"] (defScope sIsAcc) := ⟨rfl, rfl, rfl, by decide +kernel, rfl, by decide +kernel, by decide +kernel⟩
theorem go_isacc (F : GT K mg "is_access" sIsAcc ["layout", "request"]) (T : LTxt K mg C) (GI : MO P w K mg base CX0 C 6 "is_cell" ["self", "cell"] (spLV C fun t w r v => .bl (inW 0 (cells t w r - 1) v)))
    (GL : MO P w K mg base CX0 C 7 "is_lasting" ["self", "cell"] (spLV C fun t w r v => .bl (lastB t w r v))) (GV : GO P w K mg base CX0 1 "is_value" ["value"] (spIsValueD K)) : GO P w K mg base CX0 8 "is_access" ["layout", "request"] (spIsAcc K C) := by
  obtain ⟨f, fd, F, hm, hb⟩ := F
  refine ⟨f, fd, ?_, hm, F.kp, hb⟩
  refine F.ok scIsAcc (fun vs H Q E h => ?_) (fun cdv A outer s H vs Q E hr h => ?_)
  · obtain ⟨la, q, t, w, r, rq, rfl, _⟩ := h
    rfl
  · obtain ⟨la, q, t, w, r, rq, rfl, L, hq, ok, vals, k⟩ := h
    obtain ⟨da, ha⟩ := id L
    have nd := scIsAcc.nd
    have hr6 : Room 6 _ := hr.mono (by decide)
    have hr1 : Room 1 _ := hr.mono (by decide)
    refine ⟨_, pss_cons (ps_if (pt_not (pt_val (pe_callB call_isi (by rfl) T.bn.isi (by decide +kernel) (pa_cons (pv 1) (pa_cons (pe_bltn (v := .ty "tuple") (by rfl) T.bn.tuple (by decide +kernel) rfl) pa_nil))))) (pss_one ps_never) pss_nil)
      (pss_cons (ps_match (pv 1)
        (pms_case (is := [2]) rfl nd (.cons rfl rfl .nil) (pss_one (ps_ret (pm_ GI T.cl hr6 (pv 0) (pa_cons (pv 2) pa_nil))))
        (pms_case (is := [2, 3]) rfl nd (.cons rfl rfl (.cons rfl rfl .nil)) (pss_one (ps_ret (pe_and (pm_ GI T.cl hr6 (pv 0) (pa_cons (pv 2) pa_nil)) (pe_one (pc_ GV hr1 (pa_cons (pv 3) pa_nil))))))
        (pms_case (is := [2, 4, 5]) rfl nd (.cons rfl rfl (.cons rfl rfl (.cons rfl rfl .nil))) (pss_one (ps_ret (pe_and (pm_ GI T.cl hr6 (pv 0) (pa_cons (pv 2) pa_nil)) (pe_and (pc_ GV hr1 (pa_cons (pv 4) pa_nil)) (pe_one (pc_ GV hr1 (pa_cons (pv 5) pa_nil)))))))
        (pms_case (is := [2, 6]) rfl nd (.cons rfl rfl (.cons rfl rfl .nil)) (pss_one (ps_ret (pe_and (pm_ GI T.cl hr6 (pv 0) (pa_cons (pv 2) pa_nil)) (pe_one (pe_callB call_isi (by rfl) T.bn.isi (by decide +kernel) (pa_cons (pv 6) (pa_cons (pe_bltn (v := .ty "str") (by rfl) T.bn.str (by decide +kernel) rfl) pa_nil)))))))
        (pms_case (is := [2]) rfl nd (.cons rfl rfl .nil) (pss_one (ps_ret (pm_ GL T.cl hr (pv 0) (pa_cons (pv 2) pa_nil))))
        (pms_case (is := []) rfl nd .nil (pss_one (ps_ret pe_bl)) pms_nil)))))))
      (pss_one (ps_ret pe_bl))), ?_⟩
    refine ⟨_, rfl, _, _, _, _, true, rfl, .ty "tuple", .base (.tup hq), kit_ty (by decide +kernel), _, rfl, iteF ?_⟩
    refine ⟨_, rfl, q, _, rfl, SqT.of hq, ?_⟩
    have cell : ∀ {i : Nat} {Q : VK}, i < 1 + t + (t + w + r) → Q (.bl true) H → Q (.bl (inW 0 (cells (t : Int) w r - 1) (.int (i : Int)))) H := fun {i Q} hi q => by
      rw [cells_n, inW_nat, decide_eq_true hi]
      exact q
    cases rq with
    | read i =>
      refine mhit rfl ?_
      exact ⟨_, rfl, la, da, _, rfl, ha, rfl, _, rfl, la, t, w, r, _, "int", rfl, rfl, L, cell ok (k _ (Same.refl H))⟩
    | write i v =>
      have ok : i < 1 + t + (t + w + r) := ok
      obtain ⟨tv, hv⟩ := vals
      have hsl : sizeLine = 16777216 := sizeLine_eq
      have hz := hv.z
      refine mmiss (by decide +kernel) (mhit rfl ?_)
      refine ⟨_, rfl, la, da, _, rfl, ha, rfl, _, rfl, la, t, w, r, _, "int", rfl, rfl, L, _, rfl, ?_⟩
      rw [cells_n, inW_nat, decide_eq_true ok]
      refine iteT ?_
      exact ⟨_, rfl, v, tv, rfl, hv.d, by omega, fun H' s => k H' s⟩
    | swap i o n =>
      have ok : i < 1 + t + (t + w + r) := ok
      obtain ⟨⟨to, ho⟩, tn, hn⟩ := vals
      have hsl : sizeLine = 16777216 := sizeLine_eq
      have hz := ho.z
      have hz2 := hn.z
      refine mmiss (by decide +kernel) (mmiss (by decide +kernel) (mhit rfl ?_))
      refine ⟨_, rfl, la, da, _, rfl, ha, rfl, _, rfl, la, t, w, r, _, "int", rfl, rfl, L, _, rfl, ?_⟩
      rw [cells_n, inW_nat, decide_eq_true ok]
      refine iteT ?_
      exact ⟨_, rfl, o, to, rfl, ho.d, by omega, fun H' s => ⟨_, rfl, iteT ⟨_, rfl, n, tn, rfl, (hn.same s).d, by omega, fun H2 s2 => k H2 (s.trans s2)⟩⟩⟩
    | decide i x =>
      have ok : i < 1 + t + (t + w + r) := ok
      refine mmiss (by decide +kernel) (mmiss (by decide +kernel) (mmiss (by decide +kernel) (mhit rfl ?_)))
      refine ⟨_, rfl, la, da, _, rfl, ha, rfl, _, rfl, la, t, w, r, _, "int", rfl, rfl, L, _, rfl, ?_⟩
      rw [cells_n, inW_nat, decide_eq_true ok]
      refine iteT ?_
      exact ⟨_, rfl, _, _, _, _, true, rfl, .ty "str", .base (.str _), kit_ty (by decide +kernel), k H (Same.refl H)⟩
    | flush i =>
      refine mmiss (by decide +kernel) (mmiss (by decide +kernel) (mmiss (by decide +kernel) (mmiss (by decide +kernel) (mhit rfl ?_))))
      refine ⟨_, rfl, la, da, _, rfl, ha, rfl, _, rfl, la, t, w, r, _, "int", rfl, rfl, L, ?_⟩
      have e : V.bl (lastB (t : Int) w r (.int (i : Int))) = .bl true := by rw [lastB_nat, decide_eq_true (p := 1 + t ≤ i ∧ i < 1 + t + (t + w + r)) ok]
      show Q (V.bl (lastB (t : Int) w r (.int (i : Int)))) H
      rw [e]
      exact k _ (Same.refl H)
    | fence =>
      refine mmiss (by decide +kernel) (mmiss (by decide +kernel) (mmiss (by decide +kernel) (mmiss (by decide +kernel) (mmiss (by decide +kernel) (mhit rfl ?_)))))
      exact k _ (Same.refl H)
end
end Dk

set_option maxHeartbeats 4000000
/-! what a memory holds, changed part by part -/
namespace Dk
open PySem PySem.Spec PyProof.Rows L2
theorem MemAt.same {C M : Addr} {H H' : Hp} {m : Addr} {t w r : Nat} {A : Adr} {S : MS} (D : MemAt C M H m t w r A S) (s1 : Same H H') : MemAt C M H' m t w r A S :=
  ⟨let ⟨x, hx⟩ := D.ob; ⟨x, s1 _ _ hx⟩, let ⟨x, hx⟩ := D.lay; ⟨x, s1 _ _ hx⟩, s1 _ _ D.ps, D.tr.same s1, s1 _ _ D.ld, s1 _ _ D.nl, D.nn, D.nd,
      fun j b hb => let ⟨ns, e1, e2⟩ := D.no j b hb; ⟨ns, e1, s1 _ _ e2⟩, s1 _ _ D.gl, D.d1, D.d2, D.d3, D.d4, D.d5⟩
/-- what stands outside of the memory stands still; what comes into it is new -/
structure Step (m : Addr) (n : Nat) (A : Adr) (H : Hp) (A' : Adr) (H' : Hp) : Prop where
  chg : ∀ b o, H b = some o → ¬ Foot m A n b → H' b = some o
  foot : ∀ b, Foot m A' n b → Foot m A n b ∨ H b = none
theorem Step.refl {m : Addr} {n : Nat} {A : Adr} {H : Hp} : Step m n A H A H := ⟨fun _ _ h _ => h, fun _ h => .inl h⟩
theorem Step.same {m : Addr} {n : Nat} {A : Adr} {H H' : Hp} (s : Same H H') : Step m n A H A H' := ⟨fun b o h _ => s b o h, fun _ h => .inl h⟩
theorem Step.up {m : Addr} {n : Nat} {A : Adr} {H : Hp} {b : Addr} {o : HO} (hb : Foot m A n b) : Step m n A H A (upd H b o) := ⟨fun c u e hc => by
    rw [upd_ne (fun q => hc (by rw [q]; exact hb))]
    exact e, fun _ h => .inl h⟩
theorem Step.trans {m : Addr} {n : Nat} {A A1 A2 : Adr} {H H1 H2 : Hp} (a : Step m n A H A1 H1) (b : Step m n A1 H1 A2 H2) : Step m n A H A2 H2 := by
  have keep : ∀ c o, H c = some o → ¬ Foot m A n c → ¬ Foot m A1 n c := fun c o e hc h => by
    rcases a.foot c h with q | q
    · exact hc q
    · rw [e] at q
      cases q
  refine ⟨fun c o e hc => b.chg c o (a.chg c o e hc) (keep c o e hc), fun c h => ?_⟩
  rcases b.foot c h with q | q
  · exact a.foot c q
  · by_cases hc : Foot m A n c
    · exact .inl hc
    · refine .inr ?_
      cases e : H c with
      | none => rfl
      | some o =>
        rw [a.chg c o e hc] at q
        cases q
/-- what is tracked outside stays so -/
theorem Step.out {m : Addr} {n : Nat} {A A1 : Adr} {H H1 : Hp} (a : Step m n A H A1 H1) {c : Addr} {o : HO} (e : H c = some o) (hc : ¬ Foot m A n c) : H1 c = some o ∧ ¬ Foot m A1 n c := by
  refine ⟨a.chg c o e hc, fun h => ?_⟩
  rcases a.foot c h with q | q
  · exact hc q
  · rw [e] at q
    cases q
def MS.withTr (S : MS) (tr : Nat → List V) : MS := ⟨S.count, S.ps, tr, S.lost, S.notes, S.log⟩
def MS.withPs (S : MS) (ps : List V) : MS := ⟨S.count, ps, S.tr, S.lost, S.notes, S.log⟩
def MS.withLost (S : MS) (l : Nat → Int) : MS := ⟨S.count, S.ps, S.tr, l, S.notes, S.log⟩
def MS.withNotes (S : MS) (n : List (List (Key × V))) : MS := ⟨S.count, S.ps, S.tr, S.lost, n, S.log⟩
def MS.withCount (S : MS) (c : Int) : MS := ⟨c, S.ps, S.tr, S.lost, S.notes, S.log⟩
def MS.withLog (S : MS) (l : List V) : MS := ⟨S.count, S.ps, S.tr, S.lost, S.notes, l⟩
section
variable {C M : Addr} {H : Hp} {m : Addr} {t w r : Nat} {A : Adr} {S : MS}
theorem MemAt.setTr (D : MemAt C M H m t w r A S) {j : Nat} (hj : j < t + w + r) (l : List V) : MemAt C M (upd H (A.tl j) (.lst l)) m t w r A (S.withTr (sett S.tr j l)) := by
  have hl := D.tr.l j hj
  obtain ⟨dx, ho⟩ := D.ob
  obtain ⟨da, hlay⟩ := D.lay
  obtain ⟨d1, d2, d3⟩ := D.d1 j hj
  refine ⟨⟨dx, ?_⟩, ⟨da, ?_⟩, ?_, ⟨?_, fun i hi => ?_, D.tr.inj⟩, ?_, ?_, D.nn, D.nd, fun i b hb => ?_, ?_, D.d1, D.d2, D.d3, D.d4, D.d5⟩
  · rw [upd_ne (ne_of ho hl (by intro z; cases z))]; exact ho
  · rw [upd_ne (ne_of hlay hl (by intro z; cases z))]; exact hlay
  · rw [upd_ne d1.symm]; exact D.ps
  · rw [upd_ne (ne_of D.tr.d hl (by intro z; cases z))]; exact D.tr.d
  · show upd H (A.tl j) (.lst l) (A.tl i) = some (.lst (sett S.tr j l i))
    by_cases c : i = j
    · rw [c, upd_same, sett_same]
    · rw [sett_ne c, upd_ne (fun e => c (D.tr.inj i j hi hj e))]; exact D.tr.l i hi
  · rw [upd_ne (ne_of D.ld hl (by intro z; cases z))]; exact D.ld
  · rw [upd_ne d3.symm]; exact D.nl
  · obtain ⟨ns, e1, e2⟩ := D.no i b hb
    exact ⟨ns, e1, by rw [upd_ne (ne_of e2 hl (by intro z; cases z))]; exact e2⟩
  · rw [upd_ne d2.symm]; exact D.gl
theorem MemAt.setPs (D : MemAt C M H m t w r A S) (l : List V) : MemAt C M (upd H A.pl (.lst l)) m t w r A (S.withPs l) := by
  have hl := D.ps
  obtain ⟨dx, ho⟩ := D.ob
  obtain ⟨da, hlay⟩ := D.lay
  refine ⟨⟨dx, ?_⟩, ⟨da, ?_⟩, upd_same, ⟨?_, fun i hi => ?_, D.tr.inj⟩, ?_, ?_, D.nn, D.nd, fun i b hb => ?_, ?_, D.d1, D.d2, D.d3, D.d4, D.d5⟩
  · rw [upd_ne (ne_of ho hl (by intro z; cases z))]; exact ho
  · rw [upd_ne (ne_of hlay hl (by intro z; cases z))]; exact hlay
  · rw [upd_ne (ne_of D.tr.d hl (by intro z; cases z))]; exact D.tr.d
  · rw [upd_ne (D.d1 i hi).1]; exact D.tr.l i hi
  · rw [upd_ne (ne_of D.ld hl (by intro z; cases z))]; exact D.ld
  · rw [upd_ne D.d2.2.1.symm]; exact D.nl
  · obtain ⟨ns, e1, e2⟩ := D.no i b hb
    exact ⟨ns, e1, by rw [upd_ne (ne_of e2 hl (by intro z; cases z))]; exact e2⟩
  · rw [upd_ne D.d2.1.symm]; exact D.gl
theorem MemAt.setLost (D : MemAt C M H m t w r A S) (lo : Nat → Int) : MemAt C M (upd H A.ld (.dK (kv ((1 + t : Nat) : Int) (t + w + r) fun j => .int (lo j)))) m t w r A (S.withLost lo) := by
  have hl := D.ld
  obtain ⟨dx, ho⟩ := D.ob
  obtain ⟨da, hlay⟩ := D.lay
  refine ⟨⟨dx, ?_⟩, ⟨da, ?_⟩, ?_, ⟨?_, fun i hi => ?_, D.tr.inj⟩, upd_same, ?_, D.nn, D.nd, fun i b hb => ?_, ?_, D.d1, D.d2, D.d3, D.d4, D.d5⟩
  · rw [upd_ne (ne_of ho hl (by intro z; cases z))]; exact ho
  · rw [upd_ne (ne_of hlay hl (by intro z; cases z))]; exact hlay
  · rw [upd_ne (ne_of D.ps hl (by intro z; cases z))]; exact D.ps
  · rw [upd_ne D.d3]; exact D.tr.d
  · rw [upd_ne (ne_of (D.tr.l i hi) hl (by intro z; cases z))]; exact D.tr.l i hi
  · rw [upd_ne (ne_of D.nl hl (by intro z; cases z))]; exact D.nl
  · obtain ⟨ns, e1, e2⟩ := D.no i b hb
    exact ⟨ns, e1, by rw [upd_ne (D.d4 b (List.mem_of_getElem? hb)).2]; exact e2⟩
  · rw [upd_ne (ne_of D.gl hl (by intro z; cases z))]; exact D.gl
theorem MemAt.setCount (D : MemAt C M H m t w r A S) (c : Int) (dx : Addr) : MemAt C M (upd H m (.ins M dx (mf A c))) m t w r A (S.withCount c) := by
  obtain ⟨dx', hl⟩ := D.ob
  obtain ⟨da, hlay⟩ := D.lay
  refine ⟨⟨dx, upd_same⟩, ⟨da, ?_⟩, ?_, ⟨?_, fun i hi => ?_, D.tr.inj⟩, ?_, ?_, D.nn, D.nd, fun i b hb => ?_, ?_, D.d1, D.d2, D.d3, D.d4, D.d5⟩
  · rw [upd_ne D.d5.symm]; exact hlay
  · rw [upd_ne (ne_of D.ps hl (by intro z; cases z))]; exact D.ps
  · rw [upd_ne (ne_of D.tr.d hl (by intro z; cases z))]; exact D.tr.d
  · rw [upd_ne (ne_of (D.tr.l i hi) hl (by intro z; cases z))]; exact D.tr.l i hi
  · rw [upd_ne (ne_of D.ld hl (by intro z; cases z))]; exact D.ld
  · rw [upd_ne (ne_of D.nl hl (by intro z; cases z))]; exact D.nl
  · obtain ⟨ns, e1, e2⟩ := D.no i b hb
    exact ⟨ns, e1, by rw [upd_ne (ne_of e2 hl (by intro z; cases z))]; exact e2⟩
  · rw [upd_ne (ne_of D.gl hl (by intro z; cases z))]; exact D.gl
theorem MemAt.setLog (D : MemAt C M H m t w r A S) (l : List V) : MemAt C M (upd H A.gl (.lst l)) m t w r A (S.withLog l) := by
  have hl := D.gl
  obtain ⟨dx, ho⟩ := D.ob
  obtain ⟨da, hlay⟩ := D.lay
  refine ⟨⟨dx, ?_⟩, ⟨da, ?_⟩, ?_, ⟨?_, fun i hi => ?_, D.tr.inj⟩, ?_, ?_, D.nn, D.nd, fun i b hb => ?_, upd_same, D.d1, D.d2, D.d3, D.d4, D.d5⟩
  · rw [upd_ne (ne_of ho hl (by intro z; cases z))]; exact ho
  · rw [upd_ne (ne_of hlay hl (by intro z; cases z))]; exact hlay
  · rw [upd_ne D.d2.1]; exact D.ps
  · rw [upd_ne (ne_of D.tr.d hl (by intro z; cases z))]; exact D.tr.d
  · rw [upd_ne (D.d1 i hi).2.1]; exact D.tr.l i hi
  · rw [upd_ne (ne_of D.ld hl (by intro z; cases z))]; exact D.ld
  · rw [upd_ne D.d2.2.2.symm]; exact D.nl
  · obtain ⟨ns, e1, e2⟩ := D.no i b hb
    exact ⟨ns, e1, by rw [upd_ne (ne_of e2 hl (by intro z; cases z))]; exact e2⟩
theorem MemAt.setNotes (D : MemAt C M H m t w r A S) {i : Nat} {b : Addr} (hb : A.na[i]? = some b) (ns : List (Key × V)) : MemAt C M (upd H b (.dK ns)) m t w r A (S.withNotes (S.notes.set i ns)) := by
  obtain ⟨ns0, n1, hl⟩ := D.no i b hb
  obtain ⟨dx, ho⟩ := D.ob
  obtain ⟨da, hlay⟩ := D.lay
  obtain ⟨d1, d2⟩ := D.d4 b (List.mem_of_getElem? hb)
  refine ⟨⟨dx, ?_⟩, ⟨da, ?_⟩, ?_, ⟨?_, fun k hk => ?_, D.tr.inj⟩, ?_, ?_, D.nn, D.nd, fun k c hc => ?_, ?_, D.d1, D.d2, D.d3, D.d4, D.d5⟩
  · rw [upd_ne (ne_of ho hl (by intro z; cases z))]; exact ho
  · rw [upd_ne (ne_of hlay hl (by intro z; cases z))]; exact hlay
  · rw [upd_ne (ne_of D.ps hl (by intro z; cases z))]; exact D.ps
  · rw [upd_ne d1.symm]; exact D.tr.d
  · rw [upd_ne (ne_of (D.tr.l k hk) hl (by intro z; cases z))]; exact D.tr.l k hk
  · rw [upd_ne d2.symm]; exact D.ld
  · rw [upd_ne (ne_of D.nl hl (by intro z; cases z))]; exact D.nl
  · by_cases e : k = i
    · subst e
      have ec : c = b := Option.some.inj (hc.symm.trans hb)
      subst ec
      refine ⟨ns, ?_, upd_same⟩
      show (S.notes.set k ns)[k]? = some ns
      exact List.getElem?_set_self (List.getElem?_eq_some_iff.mp n1).1
    · obtain ⟨ns', e1, e2⟩ := D.no k c hc
      refine ⟨ns', ?_, ?_⟩
      · show (S.notes.set i ns)[k]? = some ns'
        rw [List.getElem?_set_ne (fun z => e z.symm)]
        exact e1
      · rw [upd_ne (fun z => e (nd_ix D.nd hc (by rw [z]; exact hb)))]
        exact e2
  · rw [upd_ne (ne_of D.gl hl (by intro z; cases z))]; exact D.gl
/-- a thread's notes are a new dict -/
theorem MemAt.newNotes (D : MemAt C M H m t w r A S) {i : Nat} (hi : i < t) {H1 : Hp} {p : Addr} (s : Same H H1) (hp : H p = none) (h1 : H1 p = some (.dK [])) :
    MemAt C M (upd H1 A.nl (.lst ((A.na.set i p).map V.ref))) m t w r { A with na := A.na.set i p } (S.withNotes (S.notes.set i [])) := by
  have hl := s _ _ D.nl
  obtain ⟨dx, ho⟩ := D.ob
  obtain ⟨da, hlay⟩ := D.lay
  have pn : ∀ {b : Addr} {o : HO}, H b = some o → b ≠ p := fun {b o} e => ne_of_none e hp
  have hlen : i < A.na.length := by rw [D.nn]; exact hi
  have memP : ∀ b, b ∈ A.na.set i p → b = p ∨ b ∈ A.na := fun b hb => by
    rcases List.mem_or_eq_of_mem_set hb with q | q
    · exact .inr q
    · exact .inl q
  refine ⟨⟨dx, ?_⟩, ⟨da, ?_⟩, ?_, ⟨?_, fun k hk => ?_, D.tr.inj⟩, ?_, upd_same, ?_, ?_, fun k c hc => ?_, ?_, D.d1, D.d2, D.d3, fun b hb => ?_, D.d5⟩
  · rw [upd_ne (ne_of (s _ _ ho) hl (by intro z; cases z))]; exact s _ _ ho
  · rw [upd_ne (ne_of (s _ _ hlay) hl (by intro z; cases z))]; exact s _ _ hlay
  · rw [upd_ne D.d2.2.1]; exact s _ _ D.ps
  · rw [upd_ne (ne_of (s _ _ D.tr.d) hl (by intro z; cases z))]; exact s _ _ D.tr.d
  · rw [upd_ne (D.d1 k hk).2.2]; exact s _ _ (D.tr.l k hk)
  · rw [upd_ne (ne_of (s _ _ D.ld) hl (by intro z; cases z))]; exact s _ _ D.ld
  · show (A.na.set i p).length = t
    rw [List.length_set]
    exact D.nn
  · show (A.na.set i p).Nodup
    have np : p ∉ A.na := fun hm => by
      obtain ⟨k, hk⟩ := List.getElem?_of_mem hm
      obtain ⟨ns, _, e2⟩ := D.no k p hk
      rw [hp] at e2
      cases e2
    refine List.pairwise_iff_getElem.mpr fun x y hx hy hxy => ?_
    rw [List.length_set] at hx hy
    rw [List.getElem_set, List.getElem_set]
    by_cases c1 : i = x
    · rw [if_pos c1, if_neg (by omega)]
      exact fun e => np (by rw [e]; exact List.getElem_mem hy)
    · rw [if_neg c1]
      by_cases c2 : i = y
      · rw [if_pos c2]
        exact fun e => np (by rw [← e]; exact List.getElem_mem hx)
      · rw [if_neg c2]
        exact fun e => absurd ((List.getElem_inj D.nd).mp e) (by omega)
  · have hc : (A.na.set i p)[k]? = some c := hc
    by_cases e : k = i
    · subst e
      rw [List.getElem?_set_self hlen] at hc
      have ec : p = c := Option.some.inj hc
      subst ec
      obtain ⟨b0, hb0⟩ : ∃ b0, A.na[k]? = some b0 := ⟨A.na[k], List.getElem?_eq_getElem hlen⟩
      obtain ⟨ns0, n1, _⟩ := D.no k b0 hb0
      refine ⟨[], ?_, ?_⟩
      · show (S.notes.set k [])[k]? = some []
        exact List.getElem?_set_self (List.getElem?_eq_some_iff.mp n1).1
      · rw [upd_ne (pn D.nl).symm]
        exact h1
    · rw [List.getElem?_set_ne (fun z => e z.symm)] at hc
      obtain ⟨ns', e1, e2⟩ := D.no k c hc
      refine ⟨ns', ?_, ?_⟩
      · show (S.notes.set i [])[k]? = some ns'
        rw [List.getElem?_set_ne (fun z => e z.symm)]
        exact e1
      · rw [upd_ne (ne_of (s _ _ e2) hl (by intro z; cases z))]
        exact s _ _ e2
  · rw [upd_ne D.d2.2.2]; exact s _ _ D.gl
  · rcases memP b hb with e | e
    · rw [e]
      exact ⟨(pn D.tr.d).symm, (pn D.ld).symm⟩
    · exact D.d4 b e
end
end Dk

set_option maxHeartbeats 4000000
/-! a value is given, a trail is shortened -/
namespace Dk
open PySem PySem.Spec PyProof.Rows L2
abbrev sGive : Stmt := inClass (top 25) 10
abbrev sGiveIf : Stmt := inClass (top 25) 11
abbrev sFence : Stmt := inClass (top 25) 12
abbrev sShort : Stmt := inClass (top 25) 13
def MS.give (S : MS) (t i : Nat) (v : V) : MS := if i < 1 + t then S.withPs (S.ps.set i v) else S.withTr (sett S.tr (i - (1 + t)) (S.tr (i - (1 + t)) ++ [v]))
/-- by how much a trail of that length becomes shorter -/
def cutN (len : Nat) (k : Int) : Nat := min k.toNat (len - 1)
def setl (g : Nat → Int) (j : Nat) (v : Int) : Nat → Int := fun i => if i = j then v else g i
theorem setf_int (g : Nat → Int) (j : Nat) (x : Int) : setf (fun i => .int (g i)) j (.int x) = fun i => .int (setl g j x i) := by
  funext i
  unfold setf setl
  by_cases c : i = j
  · rw [if_pos c, if_pos c]
  · rw [if_neg c, if_neg c]
def MS.short (S : MS) (j : Nat) (k : Int) : MS := (S.withTr (sett S.tr j ((S.tr j).drop (cutN (S.tr j).length k)))).withLost (setl S.lost j (S.lost j + (cutN (S.tr j).length k : Nat)))
theorem many_eq {len : Nat} (hl : 0 < len) (k : Int) : (if (if (len : Int) - 1 < k then (len : Int) - 1 else k) > 0 then (if (len : Int) - 1 < k then (len : Int) - 1 else k) else 0) = ((cutN len k : Nat) : Int) := by
  unfold cutN
  by_cases c : (len : Int) - 1 < k
  · rw [if_pos c]
    split <;> omega
  · rw [if_neg c]
    split <;> omega
def spGive (C M : Addr) : Sp := fun vs H Q _ => ∃ (m : Addr) (t w r i : Nat) (A : Adr) (S : MS) (v : V), vs = [.ref m, .int (i : Int), v] ∧ MemAt C M H m t w r A S ∧ i < 1 + t + (t + w + r) ∧ (i < 1 + t → i < S.ps.length) ∧ (1 + t ≤ i → (S.tr (i - (1 + t))).length < sizeLine) ∧
  ∀ H', MemAt C M H' m t w r A (S.give t i v) → Step m (t + w + r) A H A H' → Q .non H'
def spShort (C M : Addr) : Sp := fun vs H Q _ => ∃ (m : Addr) (t w r j : Nat) (A : Adr) (S : MS) (k : Int), vs = [.ref m, .int ((1 + t + j : Nat) : Int), .int k] ∧ NOk t w r ∧ MemAt C M H m t w r A S ∧ j < t + w + r ∧ S.tr j ≠ [] ∧
  ∀ H', MemAt C M H' m t w r A (S.short j k) → Step m (t + w + r) A H A H' → Q .non H'
def spGiveIf (K : PySem.W.Frag) (C M : Addr) : Sp := fun vs H Q _ => ∃ (m : Addr) (t w r i : Nat) (A : Adr) (S : MS) (o v p : V) (tp to : Tr), vs = [.ref m, .int (i : Int), o, v] ∧ MemAt C M H m t w r A S ∧ i < 1 + t + (t + w + r) ∧ cellV S t i = some p ∧ Dvl K H p tp ∧ Dvl K H o to ∧ (i < 1 + t → i < S.ps.length) ∧ (1 + t ≤ i → (S.tr (i - (1 + t))).length < sizeLine) ∧
  (tp = to → ∀ H', MemAt C M H' m t w r A (S.give t i v) → Step m (t + w + r) A H A H' → Q (.bl true) H') ∧ (tp ≠ to → ∀ H', Same H H' → Q (.bl false) H')
section
variable {P : Program} {w : World} {K : PySem.W.Frag} {mg : Str → Option Value} {base : Heap} {C M NV LE : Addr}
theorem tr_get {H : Hp} {m : Addr} {t w r : Nat} {A : Adr} {S : MS} (D : MemAt C M H m t w r A S) {i : Nat} (h1 : 1 + t ≤ i) (h2 : i < 1 + t + (t + w + r)) : DGet H A.td (.int (i : Int)) (some (.ref (A.tl (i - (1 + t))))) := by
  have hj : i - (1 + t) < t + w + r := by omega
  have ei : ((1 + t : Nat) : Int) + ((i - (1 + t) : Nat) : Int) = (i : Int) := by omega
  have := DGet.k (k := (Sum.inl (i : Int) : Key)) D.tr.d
  rw [← ei, kv_val _ _ _ _ hj, ei] at this
  exact this
theorem scGive : FnScope ["self", "cell", "value"] ["self", "cell", "value"] (defScope sGive) := ⟨rfl, rfl, rfl, by decide +kernel, rfl, by decide +kernel, by decide +kernel⟩
theorem mo_give (F : MT K M "_give" "Memory._give" sGive ["self", "cell", "value"]) (T : LTxt K mg C) (TM : MTxt K M) (GL : MO P w K mg base CX0 C 7 "is_lasting" ["self", "cell"] (spLV C fun t w r v => .bl (lastB t w r v))) :
    MO P w K mg base CX0 M 8 "_give" ["self", "cell", "value"] (spGive C M) := by
  obtain ⟨f, fd, F, hm, hb⟩ := F
  refine ⟨f, fd, ?_, hm, hb⟩
  refine F.ok scGive (fun vs H Q E h => ?_) (fun cdv A outer s H vs Q E hr h => ?_)
  · obtain ⟨m, t, w, r, i, A, S, v, rfl, _⟩ := h
    rfl
  · obtain ⟨m, t, w, r, i, B, S, v, rfl, D, hi, hp, hs, k⟩ := h
    obtain ⟨dx, h1⟩ := D.ob
    obtain ⟨da, ha⟩ := D.lay
    have hu := hu_of hr
    refine ⟨_, pss_one (ps_if (pt_val (pm_ GL T.cl hr (pe_fld (pv 0) rfl) (pa_cons (pv 1) pa_nil)))
      (pss_one (ps_expr (pe_bm PySem.F.plainAttrs_list PySem.F.slot_list_append PySem.F.type_list_append mt_append (pe_dget hu (pe_fld (pv 0) rfl) (pv 1) (fun _ _ => rfl)) (pa_cons (pv 2) pa_nil))))
      (pss_one (ps_asg (pv 2) (pg_sub (pe_fld (pv 0) rfl) (pv 1) set_list)))), ?_⟩
    refine ⟨_, rfl, m, M, dx, _, _, rfl, h1, TM.cl, TM.nL, rfl, B.a, da, _, rfl, ha, rfl, _, rfl, B.a, t, w, r, _, "int", rfl, rfl, ⟨da, ha⟩, _, rfl, ?_⟩
    rw [lastB_nat]
    unfold MS.give at k
    by_cases c : i < 1 + t
    · rw [if_pos c] at k
      refine iteND (by omega) ?_
      have hx : ixN S.ps.length (i : Int) = some i := by
        unfold ixN
        have := hp c
        rw [if_pos (by omega), if_pos (by omega)]
        rfl
      exact ⟨_, rfl, _, rfl, m, M, dx, _, _, rfl, h1, TM.cl, TM.nP, rfl, _, rfl, B.pl, _, _, i, rfl, rfl, D.ps, hx, k _ (D.setPs _) (Step.up (.inr (.inl rfl)))⟩
    · rw [if_neg c] at k
      refine iteD ⟨by omega, hi⟩ ?_
      have hj : i - (1 + t) < t + w + r := by omega
      have hl := D.tr.l _ hj
      exact ⟨_, rfl, m, M, dx, _, _, rfl, h1, TM.cl, TM.nT, rfl, _, rfl, B.td, _, rfl, tr_get D (by omega) hi, .inl ⟨rfl, _, SqL.of hl⟩, _, rfl, _, _, _, rfl, rfl, hl, hs (by omega),
        k _ (D.setTr hj _) (Step.up (.inr (.inr (.inr (.inr (.inr (.inr (.inl ⟨_, hj, rfl⟩))))))))⟩
theorem scShort : FnScope ["self", "cell", "steps", "trail", "many"] ["self", "cell", "steps"] (defScope sShort) := ⟨rfl, rfl, rfl, by decide +kernel, rfl, by decide +kernel, by decide +kernel⟩
theorem mo_short (F : MT K M "_shorten" "Memory._shorten" sShort ["self", "cell", "steps"]) (T : LTxt K mg C) (TM : MTxt K M) (zx : mg "max" = none) (zn : mg "min" = none) : MO P w K mg base CX0 M 1 "_shorten" ["self", "cell", "steps"] (spShort C M) := by
  obtain ⟨f, fd, F, hm, hb⟩ := F
  refine ⟨f, fd, ?_, hm, hb⟩
  refine F.ok scShort (fun vs H Q E h => ?_) (fun cdv A outer s H vs Q E hr h => ?_)
  · obtain ⟨m, t, w, r, j, A, S, k, rfl, _⟩ := h
    rfl
  · obtain ⟨m, t, w, r, j, B, S, x, rfl, nok, D, hj, hne, k⟩ := h
    obtain ⟨dx, h1⟩ := D.ob
    have hu := hu_of hr
    have nd := scShort.nd
    refine ⟨_, pss_cons (ps_set (i := 3) nd rfl (Or.inl rfl) (pe_dget hu (pe_fld (pv 0) rfl) (pv 1) (fun _ _ => rfl)))
      (pss_cons (ps_set (i := 4) nd rfl (Or.inl rfl) (pe_callB (call_max2 rfl) (by rfl) zx (by decide +kernel) (pa_cons pe_int (pa_cons (pe_callB (call_min2 rfl) (by rfl) zn (by decide +kernel) (pa_cons (pv 2)
        (pa_cons (pe_op op_sub (pe_callB call_len_seq (by rfl) T.bn.len PySem.boot_len (pa_cons (pv 3) pa_nil)) pe_int) pa_nil))) pa_nil))))
      (pss_cons (ps_delSl (pv 3) po_none (po_some (pv 4)))
      (pss_one (ps_daug hu (pe_fld (pv 0) rfl) (pv 1) (pv 4) in_add (fun _ _ _ => rfl))))), ?_⟩
    have hl := D.tr.l j hj
    have hg : DGet H B.td (.int ((1 + t + j : Nat) : Int)) (some (.ref (B.tl j))) := by
      have := tr_get D (i := 1 + t + j) (by omega) (by omega)
      rw [show 1 + t + j - (1 + t) = j by omega] at this
      exact this
    have hpos : 0 < (S.tr j).length := List.length_pos_iff.mpr hne
    refine ⟨_, rfl, m, M, dx, _, _, rfl, h1, TM.cl, TM.nT, rfl, _, rfl, B.td, _, rfl, hg, ?_⟩
    refine ⟨_, rfl, _, rfl, B.tl j, _, rfl, .inl (SqL.of hl), _, _, rfl, rfl, _, _, rfl, _, _, rfl, ?_⟩
    rw [many_eq hpos x]
    have hc : cutN (S.tr j).length x ≤ (S.tr j).length := by unfold cutN; omega
    refine ⟨_, rfl, _, rfl, _, rfl, B.tl j, S.tr j, 0, cutN (S.tr j).length x, rfl, hl, bounds_head hc, Nat.zero_le _, ?_⟩
    rw [List.take_zero, List.nil_append]
    have D2 := D.setTr hj ((S.tr j).drop (cutN (S.tr j).length x))
    obtain ⟨dx2, h2⟩ := D2.ob
    have hg2 : DGet (upd H (B.tl j) (.lst ((S.tr j).drop (cutN (S.tr j).length x)))) B.ld (.int ((1 + t + j : Nat) : Int)) (some (.int (S.lost j))) := by
      have := DGet.k (k := (Sum.inl ((1 + t + j : Nat) : Int) : Key)) D2.ld
      rw [show ((1 + t + j : Nat) : Int) = ((1 + t : Nat) : Int) + (j : Int) by omega, kv_val _ _ _ _ hj, show ((1 + t : Nat) : Int) + (j : Int) = ((1 + t + j : Nat) : Int) by omega] at this
      exact this
    have hsl : sizeLine = 16777216 := sizeLine_eq
    refine ⟨_, rfl, m, M, dx2, _, _, rfl, h2, TM.cl, TM.nO, rfl, _, rfl, B.ld, _, rfl, hg2, _, rfl, _, _, rfl, rfl, _, DPut.k (k := Sum.inl _) D2.ld (by rw [kv_len]; have := nok.t3; have := nok.w4; have := nok.r200; omega), ?_⟩
    rw [show ((1 + t + j : Nat) : Int) = ((1 + t : Nat) : Int) + (j : Int) by omega, kv_put _ _ _ _ _ hj]
    have e3 : setf (fun j => .int (S.lost j)) j (.int (S.lost j + (cutN (S.tr j).length x : Nat))) = fun i => .int (setl S.lost j (S.lost j + (cutN (S.tr j).length x : Nat)) i) := setf_int _ _ _
    have e4 : (fun j => V.int ((S.withTr (sett S.tr j ((S.tr j).drop (cutN (S.tr j).length x)))).lost j)) = fun j => V.int (S.lost j) := rfl
    refine k _ ?_ ((Step.up (.inr (.inr (.inr (.inr (.inr (.inr (.inl ⟨_, hj, rfl⟩)))))))).trans (Step.up (.inr (.inr (.inr (.inl rfl))))))
    have D3 := D2.setLost (setl S.lost j (S.lost j + (cutN (S.tr j).length x : Nat)))
    rw [← e3] at D3
    exact D3
theorem scGiveIf : FnScope ["self", "cell", "old", "new"] ["self", "cell", "old", "new"] (defScope sGiveIf) := ⟨rfl, rfl, rfl, by decide +kernel, rfl, by decide +kernel, by decide +kernel⟩
theorem mo_giveif (F : MT K M "_give_if" "Memory._give_if" sGiveIf ["self", "cell", "old", "new"]) (T : LTxt K mg C) (TM : MTxt K M) (GS : GO P w K mg base CX0 1 "is_same" ["one", "other"] (spIsSameD K))
    (GP : MO P w K mg base CX0 M 8 "peek" ["self", "cell"] (spPeek C M)) (GG : MO P w K mg base CX0 M 8 "_give" ["self", "cell", "value"] (spGive C M)) : MO P w K mg base CX0 M 9 "_give_if" ["self", "cell", "old", "new"] (spGiveIf K C M) := by
  obtain ⟨f, fd, F, hm, hb⟩ := F
  refine ⟨f, fd, ?_, hm, hb⟩
  refine F.ok scGiveIf (fun vs H Q E h => ?_) (fun cdv A outer s H vs Q E hr h => ?_)
  · obtain ⟨m, t, w, r, i, A, S, o, v, p, tp, to, rfl, _⟩ := h
    rfl
  · obtain ⟨m, t, w, r, i, B, S, o, v, p, tp, to, rfl, D, hi, hv, fp, fo, hp, hs, k1, k2⟩ := h
    have hsl : sizeLine = 16777216 := sizeLine_eq
    have hzp := fp.z
    obtain ⟨dx, h1⟩ := D.ob
    refine ⟨_, pss_cons (ps_if (pt_not (pt_val (pc_ GS (hr.mono (by decide)) (pa_cons (pm_ GP TM.cl hr (pv 0) (pa_cons (pv 1) pa_nil)) (pa_cons (pv 2) pa_nil))))) (pss_one (ps_ret pe_bl)) pss_nil)
      (pss_cons (ps_expr (pm_ GG TM.cl hr (pv 0) (pa_cons (pv 1) (pa_cons (pv 3) pa_nil)))) (pss_one (ps_ret pe_bl))), ?_⟩
    refine ⟨_, rfl, m, dx, _, rfl, h1, rfl, _, rfl, m, t, w, r, i, B, S, p, rfl, D, hi, hv, _, rfl, p, o, tp, to, rfl, fp.d, fo.d, fp.o, fo.o, by omega, fun bb H1 s1 hbb => ⟨_, rfl, ?_⟩⟩
    cases bb with
    | true =>
      refine iteF ?_
      have D1 := D.same s1
      obtain ⟨dx1, h2⟩ := D1.ob
      exact ⟨_, rfl, m, dx1, _, rfl, h2, rfl, _, rfl, _, rfl, m, t, w, r, i, B, S, v, rfl, D1, hi, hp, hs, fun H2 D2 s2 => k1 (hbb.mp rfl) H2 D2 ((Step.same s1).trans s2)⟩
    | false => exact iteT (k2 (fun e => absurd (hbb.mpr e) (by decide)) H1 s1)
end
end Dk

set_option maxHeartbeats 4000000
/-! a fence -/
namespace Dk
open PySem PySem.Spec PyProof.Rows L2
/-- the notes of a thread: index of the lasting cell, place -/
def nkv (t : Nat) (l : List (Nat × Int)) : List (Key × V) := l.map fun p => ((Sum.inl ((1 + t + p.1 : Nat) : Int) : Key), V.int p.2)
def fenceS (S : MS) (l : List (Nat × Int)) : MS := l.foldl (fun S p => S.short p.1 (p.2 - S.lost p.1)) S
theorem fenceS_take {S : MS} {l : List (Nat × Int)} {i : Nat} {p : Nat × Int} (h : l[i]? = some p) : fenceS S (l.take (i + 1)) = (fenceS S (l.take i)).short p.1 (p.2 - (fenceS S (l.take i)).lost p.1) := by
  have hi : i < l.length := (List.getElem?_eq_some_iff.mp h).1
  have e : l.take (i + 1) = l.take i ++ [p] := by
    rw [List.take_succ, h]
    rfl
  unfold fenceS
  rw [e, List.foldl_append]
  rfl
theorem short_ne {S : MS} {j : Nat} {k : Int} {n : Nat} (h : ∀ i, i < n → S.tr i ≠ []) : ∀ i, i < n → (S.short j k).tr i ≠ [] := fun i hi => by
  show sett S.tr j ((S.tr j).drop (cutN (S.tr j).length k)) i ≠ []
  by_cases c : i = j
  · subst c
    rw [sett_same]
    have h1 := h i hi
    have h2 : 0 < (S.tr i).length := List.length_pos_iff.mpr h1
    refine List.length_pos_iff.mp ?_
    rw [List.length_drop]
    unfold cutN
    omega
  · rw [sett_ne c]
    exact h i hi
theorem fence_ne {n : Nat} : ∀ {l : List (Nat × Int)} {S : MS}, (∀ i, i < n → S.tr i ≠ []) → ∀ i, i < n → (fenceS S l).tr i ≠ []
  | [], _, h => h
  | p :: l, S, h => fence_ne (l := l) (S := S.short p.1 (p.2 - S.lost p.1)) (short_ne h)
/-- an object outside of the memory changes -/
theorem MemAt.outer {C M : Addr} {H H' : Hp} {m b : Addr} {t w r : Nat} {A : Adr} {S : MS} (D : MemAt C M H m t w r A S) (k : ∀ c o, H c = some o → c ≠ b → H' c = some o) (hb : ¬ Foot m A (t + w + r) b) (ha : b ≠ A.a) : MemAt C M H' m t w r A S := by
  have f : ∀ {c : Addr} {o : HO}, H c = some o → Foot m A (t + w + r) c → H' c = some o := fun {c o} e h => k c o e fun q => hb (by rw [← q]; exact h)
  obtain ⟨dx, ho⟩ := D.ob
  obtain ⟨da, hlay⟩ := D.lay
  exact ⟨⟨dx, f ho (.inl rfl)⟩, ⟨da, k _ _ hlay ha.symm⟩, f D.ps (.inr (.inl rfl)), ⟨f D.tr.d (.inr (.inr (.inl rfl))), fun j hj => f (D.tr.l j hj) (.inr (.inr (.inr (.inr (.inr (.inr (.inl ⟨j, hj, rfl⟩))))))), D.tr.inj⟩, f D.ld (.inr (.inr (.inr (.inl rfl)))),
    f D.nl (.inr (.inr (.inr (.inr (.inl rfl))))), D.nn, D.nd, fun i c hc => let ⟨ns, e1, e2⟩ := D.no i c hc; ⟨ns, e1, f e2 (.inr (.inr (.inr (.inr (.inr (.inr (.inr (List.mem_of_getElem? hc))))))))⟩, f D.gl (.inr (.inr (.inr (.inr (.inr (.inl rfl)))))), D.d1, D.d2, D.d3, D.d4, D.d5⟩
def spFence (C M : Addr) : Sp := fun vs H Q _ => ∃ (m : Addr) (t w r th : Nat) (A : Adr) (S : MS) (l : List (Nat × Int)), vs = [.ref m, .int (th : Int)] ∧ NOk t w r ∧ MemAt C M H m t w r A S ∧ th < t ∧ S.notes[th]? = some (nkv t l) ∧ (∀ p, p ∈ l → p.1 < t + w + r) ∧ (∀ j, j < t + w + r → S.tr j ≠ []) ∧
  ∀ (A' : Adr) (H' : Hp), A'.a = A.a → MemAt C M H' m t w r A' (fenceS (S.withNotes (S.notes.set th [])) l) → Step m (t + w + r) A H A' H' → Q .non H'
section
variable {P : Program} {w : World} {K : PySem.W.Frag} {mg : Str → Option Value} {base : Heap} {C M NV LE : Addr}
theorem scFence : FnScope ["self", "thread", "notes", "cell", "place"] ["self", "thread"] (defScope sFence) := ⟨rfl, rfl, rfl, by decide +kernel, rfl, by decide +kernel, by decide +kernel⟩
theorem mo_fence (F : MT K M "_fence" "Memory._fence" sFence ["self", "thread"]) (TM : MTxt K M) (GS : MO P w K mg base CX0 M 1 "_shorten" ["self", "cell", "steps"] (spShort C M)) : MO P w K mg base CX0 M 2 "_fence" ["self", "thread"] (spFence C M) := by
  obtain ⟨f, fd, F, hm, hb⟩ := F
  refine ⟨f, fd, ?_, hm, hb⟩
  refine F.ok scFence (fun vs H Q E h => ?_) (fun cdv A outer s H vs Q E hr h => ?_)
  · obtain ⟨m, t, w, r, th, A, S, l, rfl, _⟩ := h
    rfl
  · obtain ⟨m, t, w, r, th, B, S, l, rfl, nok, D, hth, hns, hl, hne, k⟩ := h
    obtain ⟨dx, h1⟩ := D.ob
    have hu := hu_of hr
    have nd := scFence.nd
    refine ⟨_, pss_cons (ps_set (i := 2) nd rfl (Or.inl rfl) (pe_ix ix_list (pe_fld (pv 0) rfl) (pv 1) (fun _ _ => rfl)))
      (pss_cons (ps_asg pe_dnewK (pg_sub (pe_fld (pv 0) rfl) (pv 1) set_list))
      (pss_one (ps_lock (ps_for PassesOwn.never rfl (pi_items (pv 2)) (pg_tup (by rfl) (pgs_cons (pg_name (i := 3) nd rfl (Or.inl rfl)) (pgs_cons (pg_name (i := 4) nd rfl (Or.inl rfl)) pgs_nil)))
        (pss_one (ps_expr (pm_ GS TM.cl hr (pv 0) (pa_cons (pv 3) (pa_cons (pe_op op_sub (pv 4) (pe_dget hu (pe_fld (pv 0) rfl) (pv 3) (fun _ _ => rfl))) pa_nil))))))))), ?_⟩
    have hlen : th < B.na.length := by rw [D.nn]; exact hth
    obtain ⟨b, hbn⟩ : ∃ b, B.na[th]? = some b := ⟨B.na[th], List.getElem?_eq_getElem hlen⟩
    obtain ⟨ns, e1, hbd⟩ := D.no th b hbn
    rw [hns] at e1
    have e1 := (Option.some.inj e1).symm
    subst e1
    have hbm : b ∈ B.na := List.mem_of_getElem? hbn
    have hv : (B.na.map V.ref)[th]? = some (.ref b) := by rw [List.getElem?_map, hbn]; rfl
    refine ⟨_, rfl, m, M, dx, _, _, rfl, h1, TM.cl, TM.nN, rfl, _, rfl, B.nl, _, _, _, rfl, rfl, SqL.of D.nl, atI_nat hv, fun p hp => ?_⟩
    have s1 : Same H (upd H p (.dK [])) := fun c o e => by rw [upd_ne (ne_of_none e hp)]; exact e
    have hx : ixN (B.na.map V.ref).length (th : Int) = some th := by
      unfold ixN
      rw [List.length_map, if_pos (by omega), if_pos (by omega)]
      rfl
    refine ⟨_, rfl, m, M, dx, _, _, rfl, s1 _ _ h1, TM.cl, TM.nN, rfl, _, rfl, B.nl, _, _, th, rfl, rfl, s1 _ _ D.nl, hx, ?_⟩
    have D1 := D.newNotes hth s1 hp upd_same
    have esm : (B.na.map V.ref).set th (.ref p) = (B.na.set th p).map V.ref := by rw [List.map_set]
    rw [esm]
    generalize hA : ({ B with na := B.na.set th p } : Adr) = B1 at D1
    have hBa : B1.a = B.a := by rw [← hA]
    have pb : b ≠ p := ne_of_none hbd hp
    have hb1 : ∀ o, upd (upd H p (.dK [])) B.nl (.lst o) b = some (.dK (nkv t l)) := fun o => by
      rw [upd_ne (ne_of hbd D.nl (by intro z; cases z)), upd_ne pb]
      exact hbd
    have hst : Step m (t + w + r) B H B1 (upd (upd H p (.dK [])) B.nl (.lst ((B.na.set th p).map V.ref))) := by
      refine ⟨fun c o e hc => ?_, fun c hc => ?_⟩
      · rw [upd_ne (fun q => hc (by rw [q]; exact .inr (.inr (.inr (.inr (.inl rfl))))))]
        exact s1 c o e
      · rw [← hA] at hc
        rcases hc with q | q | q | q | q | q | q | q
        · exact .inl (.inl q)
        · exact .inl (.inr (.inl q))
        · exact .inl (.inr (.inr (.inl q)))
        · exact .inl (.inr (.inr (.inr (.inl q))))
        · exact .inl (.inr (.inr (.inr (.inr (.inl q)))))
        · exact .inl (.inr (.inr (.inr (.inr (.inr (.inl q))))))
        · exact .inl (.inr (.inr (.inr (.inr (.inr (.inr (.inl q)))))))
        · rcases List.mem_or_eq_of_mem_set (show c ∈ B.na.set th p from q) with q | q
          · exact .inl (.inr (.inr (.inr (.inr (.inr (.inr (.inr q)))))))
          · rw [q]
            exact .inr hp
    have nfb : ¬ Foot m B1 (t + w + r) b := by
      rw [← hA]
      intro hc
      rcases hc with q | q | q | q | q | q | ⟨j, hj, q⟩ | q
      · exact ne_of hbd h1 (by intro z; cases z) q
      · exact ne_of hbd D.ps (by intro z; cases z) q
      · exact (D.d4 b hbm).1 q
      · exact (D.d4 b hbm).2 q
      · exact ne_of hbd D.nl (by intro z; cases z) q
      · exact ne_of hbd D.gl (by intro z; cases z) q
      · exact ne_of hbd (D.tr.l j hj) (by intro z; cases z) q
      · have q : b ∈ B.na.set th p := q
        obtain ⟨x, hx⟩ := List.getElem?_of_mem q
        by_cases c : x = th
        · rw [c, List.getElem?_set_self hlen] at hx
          exact pb (Option.some.inj hx).symm
        · rw [List.getElem?_set_ne (fun z => c z.symm)] at hx
          exact c (nd_ix D.nd hx hbn)
    obtain ⟨da, hlay⟩ := D.lay
    have nba : b ≠ B1.a := by
      rw [hBa]
      exact ne_of hbd hlay (by intro z; cases z)
    generalize hH2 : upd (upd H p (.dK [])) B.nl (.lst ((B.na.set th p).map V.ref)) = H2 at D1 hst
    have hb2 : H2 b = some (.dK (nkv t l)) := by rw [← hH2]; exact hb1 _
    refine ⟨b, _, hb2, trivial, fun od => ?_⟩
    have D3 := D1.outer (H' := upd H2 b (.frz od (.dK (nkv t l)))) (b := b) (fun c o e h => by rw [upd_ne h]; exact e) nfb nba
    generalize hS1 : S.withNotes (S.notes.set th []) = S1 at D1 D3 k
    have hne1 : ∀ j, j < t + w + r → S1.tr j ≠ [] := by rw [← hS1]; exact hne
    refine ⟨_, rfl, b, od, nkv t l, rfl, upd_same, for_it walk_items (fun i σ H' => ∃ c p : Option V, σ = [some (.ref m), some (.int (th : Int)), some (.ref b), c, p] ∧ MemAt C M H' m t w r B1 (fenceS S1 (l.take i)) ∧ H' b = some (.frz od (.dK (nkv t l))) ∧ Step m (t + w + r) B1 (upd H2 b (.frz od (.dK (nkv t l)))) B1 H')
      ⟨_, _, rfl, D3, upd_same, Step.refl⟩ (fun i σ H' _ ⟨_, _, _, _, q, _⟩ => q) ?_ ?_⟩
    · rintro i x σ H3 H4 hi ⟨c, pl, rfl, D4, hb4, st⟩ ⟨T0, x1, x2, rfl, nT, rfl, ex1, ex2⟩
      have hil : i < l.length := by
        unfold nkv at hi
        rw [List.length_map] at hi
        exact hi
      have hli : l[i]? = some l[i] := List.getElem?_eq_getElem hil
      have eN : (nkv t l)[i]? = some ((Sum.inl ((1 + t + l[i].1 : Nat) : Int) : Key), V.int l[i].2) := by
        unfold nkv
        rw [List.getElem?_map, hli]
        rfl
      dsimp only at ex1 ex2
      rw [eN] at ex1 ex2
      have ex1 : V.int ((1 + t + l[i].1 : Nat) : Int) = x1 := Option.some.inj ex1
      have ex2 : V.int l[i].2 = x2 := Option.some.inj ex2
      subst ex1
      subst ex2
      have sT : Same H3 (upd H3 T0 (.tup [V.int ((1 + t + l[i].1 : Nat) : Int), V.int l[i].2])) := fun c o e => by rw [upd_ne (ne_of_none e nT)]; exact e
      have D5 := D4.same sT
      have hj : l[i].1 < t + w + r := hl _ (List.getElem_mem hil)
      obtain ⟨dx5, h5⟩ := D5.ob
      refine ⟨T0, _, rfl, SqT.of upd_same, rfl, _, _, rfl, _, _, rfl, rfl, ?_⟩
      have hg : DGet (upd H3 T0 (.tup [V.int ((1 + t + l[i].1 : Nat) : Int), V.int l[i].2])) B1.ld (.int ((1 + t + l[i].1 : Nat) : Int)) (some (.int ((fenceS S1 (l.take i)).lost l[i].1))) := by
        have := DGet.k (k := (Sum.inl ((1 + t + l[i].1 : Nat) : Int) : Key)) D5.ld
        rw [show ((1 + t + l[i].1 : Nat) : Int) = ((1 + t : Nat) : Int) + (l[i].1 : Int) by omega, kv_val _ _ _ _ hj, show ((1 + t : Nat) : Int) + (l[i].1 : Int) = ((1 + t + l[i].1 : Nat) : Int) by omega] at this
        exact this
      refine ⟨_, rfl, m, dx5, _, rfl, h5, rfl, _, rfl, _, rfl, _, rfl, m, M, dx5, _, _, rfl, h5, TM.cl, TM.nO, rfl, _, rfl, B1.ld, _, rfl, hg, _, _, rfl, rfl, m, t, w, r, l[i].1, B1, _, _, rfl, nok, D5, hj, fence_ne hne1 _ hj, fun H6 D6 st6 => ?_⟩
      refine ⟨_, _, rfl, ?_, ?_, (st.trans (Step.same sT)).trans st6⟩
      · rw [fenceS_take hli]
        exact D6
      · exact st6.chg _ _ (sT _ _ hb4) nfb
    · rintro σ H3 ⟨c, pl, rfl, D4, hb4, st⟩
      have el : l.take (nkv t l).length = l := by
        unfold nkv
        rw [List.length_map, List.take_length]
      rw [el] at D4
      refine ⟨hb4, ?_⟩
      refine k B1 _ hBa (D4.outer (b := b) (fun c o e h => by rw [upd_ne h]; exact e) nfb nba) ?_
      refine hst.trans ⟨fun c o e hc => ?_, fun c hc => .inl hc⟩
      by_cases q : c = b
      · subst q
        rw [upd_same, ← e]
        exact hb2.symm
      · rw [upd_ne q]
        refine st.chg c o ?_ hc
        rw [upd_ne q]
        exact e
end
end Dk

set_option maxHeartbeats 4000000
/-! an access -/
namespace Dk
open PySem PySem.Spec PyProof.Rows L2
abbrev sAccess : Stmt := inClass (top 25) 1
abbrev sResult : Stmt := inClass (top 25) 9
def putN (l : List (Nat × Int)) (j : Nat) (x : Int) : List (Nat × Int) := if (l.any fun p => decide (p.1 = j)) = true then l.map (fun p => if p.1 = j then (p.1, x) else p) else l ++ [(j, x)]
theorem putN_kv (t : Nat) (l : List (Nat × Int)) (j : Nat) (x : Int) : putK (nkv t l) (Sum.inl ((1 + t + j : Nat) : Int) : Key) (.int x) = nkv t (putN l j x) := by
  have ek : ∀ p : Nat × Int, ((Sum.inl ((1 + t + p.1 : Nat) : Int) : Key) = Sum.inl ((1 + t + j : Nat) : Int)) ↔ p.1 = j := fun p => ⟨fun e => by have := Sum.inl.inj e; omega, fun e => by rw [e]⟩
  have ea : ((nkv t l).any fun kv => decide (kv.1 = (Sum.inl ((1 + t + j : Nat) : Int) : Key))) = (l.any fun p => decide (p.1 = j)) := by
    unfold nkv
    rw [List.any_map]
    congr 1
    funext p
    exact decide_eq_decide.mpr (ek p)
  unfold putK putN
  rw [ea]
  by_cases c : (l.any fun p => decide (p.1 = j)) = true
  · rw [if_pos c, if_pos c]
    unfold nkv
    rw [List.map_map, List.map_map]
    refine List.map_congr_left fun p _ => ?_
    show (if (Sum.inl ((1 + t + p.1 : Nat) : Int) : Key) = Sum.inl ((1 + t + j : Nat) : Int) then _ else _) = _
    by_cases e : p.1 = j
    · rw [if_pos ((ek p).mpr e)]
      show _ = ((Sum.inl ((1 + t + (if p.1 = j then (p.1, x) else p).1 : Nat) : Int) : Key), V.int (if p.1 = j then (p.1, x) else p).2)
      rw [if_pos e]
    · rw [if_neg (fun q => e ((ek p).mp q))]
      show _ = ((Sum.inl ((1 + t + (if p.1 = j then (p.1, x) else p).1 : Nat) : Int) : Key), V.int (if p.1 = j then (p.1, x) else p).2)
      rw [if_neg e]
  · rw [if_neg c, if_neg c]
    unfold nkv
    rw [List.map_append]
    rfl
theorem putN_len (l : List (Nat × Int)) (j : Nat) (x : Int) : (putN l j x).length ≤ l.length + 1 := by
  unfold putN
  split
  · rw [List.length_map]; omega
  · rw [List.length_append, List.length_singleton]; omega
theorem putN_mem {l : List (Nat × Int)} {j n : Nat} {x : Int} (h : ∀ p, p ∈ l → p.1 < n) (hj : j < n) : ∀ p, p ∈ putN l j x → p.1 < n := by
  intro p hp
  unfold putN at hp
  split at hp
  · obtain ⟨q, hq, e⟩ := List.mem_map.mp hp
    split at e
    · rw [← e]; exact h q hq
    · rw [← e]; exact h q hq
  · rcases List.mem_append.mp hp with m | m
    · exact h p m
    · rw [List.mem_singleton.mp m]; exact hj
/-- what a memory's state keeps to -/
structure SOk (S : MS) (t n B : Nat) : Prop where
  psl : S.ps.length = 1 + t
  tne : ∀ j, j < n → S.tr j ≠ []
  tlen : ∀ j, j < n → (S.tr j).length ≤ B + 1
  nts : ∀ th, th < t → ∃ l, S.notes[th]? = some (nkv t l) ∧ (∀ p, p ∈ l → p.1 < n) ∧ l.length ≤ B
  log : S.log.length ≤ B
/-- what an access gives, and what the memory holds behind it -/
def Res (K : PySem.W.Frag) (S : MS) (t th : Nat) (H H' : Hp) : Rq → V → MS → Prop
  | .read i, v, S' => cellV S t i = some v ∧ S' = S
  | .write i x, v, S' => v = .non ∧ S' = S.give t i x
  | .swap i o n, v, S' => ∃ p tp to, cellV S t i = some p ∧ Dvl K H p tp ∧ Dvl K H o to ∧ ((tp = to ∧ v = .bl true ∧ S' = S.give t i n) ∨ (tp ≠ to ∧ v = .bl false ∧ S' = S))
  | .decide i x, v, S' => ∃ p tp, cellV S t i = some p ∧ Dvl K H p tp ∧ ((tp = .sc (.int 0) ∧ v = .bl true ∧ ∃ q, H' q = some (.tup [.str x, .int S.count]) ∧ S' = S.give t i (.ref q)) ∨ (tp ≠ .sc (.int 0) ∧ v = .bl false ∧ S' = S))
  | .flush i, v, S' => v = .non ∧ ∃ l, S.notes[th]? = some (nkv t l) ∧ S' = S.withNotes (S.notes.set th (nkv t (putN l (i - (1 + t)) (S.lost (i - (1 + t)) + ((S.tr (i - (1 + t))).length : Int) - 1))))
  | .fence, v, S' => v = .non ∧ ∃ l, S.notes[th]? = some (nkv t l) ∧ S' = fenceS (S.withNotes (S.notes.set th [])) l
/-- the present value where it is compared -/
def Rq.flatAt (K : PySem.W.Frag) (H : Hp) (S : MS) (t : Nat) : Rq → Prop
  | .swap i _ _ => ∃ p tp, cellV S t i = some p ∧ Dvl K H p tp
  | .decide i _ => ∃ p tp, cellV S t i = some p ∧ Dvl K H p tp
  | _ => True
theorem SOk.cell {S : MS} {t n B i : Nat} (h : SOk S t n B) (hi : i < 1 + t + n) : ∃ v, cellV S t i = some v := by
  unfold cellV
  by_cases c : i < 1 + t
  · rw [if_pos c]
    exact ⟨_, List.getElem?_eq_getElem (by rw [h.psl]; exact c)⟩
  · rw [if_neg c]
    have := h.tne (i - (1 + t)) (by omega)
    exact ⟨_, List.getLast?_eq_some_getLast this⟩
def spResult (K : PySem.W.Frag) (C M : Addr) : Sp := fun vs H Q _ => ∃ (m : Addr) (t w r th B : Nat) (A : Adr) (S : MS) (rq : Rq) (q : Addr), vs = [.ref m, .int (th : Int), .ref q] ∧ NOk t w r ∧ MemAt C M H m t w r A S ∧ th < t ∧ H q = some (.tup rq.vs) ∧ rq.ok t w r ∧ SOk S t (t + w + r) B ∧ B + 5 < sizeLine ∧ rq.vals K H ∧ rq.flatAt K H S t ∧
  ∀ (v : V) (A' : Adr) (S' : MS) (H' : Hp), A'.a = A.a → Res K S t th H H' rq v S' → MemAt C M H' m t w r A' S' → Step m (t + w + r) A H A' H' → Q v H'
section
variable {P : Program} {w : World} {K : PySem.W.Frag} {mg : Str → Option Value} {base : Heap} {C M NV LE : Addr}
abbrev NR : List Str := ["self", "thread", "request", "cell", "value", "old", "new", "word"]
theorem scResult : FnScope NR ["self", "thread", "request"] (defScope sResult) := ⟨rfl, rfl, rfl, by decide +kernel, rfl, by decide +kernel, by decide +kernel⟩
theorem mo_result (F : MT K M "_result" "Memory._result" sResult ["self", "thread", "request"]) (T : LTxt K mg C) (TM : MTxt K M) (GP : MO P w K mg base CX0 M 8 "peek" ["self", "cell"] (spPeek C M)) (GG : MO P w K mg base CX0 M 8 "_give" ["self", "cell", "value"] (spGive C M))
    (GI : MO P w K mg base CX0 M 9 "_give_if" ["self", "cell", "old", "new"] (spGiveIf K C M)) (GF : MO P w K mg base CX0 M 2 "_fence" ["self", "thread"] (spFence C M)) : MO P w K mg base CX0 M 10 "_result" ["self", "thread", "request"] (spResult K C M) := by
  obtain ⟨f, fd, F, hm, hb⟩ := F
  refine ⟨f, fd, ?_, hm, hb⟩
  refine F.ok scResult (fun vs H Q E h => ?_) (fun cdv A outer s H vs Q E hr h => ?_)
  · obtain ⟨m, t, w, r, th, B, A, S, rq, q, rfl, _⟩ := h
    rfl
  · obtain ⟨m, t, w, r, th, B, A0, S, rq, q, rfl, nok, D, hth, hq, ok, so, hB, vals, hfl, k⟩ := h
    obtain ⟨dx, h1⟩ := D.ob
    have hu := hu_of hr
    have nd := scResult.nd
    have hr8 : Room 8 _ := hr.mono (by decide)
    have hr2 : Room 2 _ := hr.mono (by decide)
    refine ⟨_, pss_cons (ps_match (pv 2)
        (pms_case (is := [3]) rfl nd (.cons rfl rfl .nil) (pss_one (ps_ret (pm_ GP TM.cl hr8 (pv 0) (pa_cons (pv 3) pa_nil))))
        (pms_case (is := [3, 4]) rfl nd (.cons rfl rfl (.cons rfl rfl .nil)) (pss_one (ps_expr (pm_ GG TM.cl hr8 (pv 0) (pa_cons (pv 3) (pa_cons (pv 4) pa_nil)))))
        (pms_case (is := [3, 5, 6]) rfl nd (.cons rfl rfl (.cons rfl rfl (.cons rfl rfl .nil))) (pss_one (ps_ret (pm_ GI TM.cl hr (pv 0) (pa_cons (pv 3) (pa_cons (pv 5) (pa_cons (pv 6) pa_nil))))))
        (pms_case (is := [3, 7]) rfl nd (.cons rfl rfl (.cons rfl rfl .nil)) (pss_one (ps_ret (pm_ GI TM.cl hr (pv 0) (pa_cons (pv 3) (pa_cons pe_int (pa_cons (pe_tup (pa_cons (pv 7) (pa_cons (pe_fld (pv 0) rfl) pa_nil))) pa_nil))))))
        (pms_case (is := [3]) rfl nd (.cons rfl rfl .nil) (pss_one (ps_dput hu (pe_ix ix_list (pe_fld (pv 0) rfl) (pv 1) (fun _ _ => rfl)) (pv 3)
          (pe_op op_sub (pe_op op_add (pe_dget hu (pe_fld (pv 0) rfl) (pv 3) (fun _ _ => rfl)) (pe_callB call_len_seq (by rfl) T.bn.len PySem.boot_len (pa_cons (pe_dget hu (pe_fld (pv 0) rfl) (pv 3) (fun _ _ => rfl)) pa_nil))) pe_int) rfl))
        (pms_case (is := []) rfl nd .nil (pss_one (ps_expr (pm_ GF TM.cl hr2 (pv 0) (pa_cons (pv 1) pa_nil)))) pms_nil)))))))
      (pss_one (ps_ret pe_non)), ?_⟩
    refine ⟨_, rfl, q, _, rfl, SqT.of hq, ?_⟩
    cases rq with
    | read i =>
      obtain ⟨v, hv⟩ := so.cell ok
      refine mhit rfl ?_
      exact ⟨_, rfl, m, dx, _, rfl, h1, rfl, _, rfl, m, t, w, r, i, A0, S, v, rfl, D, ok, hv, k v A0 S H rfl ⟨hv, rfl⟩ D Step.refl⟩
    | write i x =>
      have ok : i < 1 + t + (t + w + r) := ok
      refine mmiss (by decide +kernel) (mhit rfl ?_)
      refine ⟨_, rfl, m, dx, _, rfl, h1, rfl, _, rfl, _, rfl, m, t, w, r, i, A0, S, x, rfl, D, ok, fun c => by rw [so.psl]; exact c, fun c => by have := so.tlen (i - (1 + t)) (by omega); omega, fun H' D' s' => ?_⟩
      exact k .non A0 _ H' rfl ⟨rfl, rfl⟩ D' s'
    | swap i o n =>
      have ok : i < 1 + t + (t + w + r) := ok
      obtain ⟨⟨to, fo⟩, tn, fn⟩ := vals
      obtain ⟨p, tp, hp, fp⟩ := hfl
      refine mmiss (by decide +kernel) (mmiss (by decide +kernel) (mhit rfl ?_))
      refine ⟨_, rfl, m, dx, _, rfl, h1, rfl, _, rfl, _, rfl, _, rfl, m, t, w, r, i, A0, S, o, n, p, tp, to, rfl, D, ok, hp, fp, fo, fun c => by rw [so.psl]; exact c, fun c => by have := so.tlen (i - (1 + t)) (by omega); omega, fun e H' D' s' => ?_, fun e H' s' => ?_⟩
      · exact k _ A0 _ H' rfl ⟨p, tp, to, hp, fp, fo, .inl ⟨e, rfl, rfl⟩⟩ D' s'
      · exact k _ A0 _ H' rfl ⟨p, tp, to, hp, fp, fo, .inr ⟨e, rfl, rfl⟩⟩ (D.same s') (Step.same s')
    | decide i x =>
      have ok : i < 1 + t + (t + w + r) := ok
      obtain ⟨p, tp, hp, fp⟩ := hfl
      refine mmiss (by decide +kernel) (mmiss (by decide +kernel) (mmiss (by decide +kernel) (mhit rfl ?_)))
      refine ⟨_, rfl, m, dx, _, rfl, h1, rfl, _, rfl, _, rfl, _, rfl, m, M, dx, _, _, rfl, h1, TM.cl, TM.nC, rfl, (by show 2 ≤ sizeLine; decide), fun u hu' => ?_⟩
      have s1 : Same H (upd H u (.tup [V.str x, V.int S.count])) := fun b o e => by rw [upd_ne (ne_of_none e hu')]; exact e
      refine ⟨m, t, w, r, i, A0, S, .int 0, .ref u, p, tp, .sc (.int 0), rfl, D.same s1, ok, hp, fp.same s1, Dvl.int 0, fun c => by rw [so.psl]; exact c, fun c => by have := so.tlen (i - (1 + t)) (by omega); omega, fun e H' D' s' => ?_, fun e H' s' => ?_⟩
      · refine k _ A0 _ H' rfl ⟨p, tp, hp, fp, .inl ⟨e, rfl, u, ?_, rfl⟩⟩ D' ((Step.same s1).trans s')
        refine s'.chg _ _ upd_same fun hf => ?_
        rcases hf with q | q | q | q | q | q | ⟨j, hj, q⟩ | q
        · exact ne_of_none h1 hu' q.symm
        · exact ne_of_none D.ps hu' q.symm
        · exact ne_of_none D.tr.d hu' q.symm
        · exact ne_of_none D.ld hu' q.symm
        · exact ne_of_none D.nl hu' q.symm
        · exact ne_of_none D.gl hu' q.symm
        · exact ne_of_none (D.tr.l j hj) hu' q.symm
        · obtain ⟨z, hz⟩ := List.getElem?_of_mem q
          obtain ⟨ns, _, e2⟩ := D.no z u hz
          exact ne_of_none e2 hu' rfl
      · exact k _ A0 _ H' rfl ⟨p, tp, hp, fp, .inr ⟨e, rfl, rfl⟩⟩ ((D.same s1).same s') ((Step.same s1).trans (Step.same s'))
    | flush i =>
      obtain ⟨o1, o2⟩ := ok
      have hj : i - (1 + t) < t + w + r := by omega
      obtain ⟨l, hl, hl2, hl3⟩ := so.nts th hth
      have hlen : th < A0.na.length := by rw [D.nn]; exact hth
      obtain ⟨b, hbn⟩ : ∃ b, A0.na[th]? = some b := ⟨A0.na[th], List.getElem?_eq_getElem hlen⟩
      obtain ⟨ns, e1, hbd⟩ := D.no th b hbn
      rw [hl] at e1
      have e1 := (Option.some.inj e1).symm
      subst e1
      have hv : (A0.na.map V.ref)[th]? = some (.ref b) := by rw [List.getElem?_map, hbn]; rfl
      refine mmiss (by decide +kernel) (mmiss (by decide +kernel) (mmiss (by decide +kernel) (mmiss (by decide +kernel) (mhit rfl ?_))))
      have hg : DGet H A0.ld (.int (i : Int)) (some (.int (S.lost (i - (1 + t))))) := by
        have := DGet.k (k := (Sum.inl (i : Int) : Key)) D.ld
        rw [show (i : Int) = ((1 + t : Nat) : Int) + ((i - (1 + t) : Nat) : Int) by omega, kv_val _ _ _ _ hj, show ((1 + t : Nat) : Int) + ((i - (1 + t) : Nat) : Int) = (i : Int) by omega] at this
        exact this
      refine ⟨_, rfl, m, M, dx, _, _, rfl, h1, TM.cl, TM.nO, rfl, _, rfl, A0.ld, _, rfl, hg, _, rfl, m, M, dx, _, _, rfl, h1, TM.cl, TM.nT, rfl, _, rfl, A0.td, _, rfl, tr_get D o1 o2, A0.tl (i - (1 + t)), _, rfl, .inl (SqL.of (D.tr.l _ hj)), _, _, rfl, rfl, _, _, rfl, rfl, ?_⟩
      refine ⟨_, rfl, m, M, dx, _, _, rfl, h1, TM.cl, TM.nN, rfl, _, rfl, A0.nl, _, _, _, rfl, rfl, SqL.of D.nl, atI_nat hv, _, rfl, b, _, rfl, DPut.k (k := Sum.inl _) hbd (by unfold nkv; rw [List.length_map]; omega), ?_⟩
      have ek : (Sum.inl (i : Int) : Key) = Sum.inl ((1 + t + (i - (1 + t)) : Nat) : Int) := by rw [show 1 + t + (i - (1 + t)) = i by omega]
      rw [ek, putN_kv]
      exact k .non A0 _ _ rfl ⟨rfl, l, hl, rfl⟩ (D.setNotes hbn _) (Step.up (.inr (.inr (.inr (.inr (.inr (.inr (.inr (List.mem_of_getElem? hbn)))))))))
    | fence =>
      obtain ⟨l, hl, hl2, hl3⟩ := so.nts th hth
      refine mmiss (by decide +kernel) (mmiss (by decide +kernel) (mmiss (by decide +kernel) (mmiss (by decide +kernel) (mmiss (by decide +kernel) (mhit rfl ?_)))))
      refine ⟨_, rfl, m, dx, _, rfl, h1, rfl, _, rfl, m, t, w, r, th, A0, S, l, rfl, nok, D, hth, hl, hl2, so.tne, fun A' H' ea D' s' => ?_⟩
      exact k .non A' _ H' ea ⟨rfl, l, hl, rfl⟩ D' s'
end
end Dk

set_option maxHeartbeats 4000000
/-! access; drift -/
namespace Dk
open PySem PySem.Spec PyProof.Rows L2
theorem SOk.mono {S : MS} {t n B B' : Nat} (h : SOk S t n B) (hb : B ≤ B') : SOk S t n B' := ⟨h.psl, h.tne, fun j hj => by have := h.tlen j hj; omega, fun th hth => let ⟨l, a, b, c⟩ := h.nts th hth; ⟨l, a, b, by omega⟩, by have := h.log; omega⟩
theorem SOk.logged {S : MS} {t n B : Nat} {c : Int} {x : V} (h : SOk S t n B) : SOk ((S.withCount c).withLog (S.log ++ [x])) t n (B + 1) := by
  refine ⟨h.psl, h.tne, fun j hj => ?_, fun th hth => ?_, ?_⟩
  · have := h.tlen j hj
    show (S.tr j).length ≤ B + 1 + 1
    omega
  · obtain ⟨l, a, b, c⟩ := h.nts th hth
    exact ⟨l, a, b, by omega⟩
  · show (S.log ++ [x]).length ≤ B + 1
    rw [List.length_append, List.length_singleton]
    have := h.log
    omega
theorem SOk.give {S : MS} {t n B i : Nat} {v : V} (h : SOk S t n B) (hi : i < 1 + t + n) : SOk (S.give t i v) t n (B + 1) := by
  have h' := h.mono (Nat.le_succ B)
  unfold MS.give
  by_cases c : i < 1 + t
  · rw [if_pos c]
    refine ⟨?_, h.tne, h'.tlen, h'.nts, h'.log⟩
    show (S.ps.set i v).length = 1 + t
    rw [List.length_set, h.psl]
  · rw [if_neg c]
    refine ⟨h.psl, fun j hj => ?_, fun j hj => ?_, h'.nts, h'.log⟩
    · show sett S.tr (i - (1 + t)) (S.tr (i - (1 + t)) ++ [v]) j ≠ []
      by_cases e : j = i - (1 + t)
      · rw [e, sett_same]
        intro z
        have := congrArg List.length z
        rw [List.length_append, List.length_singleton, List.length_nil] at this
        omega
      · rw [sett_ne e]; exact h.tne j hj
    · show (sett S.tr (i - (1 + t)) (S.tr (i - (1 + t)) ++ [v]) j).length ≤ B + 1 + 1
      by_cases e : j = i - (1 + t)
      · rw [e, sett_same, List.length_append, List.length_singleton]
        have := h.tlen (i - (1 + t)) (by omega)
        omega
      · rw [sett_ne e]
        have := h.tlen j hj
        omega
theorem SOk.short {S : MS} {t n B j : Nat} {k : Int} (h : SOk S t n B) : SOk (S.short j k) t n B := by
  refine ⟨h.psl, short_ne h.tne, fun i hi => ?_, h.nts, h.log⟩
  show (sett S.tr j ((S.tr j).drop (cutN (S.tr j).length k)) i).length ≤ B + 1
  by_cases e : i = j
  · rw [e, sett_same, List.length_drop]
    have := h.tlen j (by omega)
    omega
  · rw [sett_ne e]; exact h.tlen i hi
theorem SOk.fence {t n B : Nat} : ∀ {l : List (Nat × Int)} {S : MS}, SOk S t n B → SOk (fenceS S l) t n B
  | [], _, h => h
  | p :: l, S, h => SOk.fence (l := l) (S := S.short p.1 (p.2 - S.lost p.1)) h.short
theorem SOk.notes {S : MS} {t n B th : Nat} {l : List (Nat × Int)} (h : SOk S t n B) (hl : ∀ p, p ∈ l → p.1 < n) (hb : l.length ≤ B) : SOk (S.withNotes (S.notes.set th (nkv t l))) t n B := by
  refine ⟨h.psl, h.tne, h.tlen, fun k hk => ?_, h.log⟩
  show ∃ l', (S.notes.set th (nkv t l))[k]? = some (nkv t l') ∧ _
  obtain ⟨l0, a, b, c⟩ := h.nts k hk
  by_cases e : k = th
  · subst e
    exact ⟨l, List.getElem?_set_self (List.getElem?_eq_some_iff.mp a).1, hl, hb⟩
  · exact ⟨l0, by rw [List.getElem?_set_ne (fun z => e z.symm)]; exact a, b, c⟩
theorem Res.ok {K : PySem.W.Frag} {S S' : MS} {t w r th B : Nat} {H H' : Hp} {rq : Rq} {v : V} (R : Res K S t th H H' rq v S') (ok : rq.ok t w r) (hth : th < t) (h : SOk S t (t + w + r) B) : SOk S' t (t + w + r) (B + 1) := by
  cases rq with
  | read i => obtain ⟨_, rfl⟩ := R; exact h.mono (Nat.le_succ B)
  | write i x => obtain ⟨_, rfl⟩ := R; exact h.give ok
  | swap i o n =>
    obtain ⟨p, _, _, _, _, _, ⟨_, _, rfl⟩ | ⟨_, _, rfl⟩⟩ := R
    · exact h.give ok
    · exact h.mono (Nat.le_succ B)
  | decide i x =>
    obtain ⟨p, _, _, _, ⟨_, _, q, _, rfl⟩ | ⟨_, _, rfl⟩⟩ := R
    · exact h.give ok
    · exact h.mono (Nat.le_succ B)
  | flush i =>
    obtain ⟨_, l, hl, rfl⟩ := R
    obtain ⟨o1, o2⟩ := ok
    obtain ⟨l0, a, b, c⟩ := h.nts th hth
    rw [hl] at a
    have e : l = l0 := by
      have e1 := Option.some.inj a
      have inj : ∀ (x y : List (Nat × Int)), nkv t x = nkv t y → x = y := fun x => by
        induction x with
        | nil => intro y e; cases y with | nil => rfl | cons _ _ => cases e
        | cons p x ih =>
          intro y e
          cases y with
          | nil => cases e
          | cons q y =>
            have e : ((Sum.inl ((1 + t + p.1 : Nat) : Int) : Key), V.int p.2) :: nkv t x = ((Sum.inl ((1 + t + q.1 : Nat) : Int) : Key), V.int q.2) :: nkv t y := e
            injection e with e1 e2
            have e3 := Sum.inl.inj (congrArg Prod.fst e1)
            have e4 := V.int.inj (congrArg Prod.snd e1)
            rw [ih y e2]
            have : p = q := Prod.ext (by omega) e4
            rw [this]
      exact inj _ _ e1
    subst e
    exact (h.mono (Nat.le_succ B)).notes (putN_mem b (by omega)) (by have := putN_len l (i - (1 + t)) (S.lost (i - (1 + t)) + ((S.tr (i - (1 + t))).length : Int) - 1); omega)
  | fence =>
    obtain ⟨_, l, hl, rfl⟩ := R
    exact SOk.fence ((h.mono (Nat.le_succ B)).notes (l := []) (fun p hp => by cases hp) (Nat.zero_le _))
theorem short_count {S : MS} {j : Nat} {k : Int} : (S.short j k).count = S.count ∧ (S.short j k).log = S.log := ⟨rfl, rfl⟩
theorem fence_count : ∀ {l : List (Nat × Int)} {S : MS}, (fenceS S l).count = S.count ∧ (fenceS S l).log = S.log
  | [], _ => ⟨rfl, rfl⟩
  | p :: l, S => fence_count (l := l) (S := S.short p.1 (p.2 - S.lost p.1))
theorem give_count {S : MS} {t i : Nat} {v : V} : (S.give t i v).count = S.count ∧ (S.give t i v).log = S.log := by
  unfold MS.give
  split <;> exact ⟨rfl, rfl⟩
theorem Res.count {K : PySem.W.Frag} {S S' : MS} {t th : Nat} {H H' : Hp} {rq : Rq} {v : V} (R : Res K S t th H H' rq v S') : S'.count = S.count ∧ S'.log = S.log := by
  cases rq with
  | read i => obtain ⟨_, rfl⟩ := R; exact ⟨rfl, rfl⟩
  | write i x => obtain ⟨_, rfl⟩ := R; exact give_count
  | swap i o n =>
    obtain ⟨p, _, _, _, _, _, ⟨_, _, rfl⟩ | ⟨_, _, rfl⟩⟩ := R
    · exact give_count
    · exact ⟨rfl, rfl⟩
  | decide i x =>
    obtain ⟨p, _, _, _, ⟨_, _, q, _, rfl⟩ | ⟨_, _, rfl⟩⟩ := R
    · exact give_count
    · exact ⟨rfl, rfl⟩
  | flush i => obtain ⟨_, l, hl, rfl⟩ := R; exact ⟨rfl, rfl⟩
  | fence => obtain ⟨_, l, hl, rfl⟩ := R; exact fence_count
theorem Res.ext {K : PySem.W.Frag} {S S' : MS} {t th : Nat} {H0 H H' H1 : Hp} {rq : Rq} {v : V} (R : Res K S t th H0 H rq v S') (s0 : ExT H0 H1) (s : ExT H H') : Res K S t th H1 H' rq v S' := by
  cases rq with
  | swap i o n =>
    obtain ⟨p, tp, to, h1, h2, h3, h4⟩ := R
    exact ⟨p, tp, to, h1, h2.ext s0, h3.ext s0, h4⟩
  | decide i x =>
    obtain ⟨p, tp, hp, h2, ⟨e1, e2, q, hq, e3⟩ | h⟩ := R
    · exact ⟨p, tp, hp, h2.ext s0, .inl ⟨e1, e2, q, s.1 _ _ hq, e3⟩⟩
    · exact ⟨p, tp, hp, h2.ext s0, .inr h⟩
  | _ => exact R
theorem flatAt_log {K : PySem.W.Frag} {H : Hp} {S : MS} {t : Nat} {c : Int} {l : List V} {rq : Rq} (h : rq.flatAt K H S t) : rq.flatAt K H ((S.withCount c).withLog l) t := by
  cases rq <;> exact h
theorem flatAt_ext {K : PySem.W.Frag} {H H' : Hp} {S : MS} {t : Nat} {rq : Rq} (h : rq.flatAt K H S t) (s : ExT H H') : rq.flatAt K H' S t := by
  cases rq with
  | swap i o n => exact let ⟨p, tp, h1, h2⟩ := h; ⟨p, tp, h1, h2.ext s⟩
  | decide i x => exact let ⟨p, tp, h1, h2⟩ := h; ⟨p, tp, h1, h2.ext s⟩
  | _ => exact h
theorem vals_ext {K : PySem.W.Frag} {H H' : Hp} {rq : Rq} (h : rq.vals K H) (s : ExT H H') : rq.vals K H' := by
  cases rq with
  | write i v => exact let ⟨t, h⟩ := h; ⟨t, h.ext s⟩
  | swap i o n => exact let ⟨⟨t, h⟩, u, h2⟩ := h; ⟨⟨t, h.ext s⟩, u, h2.ext s⟩
  | _ => trivial
theorem tup_out {C M : Addr} {H : Hp} {m : Addr} {t w r : Nat} {A : Adr} {S : MS} (D : MemAt C M H m t w r A S) {u : Addr} {xs : List V} (hu : H u = some (.tup xs)) : ¬ Foot m A (t + w + r) u := fun hf => by
  obtain ⟨dx, h1⟩ := D.ob
  rcases hf with q | q | q | q | q | q | ⟨j, hj, q⟩ | q
  · exact ne_of hu h1 (by intro z; cases z) q
  · exact ne_of hu D.ps (by intro z; cases z) q
  · exact ne_of hu D.tr.d (by intro z; cases z) q
  · exact ne_of hu D.ld (by intro z; cases z) q
  · exact ne_of hu D.nl (by intro z; cases z) q
  · exact ne_of hu D.gl (by intro z; cases z) q
  · exact ne_of hu (D.tr.l j hj) (by intro z; cases z) q
  · obtain ⟨z, hz⟩ := List.getElem?_of_mem q
    obtain ⟨ns, _, e2⟩ := D.no z u hz
    exact ne_of hu e2 (by intro z; cases z) rfl
theorem frz_out {C M : Addr} {H : Hp} {m : Addr} {t w r : Nat} {A : Adr} {S : MS} (D : MemAt C M H m t w r A S) {u : Addr} {o : Obj} {x : HO} (hu : H u = some (.frz o x)) : ¬ Foot m A (t + w + r) u := fun hf => by
  obtain ⟨dx, h1⟩ := D.ob
  rcases hf with q | q | q | q | q | q | ⟨j, hj, q⟩ | q
  · exact ne_of hu h1 (by intro z; cases z) q
  · exact ne_of hu D.ps (by intro z; cases z) q
  · exact ne_of hu D.tr.d (by intro z; cases z) q
  · exact ne_of hu D.ld (by intro z; cases z) q
  · exact ne_of hu D.nl (by intro z; cases z) q
  · exact ne_of hu D.gl (by intro z; cases z) q
  · exact ne_of hu (D.tr.l j hj) (by intro z; cases z) q
  · obtain ⟨z, hz⟩ := List.getElem?_of_mem q
    obtain ⟨ns, _, e2⟩ := D.no z u hz
    exact ne_of hu e2 (by intro z; cases z) rfl
theorem Step.ext {C M : Addr} {H H' : Hp} {m : Addr} {t w r : Nat} {A A' : Adr} {S : MS} (st : Step m (t + w + r) A H A' H') (D : MemAt C M H m t w r A S) : ExT H H' :=
  ⟨fun b xs e => st.chg b _ e (tup_out D e), fun b o xs e => st.chg b _ e (frz_out D e)⟩
/-- o.m(e, ..) of a method that may raise, where it doesn't -/
theorem pmX_ {X : Cx} {k : Nat} {C : Addr} {ps : List Str} {sp : Sp} {m : Str} {apos pos : Pos} {e o : Expr} {es : List Expr} {ta : TE} {t : TA} {pl : Sem Bool} (G : MO X.prog X.w X.K X.mg X.base (L2.CX X.prog X.w) C k m ps sp) (c : Cls X.K C) (hr : Room k X.A) (he : PE X o ta) (ha : PA X (e :: es) t)
    (hst : starEach (e :: es) X.env = (false, eval e X.env) :: starEach es X.env := by rfl) (hpl : (backTo pos (starEach es X.env)).any (·.1) = false := by rfl)
    (ht : eval (.Call (.Attribute o m apos) (e :: es) [] pos) X.env = (do
      let ov ← eval o X.env
      standAt apos.atName
      let (f, first) ← holding [ov] (getMethod ov m pl)
      callWith pos f first (backTo pos (starEach (e :: es) X.env)) (backToKw pos (keywordEach [] X.env))) := by rfl) : PE X (.Call (.Attribute o m apos) (e :: es) [] pos) (tMeth C m sp [] E0 ta t) := by
  obtain ⟨f, fd, F, hm, hb⟩ := G
  exact pe_meth he c hm F hr hb .nil passL ha hst hpl ht
def spAccess (K : PySem.W.Frag) (C M : Addr) : Sp := fun vs H Q _ => ∃ (m : Addr) (t w r th B : Nat) (A : Adr) (S : MS) (rq : Rq) (q : Addr), vs = [.ref m, .int (th : Int), .ref q] ∧ NOk t w r ∧ MemAt C M H m t w r A S ∧ th < t ∧ H q = some (.tup rq.vs) ∧ rq.ok t w r ∧ SOk S t (t + w + r) B ∧ B + 6 < sizeLine ∧ rq.vals K H ∧ rq.flatAt K H S t ∧
  ∀ (v x : V) (p : Addr) (A' : Adr) (S' : MS) (H' : Hp), A'.a = A.a → Res K ((S.withCount (S.count + 1)).withLog (S.log ++ [x])) t th H' H' rq v S' → H' p = some (.tup [v, .int (S.count + 1)]) → SOk S' t (t + w + r) (B + 2) → MemAt C M H' m t w r A' S' → Step m (t + w + r) A H A' H' → Q (.ref p) H'
section
variable {P : Program} {w : World} {K : PySem.W.Frag} {mg : Str → Option Value} {base : Heap} {C M NV LE : Addr}
theorem scAccess : FnScope ["self", "thread", "request"] ["self", "thread", "request"] (defScope sAccess) := ⟨rfl, rfl, rfl, by decide +kernel, rfl, by decide +kernel, by decide +kernel⟩
theorem mo_access (F : MT K M "access" "Memory.access" sAccess ["self", "thread", "request"]) (T : LTxt K mg C) (TM : MTxt K M) (GH : MO P w K mg base CX0 C 3 "has_thread" ["self", "thread"] (spHasT C)) (GA : GO P w K mg base CX0 8 "is_access" ["layout", "request"] (spIsAcc K C))
    (GR : MO P w K mg base CX0 M 10 "_result" ["self", "thread", "request"] (spResult K C M)) : MO P w K mg base CX0 M 11 "access" ["self", "thread", "request"] (spAccess K C M) := by
  obtain ⟨f, fd, F, hm, hb⟩ := F
  refine ⟨f, fd, ?_, hm, hb⟩
  refine F.ok scAccess (fun vs H Q E h => ?_) (fun cdv A outer s H vs Q E hr h => ?_)
  · obtain ⟨m, t, w, r, th, B, A, S, rq, q, rfl, _⟩ := h
    rfl
  · obtain ⟨m, t, w, r, th, B, A0, S, rq, q, rfl, nok, D, hth, hq, ok, so, hB, vals, hfl, k⟩ := h
    obtain ⟨dx, h1⟩ := D.ob
    obtain ⟨da, ha⟩ := D.lay
    have hr3 : Room 3 _ := hr.mono (by decide)
    have hr8 : Room 8 _ := hr.mono (by decide)
    refine ⟨_, pss_cons (ps_if (PW.pt (pw_or (pt_not (pt_val (pm_ GH T.cl hr3 (pe_fld (pv 0) rfl) (pa_cons (pv 1) pa_nil)))) (pw_or1 (pt_not (pt_val (pc_ GA hr8 (pa_cons (pe_fld (pv 0) rfl) (pa_cons (pv 2) pa_nil)))))))) (pss_one ps_never) pss_nil)
      (pss_cons (ps_fldaug (pv 0) pe_int in_add)
      (pss_cons (ps_expr (pe_bm PySem.F.plainAttrs_list PySem.F.slot_list_append PySem.F.type_list_append mt_append (pe_fld (pv 0) rfl) (pa_cons (pe_tup (pa_cons (pe_fld (pv 0) rfl) (pa_cons (pv 1) (pa_cons (pv 2) pa_nil)))) pa_nil)))
      (pss_one (ps_ret (pe_tup (pa_cons (pm_ GR TM.cl hr (pv 0) (pa_cons (pv 1) (pa_cons (pv 2) pa_nil))) (pa_cons (pe_fld (pv 0) rfl) pa_nil))))))), ?_⟩
    refine ⟨_, rfl, m, M, dx, _, _, rfl, h1, TM.cl, TM.nL, rfl, A0.a, da, _, rfl, ha, rfl, _, rfl, A0.a, t, w, r, _, "int", rfl, rfl, ⟨da, ha⟩, _, rfl, ?_⟩
    rw [inW_nat, decide_eq_true hth]
    refine iteF ?_
    refine ⟨_, rfl, m, M, dx, _, _, rfl, h1, TM.cl, TM.nL, rfl, _, rfl, A0.a, q, t, w, r, rq, rfl, ⟨da, ha⟩, hq, ok, vals, fun H1 s1 => ⟨_, rfl, iteF ?_⟩⟩
    have D1 := D.same s1
    -- self.count += 1
    refine ⟨_, rfl, m, M, dx, _, _, rfl, s1 _ _ h1, TM.cl, TM.nC, rfl, _, _, rfl, rfl, dx, _, s1 _ _ h1, (by show 7 < 1000; decide), ?_⟩
    have D2 : MemAt C M (upd H1 m (.ins M dx (putF "count" (.int (S.count + 1)) (mf A0 S.count)))) m t w r A0 (S.withCount (S.count + 1)) := D1.setCount (S.count + 1) dx
    have q2 : upd H1 m (.ins M dx (putF "count" (.int (S.count + 1)) (mf A0 S.count))) q = some (.tup rq.vs) := by
      rw [upd_ne (ne_of hq h1 (by intro z; cases z))]
      exact s1 _ _ hq
    have st2 : Step m (t + w + r) A0 H A0 (upd H1 m (.ins M dx (putF "count" (.int (S.count + 1)) (mf A0 S.count)))) := (Step.same s1).trans (Step.up (.inl rfl))
    generalize hH2 : upd H1 m (.ins M dx (putF "count" (.int (S.count + 1)) (mf A0 S.count))) = H2 at D2 q2 st2 ⊢
    obtain ⟨dx2, h2⟩ := D2.ob
    -- self._log.append(..)
    refine ⟨_, rfl, m, M, dx2, _, _, rfl, h2, TM.cl, TM.nG, rfl, .inl ⟨rfl, _, SqL.of D2.gl⟩, _, rfl, m, M, dx2, _, _, rfl, h2, TM.cl, TM.nC, rfl, _, rfl, _, rfl, (by show 3 ≤ sizeLine; decide), fun u hu => ?_⟩
    have s3 : Same H2 (upd H2 u (.tup [.int (S.count + 1), .int (th : Int), .ref q])) := fun b o e => by rw [upd_ne (ne_of_none e hu)]; exact e
    have D3 := D2.same s3
    refine ⟨A0.gl, _, _, rfl, rfl, D3.gl, (by have := so.log; show S.log.length < sizeLine; omega), ?_⟩
    have D4 := D3.setLog (S.log ++ [.ref u])
    have q4 : upd (upd H2 u (.tup [.int (S.count + 1), .int (th : Int), .ref q])) A0.gl (.lst (S.log ++ [.ref u])) q = some (.tup rq.vs) := by
      rw [upd_ne (ne_of (s3 _ _ q2) D3.gl (by intro z; cases z))]
      exact s3 _ _ q2
    have st4 : Step m (t + w + r) A0 H A0 (upd (upd H2 u (.tup [.int (S.count + 1), .int (th : Int), .ref q])) A0.gl (.lst (S.log ++ [.ref u]))) := (st2.trans (Step.same s3)).trans (Step.up (.inr (.inr (.inr (.inr (.inr (.inl rfl)))))))
    have D4 : MemAt C M (upd (upd H2 u (.tup [.int (S.count + 1), .int (th : Int), .ref q])) A0.gl (.lst (S.log ++ [.ref u]))) m t w r A0 ((S.withCount (S.count + 1)).withLog (S.log ++ [.ref u])) := D4
    have hgoal : ∀ H4, MemAt C M H4 m t w r A0 ((S.withCount (S.count + 1)).withLog (S.log ++ [.ref u])) → H4 q = some (.tup rq.vs) → Step m (t + w + r) A0 H A0 H4 → (tRet (tTup (tCons (tMeth M "_result" (spResult K C M) [] E0 (tVar 0) (tCons (tVar 1) (tCons (tVar 2) tNil))) (tCons (tFld K (tVar 0) "count") tNil)))) { nx := fun _ H' => Q .non H', rt := Q } [some (.ref m), some (.int (th : Int)), some (.ref q)] H4 := fun H4 D4 q4 st4 => by
      obtain ⟨dx4, h4⟩ := D4.ob
      refine ⟨_, rfl, m, dx4, _, rfl, h4, rfl, _, rfl, _, rfl, m, t, w, r, th, B + 1, A0, _, rq, q, rfl, nok, D4, hth, q4, ok, so.logged, by omega, vals_ext vals (st4.ext D), flatAt_ext (flatAt_log hfl) (st4.ext D), fun v A' S' H5 ea R D5 st5 => ?_⟩
      obtain ⟨dx5, h5⟩ := D5.ob
      obtain ⟨hc, hlg⟩ := R.count
      refine ⟨_, rfl, m, M, dx5, _, _, rfl, h5, TM.cl, TM.nC, rfl, (by show 2 ≤ sizeLine; decide), fun p hp => ?_⟩
      have s6 : Same H5 (upd H5 p (.tup [v, .int S'.count])) := fun b o e => by rw [upd_ne (ne_of_none e hp)]; exact e
      refine k v (.ref u) p A' S' _ ea (R.ext ((st5.ext D4).trans (.of s6)) (.of s6)) ?_ (R.ok ok hth so.logged) (D5.same s6) ((st4.trans st5).trans (Step.same s6))
      rw [hc]
      exact upd_same
    exact hgoal _ D4 q4 st4
end
end Dk

set_option maxHeartbeats 4000000
/-! machines -/
namespace Dk
open PySem PySem.Spec PyProof.Rows L2
abbrev sMaInit : Stmt := inClass (top 5) 0
abbrev sMaAsk : Stmt := inClass (top 5) 3
abbrev sMaEnd : Stmt := inClass (top 5) 4
abbrev sMaGo : Stmt := inClass (top 5) 5
/-- kept but at a -/
def Kept (a : Addr) (H H' : Hp) : Prop := ∀ b o, H b = some o → b ≠ a → H' b = some o
theorem up1 {H1 : Hp} {p : Addr} {o : HO} (hp : H1 p = none) : Same H1 (upd H1 p o) := fun b u e => by rw [upd_ne (ne_of_none e hp)]; exact e
theorem iteC {c : Bool} {A B : Prop} (hc : c = false) (h : B) : if c = true then A else B := by
  rw [hc]
  exact iteF h
theorem at_head {r0 : V} {rs : List V} : atI (r0 :: rs) 0 = some r0 := by
  unfold atI ixN
  rw [if_pos (by decide), if_pos (by rw [List.length_cons]; omega)]
  rfl
theorem seq_head {r0 : V} {rs : List V} : seqIndex? 0 (r0 :: rs).length = some 0 := seqIndex_of (by decide) (by rw [List.length_cons]; omega)
/-- what a machine has of its own class's base -/
structure MTx (K : PySem.W.Frag) (C : Addr) : Prop where
  cl : Cls K C
  nW : NoAttr K C "_wanted"
  nL : NoAttr K C "_left"
  nT : NoAttr K C "_then"
abbrev mfs (w : V) (l : Addr) (th : V) (rest : List (Str × V)) : List (Str × V) := ("_wanted", w) :: ("_left", .ref l) :: ("_then", th) :: rest
/-- a machine at a -/
structure MaAt (C : Addr) (H : Hp) (a dx : Addr) (w : V) (l : Addr) (th : V) (left : List V) (rest : List (Str × V)) : Prop where
  ob : H a = some (.ins C dx (mfs w l th rest))
  lf : H l = some (.lst left)
theorem MaAt.same {C : Addr} {H H' : Hp} {a dx : Addr} {w : V} {l : Addr} {th : V} {left : List V} {rest : List (Str × V)} (D : MaAt C H a dx w l th left rest) (s : Same H H') : MaAt C H' a dx w l th left rest := ⟨s _ _ D.ob, s _ _ D.lf⟩
def MD (P : Program) (w : World) (K : PySem.W.Frag) (mg : Str → Option Value) (base : Heap) (k : Nat) (C : Addr) (m : Str) (sp : Sp) : Prop := ∃ f, Meth K C m f ∧ FnR P w K mg base CX0 k f sp
theorem MO.md {P : Program} {w : World} {K : PySem.W.Frag} {mg : Str → Option Value} {base : Heap} {k : Nat} {C : Addr} {m : Str} {ps : List Str} {sp : Sp} (G : MO P w K mg base CX0 C k m ps sp) : MD P w K mg base k C m sp := by
  obtain ⟨f, fd, F, hm, hb⟩ := G
  exact ⟨f, hm, (F.raw hb .nil).imp fun vs H Q E h => by rw [List.append_nil]; exact h⟩
def spMaInit (C : Addr) : Sp := fun vs H Q _ => ∃ (a dx : Addr), vs = [.ref a] ∧ H a = some (.ins C dx []) ∧
  ∀ (H' : Hp) (e l : Addr), H e = none → H l = none → H' e = some (.tup [.str "end", .non]) → MaAt C H' a dx (.ref e) l .non [] [] → Kept a H H' → Q .non H'
def spMaAsk (C : Addr) : Sp := fun vs H Q _ => ∃ (a dx l rq : Addr) (w th th' : V) (left : List V) (rest : List (Str × V)) (r0 : V) (rs : List V), vs = [.ref a, .ref rq, th'] ∧ MaAt C H a dx w l th left rest ∧ rest.length < 900 ∧ H rq = some (.lst (r0 :: rs)) ∧
  ∀ (H' : Hp) (l' : Addr), H l' = none → MaAt C H' a dx r0 l' th' rs rest → Kept a H H' → Q .non H'
def spMaEnd (C : Addr) : Sp := fun vs H Q _ => ∃ (a dx l : Addr) (w th v : V) (left : List V) (rest : List (Str × V)), vs = [.ref a, v] ∧ MaAt C H a dx w l th left rest ∧ rest.length < 900 ∧
  ∀ (H' : Hp) (e : Addr), H e = none → H' e = some (.tup [.str "end", v]) → MaAt C H' a dx (.ref e) l th left rest → Kept a H H' → Q .non H'
def spReq (C : Addr) : Sp := fun vs H Q _ => ∃ (a dx l : Addr) (w th : V) (left : List V) (rest : List (Str × V)), vs = [.ref a] ∧ MaAt C H a dx w l th left rest ∧ Q w H
def spGo (P : Program) (W : World) (K : PySem.W.Frag) (mg : Str → Option Value) (base : Heap) (k : Nat) (C : Addr) : Sp := fun vs H Q _ => ∃ (a dx l : Addr) (w th res : V) (left : List V) (rest : List (Str × V)), vs = [.ref a, res] ∧ MaAt C H a dx w l th left rest ∧ rest.length < 900 ∧
  ((∃ r0 rs, left = r0 :: rs ∧ ∀ H', MaAt C H' a dx r0 l th rs rest → (∀ b o, H b = some o → b ≠ a → b ≠ l → H' b = some o) → Q .non H') ∨
   (left = [] ∧ ∃ q g sp, th = .ref q ∧ H q = some (.met g a) ∧ PySem.W.fnIn K g = true ∧ FnR P W K mg base CX0 k g sp ∧ sp [.ref a, res] H (fun _ H' => Q .non H') E0))
section
variable {P : Program} {w : World} {K : PySem.W.Frag} {mg : Str → Option Value} {base : Heap} {C M NV LE : Addr}
theorem scMaInit : FnScope ["self"] ["self"] (defScope sMaInit) := ⟨rfl, rfl, rfl, by decide +kernel, rfl, by decide +kernel, by decide +kernel⟩
theorem ok_mainit {f : Addr} {fd : FuncData} (F : Fun K "__init__" "Machine.__init__" sMaInit f fd) (TC : MTx K C) : FnOk P w K mg base CX0 1 f fd ["self"] (spMaInit C) := by
  refine F.ok scMaInit (fun vs H Q E h => ?_) (fun cdv A outer s H vs Q E hr h => ?_)
  · obtain ⟨a, dx, rfl, _⟩ := h
    rfl
  · obtain ⟨a, dx, rfl, ha, k⟩ := h
    refine ⟨_, (pss_cons (ps_fld (pv 0) (pe_tup (pa_cons pe_str (pa_cons pe_non pa_nil))) rfl)
  (pss_cons (ps_fld (pv 0) (pe_lst pa_nil) rfl)
  (pss_one (ps_fld (pv 0) pe_non rfl)))), ?_⟩
    refine ⟨(by show 2 ≤ sizeLine; decide), fun e he => ⟨_, rfl, a, C, dx, [], rfl, up1 he _ _ ha, TC.cl, TC.nW, (by show 0 < 1000; decide), ?_⟩⟩
    have e_a : e ≠ a := (ne_of_none ha he).symm
    have k1 : Kept a H (upd (upd H e (.tup [.str "end", .non])) a (.ins C dx (putF "_wanted" (.ref e) []))) := fun b o q n => by rw [upd_ne n]; exact up1 he _ _ q
    have e1 : upd (upd H e (.tup [.str "end", .non])) a (.ins C dx (putF "_wanted" (.ref e) [])) e = some (.tup [.str "end", .non]) := by rw [upd_ne e_a]; exact upd_same
    have a1 : upd (upd H e (.tup [.str "end", .non])) a (.ins C dx (putF "_wanted" (.ref e) [])) a = some (.ins C dx [("_wanted", .ref e)]) := upd_same
    generalize upd (upd H e (.tup [.str "end", .non])) a (.ins C dx (putF "_wanted" (.ref e) [])) = H1 at k1 e1 a1 ⊢
    refine ⟨(by show 0 ≤ sizeLine; exact Nat.zero_le _), fun l hl => ⟨_, rfl, a, C, dx, _, rfl, up1 hl _ _ a1, TC.cl, TC.nL, (by show 1 < 1000; decide), ?_⟩⟩
    have l_a : l ≠ a := (ne_of_none a1 hl).symm
    have l_e : l ≠ e := (ne_of_none e1 hl).symm
    have lH : H l = none := by
      cases q : H l with
      | none => rfl
      | some o =>
        have := k1 l o q l_a
        rw [hl] at this
        cases this
    refine ⟨_, rfl, a, C, dx, _, rfl, upd_same, TC.cl, TC.nT, (by show 2 < 1000; decide), ?_⟩
    refine k _ e l he lH ?_ ⟨upd_same, ?_⟩ fun b o q n => ?_
    · rw [upd_ne e_a, upd_ne e_a, upd_ne l_e.symm]; exact e1
    · rw [upd_ne l_a, upd_ne l_a]; exact upd_same
    · rw [upd_ne n, upd_ne n]; exact up1 hl _ _ (k1 b o q n)
theorem scMaAsk : FnScope ["self", "requests", "then"] ["self", "requests", "then"] (defScope sMaAsk) := ⟨rfl, rfl, rfl, by decide +kernel, rfl, by decide +kernel, by decide +kernel⟩
theorem mo_maask (F : MT K C "_ask" "Machine._ask" sMaAsk ["self", "requests", "then"]) (TC : MTx K C) : MO P w K mg base CX0 C 1 "_ask" ["self", "requests", "then"] (spMaAsk C) := by
  obtain ⟨f, fd, F, hm, hb⟩ := F
  refine ⟨f, fd, ?_, hm, hb⟩
  refine F.ok scMaAsk (fun vs H Q E h => ?_) (fun cdv A outer s H vs Q E hr h => ?_)
  · obtain ⟨a, dx, l, rq, w, th, th', left, rest, r0, rs, rfl, _⟩ := h
    rfl
  · obtain ⟨a, dx, l, rq, w, th, th', left, rest, r0, rs, rfl, D, hz, hrq, k⟩ := h
    refine ⟨_, (pss_cons (ps_fld (pv 0) (pe_ix ix_list (pv 1) pe_int (fun _ _ => rfl)) rfl)
  (pss_cons (ps_fld (pv 0) (pe_slice sl_list (pv 1) (po_some pe_int) po_none) rfl)
  (pss_one (ps_fld (pv 0) (pv 2) rfl)))), ?_⟩
    have ha := D.ob
    have rq_a : rq ≠ a := ne_of hrq ha (by intro z; cases z)
    refine ⟨_, rfl, rq, _, 0, r0, rfl, rfl, SqL.of hrq, at_head, _, rfl, a, C, dx, _, rfl, ha, TC.cl, TC.nW, (by show rest.length + 3 < 1000; omega), ?_⟩
    have q1 : upd H a (.ins C dx (mfs r0 l th rest)) rq = some (.lst (r0 :: rs)) := by rw [upd_ne rq_a]; exact hrq
    refine ⟨_, rfl, _, rfl, rq, _, rfl, SqL.of q1, fun l' hl' => ?_⟩
    have ec : cutV (r0 :: rs) (some 1) none = rs := by
      unfold cutV
      rw [HT.sIx_none, show (1 : Int) = ((1 : Nat) : Int) from rfl, HT.sIx_nat, show min 1 (r0 :: rs).length = 1 by simp]
      exact List.take_of_length_le (by simp)
    rw [ec]
    have l_a : l' ≠ a := (ne_of_none (upd_same (H := H) (a := a) (o := .ins C dx (mfs r0 l th rest))) hl').symm
    have lH : H l' = none := by
      have := hl'
      rw [upd_ne l_a] at this
      exact this
    refine ⟨_, rfl, a, C, dx, _, rfl, up1 hl' _ _ upd_same, TC.cl, TC.nL, (by show rest.length + 3 < 1000; omega), ?_⟩
    refine ⟨_, rfl, _, rfl, a, C, dx, _, rfl, upd_same, TC.cl, TC.nT, (by show rest.length + 3 < 1000; omega), ?_⟩
    refine k _ l' lH ⟨upd_same, ?_⟩ fun b o q n => ?_
    · rw [upd_ne l_a, upd_ne l_a]; exact upd_same
    · rw [upd_ne n, upd_ne n]
      exact up1 hl' _ _ (by rw [upd_ne n]; exact q)
theorem scMaEnd : FnScope ["self", "value"] ["self", "value"] (defScope sMaEnd) := ⟨rfl, rfl, rfl, by decide +kernel, rfl, by decide +kernel, by decide +kernel⟩
theorem mo_maend (F : MT K C "_end" "Machine._end" sMaEnd ["self", "value"]) (TC : MTx K C) : MO P w K mg base CX0 C 1 "_end" ["self", "value"] (spMaEnd C) := by
  obtain ⟨f, fd, F, hm, hb⟩ := F
  refine ⟨f, fd, ?_, hm, hb⟩
  refine F.ok scMaEnd (fun vs H Q E h => ?_) (fun cdv A outer s H vs Q E hr h => ?_)
  · obtain ⟨a, dx, l, w, th, v, left, rest, rfl, _⟩ := h
    rfl
  · obtain ⟨a, dx, l, w, th, v, left, rest, rfl, D, hz, k⟩ := h
    refine ⟨_, (pss_one (ps_fld (pv 0) (pe_tup (pa_cons pe_str (pa_cons (pv 1) pa_nil))) rfl)), ?_⟩
    have ha := D.ob
    refine ⟨_, rfl, (by show 2 ≤ sizeLine; decide), fun e he => ⟨_, rfl, a, C, dx, _, rfl, up1 he _ _ ha, TC.cl, TC.nW, (by show rest.length + 3 < 1000; omega), ?_⟩⟩
    refine k _ e he ?_ ⟨upd_same, ?_⟩ fun b o q n => ?_
    · rw [upd_ne (ne_of_none ha he).symm]; exact upd_same
    · rw [upd_ne (ne_of D.lf ha (by intro z; cases z))]; exact up1 he _ _ D.lf
    · rw [upd_ne n]; exact up1 he _ _ q
theorem scMaGo : FnScope ["self", "result", "then"] ["self", "result"] (defScope sMaGo) := ⟨rfl, rfl, rfl, by decide +kernel, rfl, by decide +kernel, by decide +kernel⟩
theorem mo_mago {k : Nat} (F : MT K C "_go_on" "Machine._go_on" sMaGo ["self", "result"]) (TC : MTx K C) : MO P w K mg base CX0 C (k + 1) "_go_on" ["self", "result"] (spGo P w K mg base k C) := by
  obtain ⟨f, fd, F, hm, hb⟩ := F
  refine ⟨f, fd, ?_, hm, hb⟩
  refine F.ok scMaGo (fun vs H Q E h => ?_) (fun cdv A outer s H vs Q E hr h => ?_)
  · obtain ⟨a, dx, l, w, th, res, left, rest, rfl, _⟩ := h
    rfl
  · obtain ⟨a, dx, l, w, th, res, left, rest, rfl, D, hz, hc⟩ := h
    have nd := scMaGo.nd
    have hrT : Room k _ := hr
    refine ⟨_, (pss_one (ps_if (pt_truth (pe_fld (pv 0) rfl) (by intro _; rfl))
  (pss_one (ps_fld (pv 0) (pe_bm PySem.F.plainAttrs_list PySem.F.slot_list_pop PySem.F.type_list_pop mt_popAt (pe_fld (pv 0) rfl) (pa_cons pe_int pa_nil)) rfl))
  (pss_cons (ps_set (i := 2) nd rfl (Or.inl rfl) (pe_fld (pv 0) rfl))
  (pss_one (ps_expr (Mr.pe_cm (pv 2) hrT (pa_cons (pv 1) pa_nil))))))), ?_⟩
    have ha := D.ob
    have l_a : l ≠ a := ne_of D.lf ha (by intro z; cases z)
    rcases hc with ⟨r0, rs, rfl, k1⟩ | ⟨rfl, q, g, sp, rfl, hq, fi, FR, hsp⟩
    · refine ⟨_, rfl, a, C, dx, _, _, rfl, ha, TC.cl, TC.nL, rfl, true, .inl ⟨_, SqL.of D.lf, rfl⟩, iteT ?_⟩
      refine ⟨_, rfl, a, C, dx, _, _, rfl, ha, TC.cl, TC.nL, rfl, .inl ⟨rfl, _, SqL.of D.lf⟩, l, _, 0, 0, r0, rfl, rfl, D.lf, by decide, by decide, seq_head, rfl, ?_⟩
      refine ⟨_, rfl, a, C, dx, _, rfl, (by rw [upd_ne l_a.symm]; exact ha), TC.cl, TC.nW, (by show rest.length + 3 < 1000; omega), ?_⟩
      refine k1 _ ⟨upd_same, ?_⟩ fun b o q n n2 => ?_
      · rw [upd_ne l_a]; exact upd_same
      · rw [upd_ne n, upd_ne n2]; exact q
    · refine ⟨_, rfl, a, C, dx, _, _, rfl, ha, TC.cl, TC.nL, rfl, false, .inl ⟨_, SqL.of D.lf, rfl⟩, iteF ?_⟩
      refine ⟨_, rfl, a, C, dx, _, _, rfl, ha, TC.cl, TC.nT, rfl, ?_⟩
      exact ⟨_, rfl, q, g, a, sp, rfl, fi, FR, _, rfl, hq, hsp⟩
end
end Dk

set_option maxHeartbeats 4000000
/-! the stack of a thread, with one machine -/
namespace Dk
open PySem PySem.Spec PyProof.Rows L2
abbrev sKInit : Stmt := inClass (top 6) 0
abbrev sKStep : Stmt := inClass (top 6) 1
abbrev sKEnded : Stmt := inClass (top 6) 2
abbrev sKValue : Stmt := inClass (top 6) 3
abbrev sKCheck : Stmt := inClass (top 6) 4
abbrev sKSettle : Stmt := inClass (top 6) 5
abbrev sKEnd : Stmt := inClass (top 6) 6
structure KTx (K : PySem.W.Frag) (S : Addr) : Prop where
  cl : Cls K S
  nM : NoAttr K S "_machines"
  nV : NoAttr K S "_value"
structure StkAt (S : Addr) (H : Hp) (k dx ml : Addr) (ms : List Addr) (v : V) : Prop where
  ob : H k = some (.ins S dx [("_machines", .ref ml), ("_value", v)])
  l : H ml = some (.lst (ms.map V.ref))
theorem StkAt.same {S : Addr} {H H' : Hp} {k dx ml : Addr} {ms : List Addr} {v : V} (D : StkAt S H k dx ml ms v) (s : Same H H') : StkAt S H' k dx ml ms v := ⟨s _ _ D.ob, s _ _ D.l⟩
def Kept2 (a c : Addr) (H H' : Hp) : Prop := ∀ b o, H b = some o → b ≠ a → b ≠ c → H' b = some o
theorem head_vs (rq : Rq) : ∃ s rest, rq.vs = .str s :: rest ∧ s ≠ "end" ∧ s ≠ "call" := by
  cases rq <;> exact ⟨_, _, rfl, by decide +kernel, by decide +kernel⟩
/-- a machine that can be asked -/
structure Mach (P : Program) (W : World) (K : PySem.W.Frag) (mg : Str → Option Value) (base : Heap) (CM : Addr) (H : Hp) (a dx : Addr) (w : V) (l : Addr) (th : V) (left : List V) (rest : List (Str × V)) : Prop where
  m : MaAt CM H a dx w l th left rest
  cl : Cls K CM
  rq : MD P W K mg base 1 CM "request" (spReq CM)
  n1 : rest.lookup ("request" : Str) = none
  n2 : rest.lookup ("accept" : Str) = none
  n : rest.length < 900
def spKInit (S : Addr) : Sp := fun vs H Q _ => ∃ (k dx a : Addr), vs = [.ref k, .ref a] ∧ H k = some (.ins S dx []) ∧ ∀ (H' : Hp) (ml : Addr), H ml = none → StkAt S H' k dx ml [a] .non → Kept k H H' → Q .non H'
def spKEnded (S : Addr) : Sp := fun vs H Q _ => ∃ (k dx ml : Addr) (ms : List Addr) (v : V), vs = [.ref k] ∧ StkAt S H k dx ml ms v ∧ Q (.bl ms.isEmpty) H
def spKValue (S : Addr) : Sp := fun vs H Q _ => ∃ (k dx ml : Addr) (ms : List Addr) (v : V), vs = [.ref k] ∧ StkAt S H k dx ml ms v ∧ Q v H
def spKEnd (S : Addr) : Sp := fun vs H Q _ => ∃ (k dx ml a : Addr) (v x : V), vs = [.ref k, x] ∧ StkAt S H k dx ml [a] v ∧ ∀ H', StkAt S H' k dx ml [] x → Kept2 k ml H H' → Q .non H'
def spKSettle (P : Program) (W : World) (K : PySem.W.Frag) (mg : Str → Option Value) (base : Heap) (S : Addr) : Sp := fun vs H Q _ => ∃ (k dx ml : Addr) (ms : List Addr) (v : V), vs = [.ref k] ∧ StkAt S H k dx ml ms v ∧
  ((ms = [] ∧ Q .non H) ∨
   (∃ (a CM dxm q l : Addr) (th : V) (left : List V) (rest : List (Str × V)) (rq : Rq), ms = [a] ∧ Mach P W K mg base CM H a dxm (.ref q) l th left rest ∧ H q = some (.tup rq.vs) ∧ Q .non H) ∨
   (∃ (a CM dxm q l : Addr) (th : V) (left : List V) (rest : List (Str × V)) (x : V), ms = [a] ∧ Mach P W K mg base CM H a dxm (.ref q) l th left rest ∧ H q = some (.tup [.str "end", x]) ∧ ∀ H', StkAt S H' k dx ml [] x → Kept2 k ml H H' → Q .non H'))
def spKCheck (P : Program) (W : World) (K : PySem.W.Frag) (mg : Str → Option Value) (base : Heap) (S C M : Addr) : Sp := fun vs H Q _ => ∃ (k dx ml m : Addr) (ms : List Addr) (v : V) (t w r th : Nat) (A : Adr) (X : MS), vs = [.ref k, .ref m, .int (th : Int)] ∧ StkAt S H k dx ml ms v ∧ MemAt C M H m t w r A X ∧ th < t ∧
  (ms = [] ∨ ∃ (a CM dxm q l : Addr) (th : V) (left : List V) (rest : List (Str × V)) (rq : Rq), ms = [a] ∧ Mach P W K mg base CM H a dxm (.ref q) l th left rest ∧ H q = some (.tup rq.vs)) ∧ Q .non H
/-- behind an accept -/
def Behind (P : Program) (W : World) (K : PySem.W.Frag) (mg : Str → Option Value) (base : Heap) (S : Addr) (k dx ml a CM dxm : Addr) (v : V) (H : Hp) (Q : VK) : Prop := StkAt S H k dx ml [a] v ∧
  ((∃ (q l : Addr) (th : V) (left : List V) (rest : List (Str × V)) (rq : Rq), Mach P W K mg base CM H a dxm (.ref q) l th left rest ∧ H q = some (.tup rq.vs) ∧ Q (.bl true) H) ∨
   (∃ (q l : Addr) (th : V) (left : List V) (rest : List (Str × V)) (x : V), Mach P W K mg base CM H a dxm (.ref q) l th left rest ∧ H q = some (.tup [.str "end", x]) ∧ ∀ H', StkAt S H' k dx ml [] x → Kept2 k ml H H' → Q (.bl true) H'))
def spKStep (P : Program) (W : World) (K : PySem.W.Frag) (mg : Str → Option Value) (base : Heap) (ka : Nat) (S C M : Addr) : Sp := fun vs H Q _ => ∃ (k dx ml m : Addr) (ms : List Addr) (v0 : V) (t w r th B : Nat) (A : Adr) (X : MS), vs = [.ref k, .ref m, .int (th : Int)] ∧ StkAt S H k dx ml ms v0 ∧ NOk t w r ∧ MemAt C M H m t w r A X ∧ th < t ∧ SOk X t (t + w + r) B ∧ B + 6 < sizeLine ∧
  ((ms = [] ∧ Q (.bl false) H) ∨
   (∃ (a CM dxm q l fa : Addr) (th' : V) (left : List V) (rest : List (Str × V)) (rq : Rq) (spa : Sp), ms = [a] ∧ Mach P W K mg base CM H a dxm (.ref q) l th' left rest ∧ H q = some (.tup rq.vs) ∧ rq.ok t w r ∧ rq.vals K H ∧ rq.flatAt K H X t ∧ Meth K CM "accept" fa ∧ FnR P W K mg base CX0 ka fa spa ∧
     ∀ (v x : V) (p : Addr) (A' : Adr) (X' : MS) (H1 : Hp), A'.a = A.a → Res K ((X.withCount (X.count + 1)).withLog (X.log ++ [x])) t th H1 H1 rq v X' → H1 p = some (.tup [v, .int (X.count + 1)]) → SOk X' t (t + w + r) (B + 2) → MemAt C M H1 m t w r A' X' → Step m (t + w + r) A H A' H1 →
       ∀ Q' : VK, (∀ u H2, Behind P W K mg base S k dx ml a CM dxm v0 H2 Q → Q' u H2) → spa [.ref a, .ref p] H1 Q' E0))
section
variable {P : Program} {w : World} {K : PySem.W.Frag} {mg : Str → Option Value} {base : Heap} {C M NV LE S : Addr}
theorem scKInit : FnScope ["self", "machine"] ["self", "machine"] (defScope sKInit) := ⟨rfl, rfl, rfl, by decide +kernel, rfl, by decide +kernel, by decide +kernel⟩
theorem ok_kinit {f : Addr} {fd : FuncData} (F : Fun K "__init__" "Stack.__init__" sKInit f fd) (TK : KTx K S) : FnOk P w K mg base CX0 1 f fd ["self", "machine"] (spKInit S) := by
  refine F.ok scKInit (fun vs H Q E h => ?_) (fun cdv A outer s H vs Q E hr h => ?_)
  · obtain ⟨k, dx, a, rfl, _⟩ := h
    rfl
  · obtain ⟨k, dx, a, rfl, hk, kQ⟩ := h
    refine ⟨_, (pss_cons (ps_fld (pv 0) (pe_lst (pa_cons (pv 1) pa_nil)) rfl)
  (pss_one (ps_fld (pv 0) pe_non rfl))), ?_⟩
    refine ⟨_, rfl, (by show 1 ≤ sizeLine; decide), fun ml hml => ⟨_, rfl, k, S, dx, [], rfl, up1 hml _ _ hk, TK.cl, TK.nM, (by show 0 < 1000; decide), ?_⟩⟩
    refine ⟨_, rfl, k, S, dx, _, rfl, upd_same, TK.cl, TK.nV, (by show 1 < 1000; decide), ?_⟩
    have ml_k : ml ≠ k := (ne_of_none hk hml).symm
    refine kQ _ ml hml ⟨upd_same, ?_⟩ fun b o q n => ?_
    · rw [upd_ne ml_k, upd_ne ml_k]; exact upd_same
    · rw [upd_ne n, upd_ne n]; exact up1 hml _ _ q
theorem scKEnded : FnScope ["self"] ["self"] (defScope sKEnded) := ⟨rfl, rfl, rfl, by decide +kernel, rfl, by decide +kernel, by decide +kernel⟩
theorem mo_kended (F : MT K S "ended" "Stack.ended" sKEnded ["self"]) (TK : KTx K S) : MO P w K mg base CX0 S 1 "ended" ["self"] (spKEnded S) := by
  obtain ⟨f, fd, F, hm, hb⟩ := F
  refine ⟨f, fd, ?_, hm, hb⟩
  refine F.ok scKEnded (fun vs H Q E h => ?_) (fun cdv A outer s H vs Q E hr h => ?_)
  · obtain ⟨k, dx, ml, ms, v, rfl, _⟩ := h
    rfl
  · obtain ⟨k, dx, ml, ms, v, rfl, D, kQ⟩ := h
    refine ⟨_, pss_one (ps_ret (pe_notT (pe_fld (pv 0) rfl))), ?_⟩
    refine ⟨_, rfl, k, S, dx, _, _, rfl, D.ob, TK.cl, TK.nM, rfl, !(ms.map V.ref).isEmpty, .inl ⟨_, SqL.of D.l, rfl⟩, ?_⟩
    have e : (!!(ms.map V.ref).isEmpty) = ms.isEmpty := by cases ms <;> rfl
    rw [e]
    exact kQ
theorem scKValue : FnScope ["self"] ["self"] (defScope sKValue) := ⟨rfl, rfl, rfl, by decide +kernel, rfl, by decide +kernel, by decide +kernel⟩
theorem mo_kvalue (F : MT K S "value" "Stack.value" sKValue ["self"]) (TK : KTx K S) : MO P w K mg base CX0 S 1 "value" ["self"] (spKValue S) := by
  obtain ⟨f, fd, F, hm, hb⟩ := F
  refine ⟨f, fd, ?_, hm, hb⟩
  refine F.ok scKValue (fun vs H Q E h => ?_) (fun cdv A outer s H vs Q E hr h => ?_)
  · obtain ⟨k, dx, ml, ms, v, rfl, _⟩ := h
    rfl
  · obtain ⟨k, dx, ml, ms, v, rfl, D, kQ⟩ := h
    refine ⟨_, pss_one (ps_ret (pe_fld (pv 0) rfl)), ?_⟩
    exact ⟨_, rfl, k, S, dx, _, _, rfl, D.ob, TK.cl, TK.nV, rfl, kQ⟩
theorem at_one {a : Addr} : atI ([a].map V.ref) (-1) = some (.ref a) := rfl
theorem scKEnd : FnScope ["self", "value"] ["self", "value"] (defScope sKEnd) := ⟨rfl, rfl, rfl, by decide +kernel, rfl, by decide +kernel, by decide +kernel⟩
theorem mo_kend (F : MT K S "_end" "Stack._end" sKEnd ["self", "value"]) (TK : KTx K S) : MO P w K mg base CX0 S 1 "_end" ["self", "value"] (spKEnd S) := by
  obtain ⟨f, fd, F, hm, hb⟩ := F
  refine ⟨f, fd, ?_, hm, hb⟩
  refine F.ok scKEnd (fun vs H Q E h => ?_) (fun cdv A outer s H vs Q E hr h => ?_)
  · obtain ⟨k, dx, ml, a, v, x, rfl, _⟩ := h
    rfl
  · obtain ⟨k, dx, ml, a, v, x, rfl, D, kQ⟩ := h
    have hra : Room 0 _ := hr
    refine ⟨_, (pss_cons (ps_expr (pe_bm0 PySem.F.plainAttrs_list PySem.F.slot_list_pop PySem.F.type_list_pop mt_pop (pe_fld (pv 0) rfl)))
  (pss_one (ps_if (pt_truth (pe_fld (pv 0) rfl) (by intro _; rfl))
  (pss_one (ps_expr (Mr.pe_md (pe_ix ix_list (pe_fld (pv 0) rfl) (pe_un un_neg pe_int) (fun _ _ => rfl)) hra (pa_cons (pv 1) pa_nil))))
  (pss_one (ps_fld (pv 0) (pv 1) rfl))))), ?_⟩
    have hk := D.ob
    have ml_k : ml ≠ k := ne_of D.l hk (by intro z; cases z)
    refine ⟨_, rfl, k, S, dx, _, _, rfl, hk, TK.cl, TK.nM, rfl, .inl ⟨rfl, _, SqL.of D.l⟩, ml, _, .ref a, rfl, rfl, D.l, rfl, ?_⟩
    have hk1 : upd H ml (.lst ([a].map V.ref).dropLast) k = some (.ins S dx [("_machines", .ref ml), ("_value", v)]) := by rw [upd_ne ml_k.symm]; exact hk
    refine ⟨_, rfl, k, S, dx, _, _, rfl, hk1, TK.cl, TK.nM, rfl, false, .inl ⟨_, SqL.of upd_same, rfl⟩, iteF ?_⟩
    refine ⟨_, rfl, _, rfl, k, S, dx, _, rfl, hk1, TK.cl, TK.nV, (by show 2 < 1000; decide), ?_⟩
    refine kQ _ ⟨upd_same, ?_⟩ fun b o q n n2 => ?_
    · rw [upd_ne ml_k]; exact upd_same
    · rw [upd_ne n, upd_ne n2]; exact q
theorem scKCheck : FnScope ["self", "memory", "thread"] ["self", "memory", "thread"] (defScope sKCheck) := ⟨rfl, rfl, rfl, by decide +kernel, rfl, by decide +kernel, by decide +kernel⟩
theorem mo_kcheck (F : MT K S "_check_thread" "Stack._check_thread" sKCheck ["self", "memory", "thread"]) (TK : KTx K S) (TL : LTxt K mg C) (TM : MTxt K M) (GHt : MO P w K mg base CX0 C 3 "has_thread" ["self", "thread"] (spHasT C)) : MO P w K mg base CX0 S 4 "_check_thread" ["self", "memory", "thread"] (spKCheck P w K mg base S C M) := by
  obtain ⟨f, fd, F, hm, hb⟩ := F
  refine ⟨f, fd, ?_, hm, hb⟩
  refine F.ok scKCheck (fun vs H Q E h => ?_) (fun cdv A outer s H vs Q E hr h => ?_)
  · obtain ⟨k, dx, ml, m, ms, v, t, w, r, th, A, X, rfl, _⟩ := h
    rfl
  · obtain ⟨k, dx, ml, m, ms, v, t, w, r, th, A0, X, rfl, D, DM, hth, hc, kQ⟩ := h
    have hrq : Room 1 _ := hr.mono (by decide)
    have hrH : Room 3 _ := hr
    refine ⟨_, (pss_one (ps_if (PW.pt (pw_and (pt_truth (pe_fld (pv 0) rfl) (by intro _; rfl)) (pw_and1 (pt_cmpR op_ne (pe_ix ix_tup (Mr.pe_md0 (pe_ix ix_list (pe_fld (pv 0) rfl) (pe_un un_neg pe_int) (fun _ _ => rfl)) hrq) pe_int (fun _ _ => rfl)) pe_str (nomark _)))))
  (pss_one (ps_if (pt_not (pt_val (pm_ GHt TL.cl hrH (pe_fld (pv 1) rfl) (pa_cons (pv 2) pa_nil))))
  (pss_one ps_never)
  pss_nil))
  pss_nil)), ?_⟩
    have hk := D.ob
    rcases hc with rfl | ⟨a, CM, dxm, q, l, th', left, rest, rq, rfl, Mc, hq⟩
    · exact ⟨_, rfl, k, S, dx, _, _, rfl, hk, TK.cl, TK.nM, rfl, false, .inl ⟨_, SqL.of D.l, rfl⟩, iteF (iteF kQ)⟩
    · obtain ⟨s0, r0, e0, ne0, _⟩ := head_vs rq
      rw [e0] at hq
      obtain ⟨fr, hmr, FR⟩ := Mc.rq
      obtain ⟨dm, hmem⟩ := DM.ob
      obtain ⟨da, hlay⟩ := DM.lay
      refine ⟨_, rfl, k, S, dx, _, _, rfl, hk, TK.cl, TK.nM, rfl, true, .inl ⟨_, SqL.of D.l, rfl⟩, iteT ?_⟩
      refine ⟨_, rfl, k, S, dx, _, _, rfl, hk, TK.cl, TK.nM, rfl, _, rfl, ml, _, -1, _, rfl, rfl, SqL.of D.l, at_one, a, CM, dxm, _, fr, _, rfl, Mc.m.ob, Mc.cl, hmr, FR, Mc.n1, a, dxm, l, _, th', left, rest, rfl, Mc.m, q, _, 0, _, rfl, rfl, SqT.of hq, at_head, rfl, _, rfl, ?_⟩
      have cn : ¬ (V.str s0 = V.str "end") := fun z => ne0 (V.str.inj z)
      rw [decide_eq_false cn]
      refine iteT ?_
      refine ⟨_, rfl, m, M, dm, _, _, rfl, hmem, TM.cl, TM.nL, rfl, A0.a, da, _, rfl, hlay, rfl, _, rfl, A0.a, t, w, r, _, "int", rfl, rfl, ⟨da, hlay⟩, _, rfl, ?_⟩
      rw [inW_nat, decide_eq_true hth]
      exact iteF kQ
theorem scKSettle : FnScope ["self", "request"] ["self"] (defScope sKSettle) := ⟨rfl, rfl, rfl, by decide +kernel, rfl, by decide +kernel, by decide +kernel⟩
theorem mo_ksettle (F : MT K S "_settle" "Stack._settle" sKSettle ["self"]) (TK : KTx K S) (GEn : MO P w K mg base CX0 S 1 "_end" ["self", "value"] (spKEnd S)) : MO P w K mg base CX0 S 2 "_settle" ["self"] (spKSettle P w K mg base S) := by
  obtain ⟨f, fd, F, hm, hb⟩ := F
  refine ⟨f, fd, ?_, hm, hb⟩
  refine F.ok scKSettle (fun vs H Q E h => ?_) (fun cdv A outer s H vs Q E hr h => ?_)
  · obtain ⟨k, dx, ml, ms, v, rfl, _⟩ := h
    rfl
  · obtain ⟨k, dx, ml, ms, v, rfl, D, hc⟩ := h
    have nd := scKSettle.nd
    have hrq : Room 1 _ := hr
    have hrE : Room 1 _ := hr
    refine ⟨_, (pss_one (ps_while PassesOwn.never (pt_truth (pe_fld (pv 0) rfl) (by intro _; rfl))
  (pss_cons (ps_set (i := 1) nd rfl (Or.inl rfl) (Mr.pe_md0 (pe_ix ix_list (pe_fld (pv 0) rfl) (pe_un un_neg pe_int) (fun _ _ => rfl)) hrq))
  (pss_one (ps_if (pt_cmpR op_eq (pe_ix ix_tup (pv 1) pe_int (fun _ _ => rfl)) pe_str (nomark _))
  (pss_one (ps_expr (pe_bm PySem.F.plainAttrs_list PySem.F.slot_list_append PySem.F.type_list_append mt_append (pe_fld (pv 0) rfl) (pa_cons (pe_ix ix_tup (pv 1) pe_int (fun _ _ => rfl)) pa_nil))))
  (pss_one (ps_if (pt_cmpR op_eq (pe_ix ix_tup (pv 1) pe_int (fun _ _ => rfl)) pe_str (nomark _))
  (pss_one (ps_expr (pm_ GEn TK.cl hrE (pv 0) (pa_cons (pe_ix ix_tup (pv 1) pe_int (fun _ _ => rfl)) pa_nil))))
  (pss_one ps_retN)))))))), ?_⟩
    dsimp only [gName, tSeq]
    refine while_rel (fun n σ H2 => (n = 1 ∧ H2 = H ∧ ∃ x, σ = [some (.ref k), x]) ∨ (n = 0 ∧ ∃ x v, σ = [some (.ref k), x] ∧ StkAt S H2 k dx ml [] v ∧ Q .non H2)) ⟨1, .inl ⟨rfl, rfl, _, rfl⟩⟩ ?_ ?_
    · rintro n σ H2 (⟨rfl, rfl, x, rfl⟩ | ⟨rfl, x, v', rfl, D2, q2⟩)
      · rcases hc with ⟨rfl, kQ⟩ | ⟨a, CM, dxm, q, l, th', left, rest, rq, rfl, Mc, hq, kQ⟩ | ⟨a, CM, dxm, q, l, th', left, rest, xe, rfl, Mc, hq, kQ⟩
        · exact ⟨_, rfl, k, S, dx, _, _, rfl, D.ob, TK.cl, TK.nM, rfl, false, .inl ⟨_, SqL.of D.l, rfl⟩, iteF kQ⟩
        · obtain ⟨s0, r0, e0, ne0, ne1⟩ := head_vs rq
          rw [e0] at hq
          obtain ⟨fr, hmr, FR⟩ := Mc.rq
          refine ⟨_, rfl, k, S, dx, _, _, rfl, D.ob, TK.cl, TK.nM, rfl, true, .inl ⟨_, SqL.of D.l, rfl⟩, iteT ?_⟩
          refine ⟨_, rfl, k, S, dx, _, _, rfl, D.ob, TK.cl, TK.nM, rfl, _, rfl, ml, _, -1, _, rfl, rfl, SqL.of D.l, at_one, a, CM, dxm, _, fr, _, rfl, Mc.m.ob, Mc.cl, hmr, FR, Mc.n1, a, dxm, l, _, th', left, rest, rfl, Mc.m, ?_⟩
          refine ⟨_, rfl, q, _, 0, _, rfl, rfl, SqT.of hq, at_head, rfl, _, rfl, ?_⟩
          rw [decide_eq_false fun z => ne1 (V.str.inj z)]
          refine iteF ?_
          refine ⟨_, rfl, q, _, 0, _, rfl, rfl, SqT.of hq, at_head, rfl, _, rfl, ?_⟩
          rw [decide_eq_false fun z => ne0 (V.str.inj z)]
          exact iteF kQ
        · obtain ⟨fr, hmr, FR⟩ := Mc.rq
          refine ⟨_, rfl, k, S, dx, _, _, rfl, D.ob, TK.cl, TK.nM, rfl, true, .inl ⟨_, SqL.of D.l, rfl⟩, iteT ?_⟩
          refine ⟨_, rfl, k, S, dx, _, _, rfl, D.ob, TK.cl, TK.nM, rfl, _, rfl, ml, _, -1, _, rfl, rfl, SqL.of D.l, at_one, a, CM, dxm, _, fr, _, rfl, Mc.m.ob, Mc.cl, hmr, FR, Mc.n1, a, dxm, l, _, th', left, rest, rfl, Mc.m, ?_⟩
          refine ⟨_, rfl, q, _, 0, _, rfl, rfl, SqT.of hq, at_head, rfl, _, rfl, ?_⟩
          rw [decide_eq_false (show ¬ (V.str "end" = V.str "call") by decide +kernel)]
          refine iteF ?_
          refine ⟨_, rfl, q, _, 0, _, rfl, rfl, SqT.of hq, at_head, rfl, _, rfl, ?_⟩
          rw [decide_eq_true (rfl : V.str "end" = V.str "end")]
          refine iteT ?_
          refine ⟨_, rfl, k, dx, _, rfl, D.ob, rfl, _, rfl, q, _, 1, xe, rfl, rfl, SqT.of hq, rfl, k, dx, ml, a, v, xe, rfl, D, fun H3 D3 kp3 => ?_⟩
          exact ⟨0, by decide, .inr ⟨rfl, _, _, rfl, D3, kQ H3 D3 kp3⟩⟩
      · exact ⟨_, rfl, k, S, dx, _, _, rfl, D2.ob, TK.cl, TK.nM, rfl, false, .inl ⟨_, SqL.of D2.l, rfl⟩, iteF q2⟩
    · rintro σ H2 Q1 Q2 imp ⟨x, e, a, C', dx', fs, v1, h1, h2, h3, h4, h5, kk, t, q⟩
      exact ⟨x, e, a, C', dx', fs, v1, h1, h2, h3, h4, h5, kk, t, imp _ _ q⟩
theorem scKStep : FnScope ["self", "memory", "thread", "machine"] ["self", "memory", "thread"] (defScope sKStep) := ⟨rfl, rfl, rfl, by decide +kernel, rfl, by decide +kernel, by decide +kernel⟩
theorem mo_kstep {ka : Nat} (F : MT K S "step" "Stack.step" sKStep ["self", "memory", "thread"]) (TK : KTx K S) (TM : MTxt K M) (GCk : MO P w K mg base CX0 S 4 "_check_thread" ["self", "memory", "thread"] (spKCheck P w K mg base S C M)) (GSt : MO P w K mg base CX0 S 2 "_settle" ["self"] (spKSettle P w K mg base S))
    (GAc : MO P w K mg base CX0 M 11 "access" ["self", "thread", "request"] (spAccess K C M)) : MO P w K mg base CX0 S (ka + 12) "step" ["self", "memory", "thread"] (spKStep P w K mg base ka S C M) := by
  obtain ⟨f, fd, F, hm, hb⟩ := F
  refine ⟨f, fd, ?_, hm, hb⟩
  refine F.ok scKStep (fun vs H Q E h => ?_) (fun cdv A outer s H vs Q E hr h => ?_)
  · obtain ⟨k, dx, ml, m, ms, v, t, w, r, th, B, A, X, rfl, _⟩ := h
    rfl
  · obtain ⟨k, dx, ml, m, ms, v, t, w, r, th, B, A0, X, rfl, D, nok, DM, hth, so, hB, hc⟩ := h
    have nd := scKStep.nd
    have hrq : Room 1 _ := hr.mono (by omega)
    have hra : Room ka _ := hr.mono (by omega)
    have hrC : Room 4 _ := hr.mono (by omega)
    have hrS : Room 2 _ := hr.mono (by omega)
    have hrM : Room 11 _ := hr.mono (by omega)
    refine ⟨_, (pss_cons (ps_expr (pm_ GCk TK.cl hrC (pv 0) (pa_cons (pv 1) (pa_cons (pv 2) pa_nil))))
  (pss_cons (ps_expr (pm0_ GSt TK.cl hrS (pv 0)))
  (pss_cons (ps_if (pt_not (pt_truth (pe_fld (pv 0) rfl) (by intro _; rfl)))
  (pss_one (ps_ret pe_bl))
  pss_nil)
  (pss_cons (ps_set (i := 3) nd rfl (Or.inl rfl) (pe_ix ix_list (pe_fld (pv 0) rfl) (pe_un un_neg pe_int) (fun _ _ => rfl)))
  (pss_cons (ps_expr (Mr.pe_md (pv 3) hra (pa_cons (pm_ GAc TM.cl hrM (pv 1) (pa_cons (pv 2) (pa_cons (Mr.pe_md0 (pv 3) hrq) pa_nil))) pa_nil)))
  (pss_cons (ps_expr (pm0_ GSt TK.cl hrS (pv 0)))
  (pss_one (ps_ret pe_bl)))))))), ?_⟩
    have hk := D.ob
    rcases hc with ⟨rfl, kQ⟩ | ⟨a, CM, dxm, q, l, fa, th', left, rest, rq, spa, rfl, Mc, hq, ok, vals, fl, hma, FA, kQ⟩
    · refine ⟨_, rfl, k, dx, _, rfl, hk, rfl, _, rfl, _, rfl, k, dx, ml, m, [], v, t, w, r, th, A0, X, rfl, D, DM, hth, .inl rfl, ?_⟩
      refine ⟨_, rfl, k, dx, _, rfl, hk, rfl, k, dx, ml, [], v, rfl, D, .inl ⟨rfl, ?_⟩⟩
      exact ⟨_, rfl, k, S, dx, _, _, rfl, hk, TK.cl, TK.nM, rfl, false, .inl ⟨_, SqL.of D.l, rfl⟩, iteT kQ⟩
    · refine ⟨_, rfl, k, dx, _, rfl, hk, rfl, _, rfl, _, rfl, k, dx, ml, m, [a], v, t, w, r, th, A0, X, rfl, D, DM, hth, .inr ⟨a, CM, dxm, q, l, th', left, rest, rq, rfl, Mc, hq⟩, ?_⟩
      refine ⟨_, rfl, k, dx, _, rfl, hk, rfl, k, dx, ml, [a], v, rfl, D, .inr (.inl ⟨a, CM, dxm, q, l, th', left, rest, rq, rfl, Mc, hq, ?_⟩)⟩
      refine ⟨_, rfl, k, S, dx, _, _, rfl, hk, TK.cl, TK.nM, rfl, true, .inl ⟨_, SqL.of D.l, rfl⟩, iteF ?_⟩
      refine ⟨_, rfl, k, S, dx, _, _, rfl, hk, TK.cl, TK.nM, rfl, _, rfl, ml, _, -1, _, rfl, rfl, SqL.of D.l, at_one, ?_⟩
      obtain ⟨fr, hmr, FR⟩ := Mc.rq
      obtain ⟨dm, hmem⟩ := DM.ob
      refine ⟨_, rfl, a, CM, dxm, _, fa, spa, rfl, Mc.m.ob, Mc.cl, hma, FA, Mc.n2, _, rfl, m, dm, _, rfl, hmem, rfl, _, rfl, _, rfl, a, CM, dxm, _, fr, _, rfl, Mc.m.ob, Mc.cl, hmr, FR, Mc.n1, a, dxm, l, _, th', left, rest, rfl, Mc.m, m, t, w, r, th, B, A0, X, rq, q, rfl, nok, DM, hth, hq, ok, so, hB, vals, fl, fun v1 x p A' X' H1 ea R hp so' D' st => ?_⟩
      refine kQ v1 x p A' X' H1 ea R hp so' D' st _ fun u H2 hbe => ?_
      obtain ⟨D2, hb2⟩ := hbe
      have hk2 := D2.ob
      rcases hb2 with ⟨q2, l2, th2, left2, rest2, rq2, M2, hq2, kQ2⟩ | ⟨q2, l2, th2, left2, rest2, xe, M2, hq2, kQ2⟩
      · exact ⟨_, rfl, k, dx, _, rfl, hk2, rfl, k, dx, ml, [a], v, rfl, D2, .inr (.inl ⟨a, CM, dxm, q2, l2, th2, left2, rest2, rq2, rfl, M2, hq2, kQ2⟩)⟩
      · exact ⟨_, rfl, k, dx, _, rfl, hk2, rfl, k, dx, ml, [a], v, rfl, D2, .inr (.inr ⟨a, CM, dxm, q2, l2, th2, left2, rest2, xe, rfl, M2, hq2, fun H3 D3 k3 => kQ2 H3 D3 k3⟩)⟩
end
end Dk

set_option maxHeartbeats 4000000
/-! the stores, with what waits -/
namespace Dk
open PySem PySem.Spec PyProof.Rows L2 StX
abbrev sSInit : Stmt := inClass (top 13) 0
abbrev sTake : Stmt := inClass (top 13) 1
abbrev sGiveB : Stmt := inClass (top 13) 2
abbrev sTOut : Stmt := inClass (top 13) 3
abbrev sFreeC : Stmt := inClass (top 13) 4
abbrev sWait : Stmt := inClass (top 13) 5
abbrev sHasOut : Stmt := inClass (top 13) 6
abbrev sHasWait : Stmt := inClass (top 13) 7
abbrev sStamp : Stmt := inClass (top 13) 8
abbrev sFreeUp : Stmt := inClass (top 13) 9
abbrev sDivided : Stmt := top 14
abbrev sfs (la : Addr) (t : Int) (fa wa oa : Addr) : List (Str × V) := [("layout", .ref la), ("thread", .int t), ("_free", .ref fa), ("_waiting", .ref wa), ("_out", .ref oa)]
/-- a row of what waits: its tuple, its list, its stamp, its cells -/
structure Rw where
  p : Addr
  q : Addr
  e : Int
  cs : List Int
def RwOk (H : Hp) (rows : List Rw) : Prop := ∀ r, r ∈ rows → H r.p = some (.tup [.int r.e, .ref r.q]) ∧ H r.q = some (.lst (r.cs.map V.int))
theorem RwOk.same {H H' : Hp} {rows : List Rw} (h : RwOk H rows) (s : Same H H') : RwOk H' rows := fun r hr => ⟨s _ _ (h r hr).1, s _ _ (h r hr).2⟩
theorem RwOk.ins {H : Hp} {rows : List Rw} (h : RwOk H rows) {a C dx : Addr} {fs : List (Str × V)} (ha : H a = some (.ins C dx fs)) {o : HO} : RwOk (upd H a o) rows := fun r hr =>
  ⟨by rw [upd_ne (ne_of (h r hr).1 ha (by intro z; cases z))]; exact (h r hr).1, by rw [upd_ne (ne_of (h r hr).2 ha (by intro z; cases z))]; exact (h r hr).2⟩
structure StAt (S : Addr) (H : Hp) (a la : Addr) (t : Int) (fa wa oa : Addr) (fr out : List Int) (rows : List Rw) : Prop where
  ob : ∃ dx, H a = some (.ins S dx (sfs la t fa wa oa))
  f : H fa = some (.lst (fr.map V.int))
  w : H wa = some (.lst (rows.map fun (r : Rw) => V.ref r.p))
  o : H oa = some (.lst (out.map V.int))
  r : RwOk H rows
  d : wa ≠ fa ∧ wa ≠ oa ∧ ∀ r, r ∈ rows → r.q ≠ wa
theorem StAt.same {S : Addr} {H H' : Hp} {a la : Addr} {t : Int} {fa wa oa : Addr} {fr out : List Int} {rows : List Rw} (R : StAt S H a la t fa wa oa fr out rows) (s : Same H H') : StAt S H' a la t fa wa oa fr out rows :=
  ⟨let ⟨dx, h⟩ := R.ob; ⟨dx, s _ _ h⟩, s _ _ R.f, s _ _ R.w, s _ _ R.o, R.r.same s, R.d⟩
/-- over a list that the block leaves as it is, whatever the block does -/
theorem it_list {K : PySem.W.Frag} {a : Addr} {xs : List V} {Bd : V → Hp → (Hp → Prop) → Prop} {H0 : Hp} {Qd : Hp → Prop} (Pv : Nat → Hp → Prop) (h0 : Pv 0 H0) (hl : ∀ i H, i ≤ xs.length → Pv i H → SqL K H a xs)
    (hs : ∀ i x H, xs[i]? = some x → Pv i H → Bd x H (Pv (i + 1))) (hd : ∀ H, Pv xs.length H → Qd H) :
    ∃ W : Nat → Nat → Hp → Prop, (∃ m, W 0 m H0) ∧ ∀ i m H, W i m H →
      ((Itl K a).stop i H ∧ Qd H) ∨ ((Itl K a).go i H ∧ ∃ Nx : Hp → Prop, (∀ H', Nx H' → ∃ m', m' < m ∧ W (i + 1) m' H') ∧ ∀ x H', (Itl K a).yld i H x H' → Bd x H' Nx) := by
  refine ⟨fun i m H => m = xs.length - i ∧ i ≤ xs.length ∧ Pv i H, ⟨xs.length, by simp, Nat.zero_le _, h0⟩, ?_⟩
  rintro i m H ⟨rfl, hi, p⟩
  have q := hl i H hi p
  by_cases hlt : i < xs.length
  · refine .inr ⟨⟨xs, xs[i], q, by simp [hlt]⟩, Pv (i + 1), fun H' p' => ⟨xs.length - (i + 1), by omega, rfl, hlt, p'⟩, fun x H' y => ?_⟩
    obtain ⟨e, y⟩ := y
    subst e
    exact hs i x _ (y xs q) p
  · have e : i = xs.length := by omega
    subst e
    exact .inl ⟨⟨xs, q, Nat.le_refl _⟩, hd H p⟩
structure STxt (K : PySem.W.Frag) (mg : Str → Option Value) (S : Addr) : Prop where
  cl : Cls K S
  nL : NoAttr K S "layout"
  nT : NoAttr K S "thread"
  nF : NoAttr K S "_free"
  nW : NoAttr K S "_waiting"
  nO : NoAttr K S "_out"
  sorted : mg "sorted" = none
  max : mg "max" = none
  len : mg "len" = none
  list : mg "list" = none
  bool : mg "bool" = none
def Asc (l : List Int) : Prop := l.Pairwise (· ≤ ·)
def spSInit (S : Addr) : Sp := fun vs H Q _ => ∃ (a dx la : Addr) (t : Int) (ca : Addr) (cs : List Int), vs = [.ref a, .ref la, .int t, .ref ca] ∧ H a = some (.ins S dx []) ∧ H ca = some (.lst (cs.map V.int)) ∧
  ∀ H' fa wa oa fr, fr.Perm cs → Asc fr → StAt S H' a la t fa wa oa fr [] [] → H fa = none → H wa = none → H oa = none → Kept a H H' → Q .non H'
def spTake (S : Addr) : Sp := fun vs H Q _ => ∃ (a la : Addr) (t : Int) (fa wa oa : Addr) (fr out : List Int) (rows : List Rw) (n : Nat), vs = [.ref a, .int (n : Int)] ∧ StAt S H a la t fa wa oa fr out rows ∧ fr.length < 1000 ∧
  (fr.length < n → Q .non H) ∧ (n ≤ fr.length → ∀ H' p fa', H p = none → H fa' = none → p ≠ fa' → H' p = some (.lst ((fr.take n).map V.int)) → StAt S H' a la t fa' wa oa (fr.drop n) out rows → Kept a H H' → Q (.ref p) H')
def spGiveB (S : Addr) : Sp := fun vs H Q _ => ∃ (a la : Addr) (t : Int) (fa wa oa : Addr) (fr out : List Int) (rows : List Rw) (ca : Addr) (cs : List Int), vs = [.ref a, .ref ca] ∧ StAt S H a la t fa wa oa fr out rows ∧ H ca = some (.lst (cs.map V.int)) ∧ fr.length + cs.length < 1000 ∧
  ∀ H' fa' fr', fr'.Perm (fr ++ cs) → Asc fr' → H fa' = none → StAt S H' a la t fa' wa oa fr' out rows → Kept a H H' → Q .non H'
def spTOut (S : Addr) : Sp := fun vs H Q _ => ∃ (a la : Addr) (t : Int) (fa wa oa : Addr) (fr out : List Int) (rows : List Rw) (ca : Addr) (cs : List Int), vs = [.ref a, .ref ca] ∧ StAt S H a la t fa wa oa fr out rows ∧ H ca = some (.lst (cs.map V.int)) ∧ out.length + cs.length < 1000 ∧
  ∀ H' oa', H oa' = none → StAt S H' a la t fa wa oa' fr (out ++ cs) rows → Kept a H H' → Q .non H'
def spFreeC (S : Addr) : Sp := fun vs H Q _ => ∃ (a la : Addr) (t : Int) (fa wa oa : Addr) (fr out : List Int) (rows : List Rw), vs = [.ref a] ∧ StAt S H a la t fa wa oa fr out rows ∧
  ∀ H' p, H p = none → H' p = some (.lst (fr.map V.int)) → Same H H' → Q (.ref p) H'
def spHasOut (S : Addr) : Sp := fun vs H Q _ => ∃ (a la : Addr) (t : Int) (fa wa oa : Addr) (fr out : List Int) (rows : List Rw), vs = [.ref a] ∧ StAt S H a la t fa wa oa fr out rows ∧ Q (.bl !out.isEmpty) H
def spHasWait (S : Addr) : Sp := fun vs H Q _ => ∃ (a la : Addr) (t : Int) (fa wa oa : Addr) (fr out : List Int) (rows : List Rw), vs = [.ref a] ∧ StAt S H a la t fa wa oa fr out rows ∧ Q (.bl !rows.isEmpty) H
def spStamp (S : Addr) : Sp := fun vs H Q _ => ∃ (a la : Addr) (t : Int) (fa wa oa : Addr) (fr out : List Int) (rows : List Rw) (e : Int), vs = [.ref a, .int e] ∧ StAt S H a la t fa wa oa fr out rows ∧ rows.length < 1000 ∧
  ∀ H' p oa', H p = none → H oa' = none → StAt S H' a la t fa wa oa' fr [] (rows ++ [⟨p, oa, e, out⟩]) → Kept2 a wa H H' → Q .non H'
/-- all cells of the rows up to a stamp -/
def upTo (last : Int) (rows : List Rw) : List Int := (rows.filter fun r => decide (r.e ≤ last)).flatMap fun r => r.cs
def spFreeUp (S : Addr) : Sp := fun vs H Q _ => ∃ (a la : Addr) (t : Int) (fa wa oa : Addr) (fr out : List Int) (rows : List Rw) (last : Int), vs = [.ref a, .int last] ∧ StAt S H a la t fa wa oa fr out rows ∧ rows.length < 1000 ∧ fr.length + (upTo last rows).length < 1000 ∧
  ∀ H' fa' wa' fr', fr'.Perm (fr ++ upTo last rows) → Asc fr' → H fa' = none → H wa' = none → StAt S H' a la t fa' wa' oa fr' out (rows.filter fun r => decide (last < r.e)) → Kept a H H' → Q .non H'
def rD (r : Rw) : PyData := .tuple [.int r.e, .list (r.cs.map .int)]
def spWait (K : PySem.W.Frag) (S : Addr) : Sp := fun vs H Q _ => ∃ (a la : Addr) (t : Int) (fa wa oa : Addr) (fr : List Int) (rows : List Rw), vs = [.ref a] ∧ StAt S H a la t fa wa oa fr [] rows ∧ rows.length < 1000 ∧
  ∀ H' p, H p = none → Dp K H' (.ref p) (.list (rows.map rD)) → Same H H' → Q (.ref p) H'
def spDivided (C : Addr) : Sp := fun vs H Q _ => ∃ (la : Addr) (t w r : Int) (ca : Addr) (cs : List Int) (th : Int), vs = [.ref la, .ref ca, .int th] ∧ LayAt C H la t w r ∧ 0 < t ∧ H ca = some (.lst (cs.map V.int)) ∧ cs.length < 1000 ∧
  ∀ H' p ds, ds.Perm (cs.filter fun c => decide ((c - (rec0 t w + 0)).fmod t = th)) → Asc ds → H p = none → H' p = some (.lst (ds.map V.int)) → Same H H' → Q (.ref p) H'
theorem fil_t {p : Int → Bool} {cs : List Int} {i : Nat} (h : i < cs.length) (c : p cs[i] = true) : (cs.take (i + 1)).filter p = (cs.take i).filter p ++ [cs[i]] := by
  rw [List.take_succ_eq_append_getElem h, List.filter_append, List.filter_cons, if_pos c]
  rfl
theorem fil_f {p : Int → Bool} {cs : List Int} {i : Nat} (h : i < cs.length) (c : p cs[i] = false) : (cs.take (i + 1)).filter p = (cs.take i).filter p := by
  rw [List.take_succ_eq_append_getElem h, List.filter_append, List.filter_cons, if_neg (by rw [c]; decide)]
  simp
def rLof (K : PySem.W.Frag) : List V → Hp → VK → Prop := fun xs H Q => ∃ p ys, xs = [V.ref p] ∧ (SqL K H p ys ∨ SqT K H p ys) ∧ ∀ (l : Addr), H l = none → Q (V.ref l) (upd H l (HO.lst ys))
theorem cut_to {ns : List Int} {n : Nat} (h : n ≤ ns.length) : cutV (ns.map V.int) none (some (if (n : Int) > 0 then (n : Int) else 0)) = (ns.take n).map V.int := by
  have e : (if (n : Int) > 0 then (n : Int) else 0) = ((n : Nat) : Int) := by split <;> omega
  rw [e]
  unfold cutV
  rw [HT.sIx_none, HT.sIx_nat, List.drop_zero, List.length_map, List.map_take]
  congr 1
  omega
theorem cut_from {ns : List Int} {n : Nat} (h : n ≤ ns.length) : cutV (ns.map V.int) (some (n : Int)) none = (ns.drop n).map V.int := by
  unfold cutV
  rw [HT.sIx_none, HT.sIx_nat, List.length_map, List.map_drop, show min n ns.length = n by omega]
  refine List.take_of_length_le ?_
  rw [List.length_drop, List.length_map]
  exact Nat.le_refl _
section
variable {P : Program} {w : World} {K : PySem.W.Frag} {mg : Str → Option Value} {base : Heap} {C S : Addr}
theorem scSInit : FnScope ["self", "layout", "thread", "cells"] ["self", "layout", "thread", "cells"] (defScope sSInit) := ⟨rfl, rfl, rfl, by decide +kernel, rfl, by decide +kernel, by decide +kernel⟩
theorem ok_sinit {f : Addr} {fd : FuncData} (F : Fun K "__init__" "Store.__init__" sSInit f fd) (T : STxt K mg S) :
    FnOk P w K mg base CX0 1 f fd ["self", "layout", "thread", "cells"] (spSInit S) := by
  refine F.ok scSInit (fun vs H Q E h => ?_) (fun cdv A outer s H vs Q E hr h => ?_)
  · obtain ⟨a, dx, la, t, ca, cs, rfl, _⟩ := h
    rfl
  · obtain ⟨a, dx, la, t, ca, cs, rfl, ha, hc, k⟩ := h
    refine ⟨_, pss_cons (ps_fld (pv 0) (pv 1) rfl) (pss_cons (ps_fld (pv 0) (pv 2) rfl)
      (pss_cons (ps_fld (pv 0) (pe_callB cr_sortedI (by rfl) T.sorted (by decide +kernel) (pa_cons (pv 3) pa_nil)) rfl)
      (pss_cons (ps_fld (pv 0) (pe_lst pa_nil) rfl) (pss_one (ps_fld (pv 0) (pe_lst pa_nil) rfl))))), ?_⟩
    have ca_a : ca ≠ a := ne_of hc ha (by intro z; cases z)
    refine ⟨_, rfl, _, rfl, a, S, dx, [], rfl, ha, T.cl, T.nL, (by show 0 < 1000; decide), _, rfl, _, rfl, a, S, dx, _, rfl, upd_same, T.cl, T.nT, (by show 1 < 1000; decide), ?_⟩
    have kp : Kept a H (upd (upd H a (.ins S dx (putF "layout" (.ref la) []))) a (.ins S dx (putF "thread" (.int t) (putF "layout" (.ref la) [])))) := fun b o e hb => by rw [upd_ne hb, upd_ne hb]; exact e
    have ha1 : upd (upd H a (.ins S dx (putF "layout" (.ref la) []))) a (.ins S dx (putF "thread" (.int t) (putF "layout" (.ref la) []))) a = some (.ins S dx [("layout", .ref la), ("thread", .int t)]) := upd_same
    generalize upd (upd H a (.ins S dx (putF "layout" (.ref la) []))) a (.ins S dx (putF "thread" (.int t) (putF "layout" (.ref la) []))) = H1 at kp ha1 ⊢
    have fr1 : ∀ {p}, H1 p = none → H p = none := fun {p} hp => by
      cases e : H p with
      | none => rfl
      | some o =>
        have := kp p o e (fun z => by rw [z, ha1] at hp; cases hp)
        rw [hp] at this
        cases this
    refine ⟨_, rfl, ca, cs, rfl, SqL.of (kp _ _ hc ca_a), fun fr fa pm asc hfa => ⟨_, rfl, a, S, dx, _, rfl, up1 hfa _ _ ha1, T.cl, T.nF, (by show 2 < 1000; decide), ?_⟩⟩
    have n1 := fr1 hfa
    have fa_a : fa ≠ a := (ne_of_none ha1 hfa).symm
    have kp2 : Kept a H (upd (upd H1 fa (.lst (fr.map V.int))) a (.ins S dx (putF "_free" (.ref fa) [("layout", .ref la), ("thread", .int t)]))) := fun b o e hb => by rw [upd_ne hb]; exact up1 hfa _ _ (kp b o e hb)
    have hf2 : upd (upd H1 fa (.lst (fr.map V.int))) a (.ins S dx (putF "_free" (.ref fa) [("layout", .ref la), ("thread", .int t)])) fa = some (.lst (fr.map V.int)) := by rw [upd_ne fa_a]; exact upd_same
    have ha2 : upd (upd H1 fa (.lst (fr.map V.int))) a (.ins S dx (putF "_free" (.ref fa) [("layout", .ref la), ("thread", .int t)])) a = some (.ins S dx [("layout", .ref la), ("thread", .int t), ("_free", .ref fa)]) := upd_same
    generalize upd (upd H1 fa (.lst (fr.map V.int))) a (.ins S dx (putF "_free" (.ref fa) [("layout", .ref la), ("thread", .int t)])) = H2 at kp2 hf2 ha2 ⊢
    have fr2 : ∀ {p}, H2 p = none → H p = none := fun {p} hp => by
      cases e : H p with
      | none => rfl
      | some o =>
        have := kp2 p o e (fun z => by rw [z, ha2] at hp; cases hp)
        rw [hp] at this
        cases this
    refine ⟨(by show 0 ≤ sizeLine; exact Nat.zero_le _), fun wa hwa => ⟨_, rfl, a, S, dx, _, rfl, up1 hwa _ _ ha2, T.cl, T.nW, (by show 3 < 1000; decide), ?_⟩⟩
    have wa_a : wa ≠ a := (ne_of_none ha2 hwa).symm
    have kp3 : Kept a H (upd (upd H2 wa (.lst [])) a (.ins S dx (putF "_waiting" (.ref wa) [("layout", .ref la), ("thread", .int t), ("_free", .ref fa)]))) := fun b o e hb => by rw [upd_ne hb]; exact up1 hwa _ _ (kp2 b o e hb)
    have hf3 : upd (upd H2 wa (.lst [])) a (.ins S dx (putF "_waiting" (.ref wa) [("layout", .ref la), ("thread", .int t), ("_free", .ref fa)])) fa = some (.lst (fr.map V.int)) := by rw [upd_ne fa_a]; exact up1 hwa _ _ hf2
    have hw3 : upd (upd H2 wa (.lst [])) a (.ins S dx (putF "_waiting" (.ref wa) [("layout", .ref la), ("thread", .int t), ("_free", .ref fa)])) wa = some (.lst []) := by rw [upd_ne wa_a]; exact upd_same
    have ha3 : upd (upd H2 wa (.lst [])) a (.ins S dx (putF "_waiting" (.ref wa) [("layout", .ref la), ("thread", .int t), ("_free", .ref fa)])) a = some (.ins S dx [("layout", .ref la), ("thread", .int t), ("_free", .ref fa), ("_waiting", .ref wa)]) := upd_same
    have n2 := fr2 hwa
    generalize upd (upd H2 wa (.lst [])) a (.ins S dx (putF "_waiting" (.ref wa) [("layout", .ref la), ("thread", .int t), ("_free", .ref fa)])) = H3 at kp3 hf3 hw3 ha3 ⊢
    have fr3 : ∀ {p}, H3 p = none → H p = none := fun {p} hp => by
      cases e : H p with
      | none => rfl
      | some o =>
        have := kp3 p o e (fun z => by rw [z, ha3] at hp; cases hp)
        rw [hp] at this
        cases this
    refine ⟨(by show 0 ≤ sizeLine; exact Nat.zero_le _), fun oa hoa => ⟨_, rfl, a, S, dx, _, rfl, up1 hoa _ _ ha3, T.cl, T.nO, (by show 4 < 1000; decide), ?_⟩⟩
    have oa_a : oa ≠ a := (ne_of_none ha3 hoa).symm
    refine k _ fa wa oa fr pm asc ⟨⟨dx, upd_same⟩, ?_, ?_, ?_, fun r hr => absurd hr (by simp), (ne_of_none hf2 hwa).symm, ne_of_none hw3 hoa, fun r hr => absurd hr (by simp)⟩ n1 n2 (fr3 hoa) fun b o e hb => by rw [upd_ne hb]; exact up1 hoa _ _ (kp3 b o e hb)
    · rw [upd_ne fa_a]; exact up1 hoa _ _ hf3
    · rw [upd_ne wa_a]; exact up1 hoa _ _ hw3
    · rw [upd_ne oa_a]; exact upd_same
theorem scTake : FnScope ["self", "many", "taken"] ["self", "many"] (defScope sTake) := ⟨rfl, rfl, rfl, by decide +kernel, rfl, by decide +kernel, by decide +kernel⟩
theorem mo_take (F : MT K S "take" "Store.take" sTake ["self", "many"]) (T : STxt K mg S) : MO P w K mg base CX0 S 1 "take" ["self", "many"] (spTake S) := by
  obtain ⟨f, fd, F, hm, hb⟩ := F
  refine ⟨f, fd, ?_, hm, hb⟩
  refine F.ok scTake (fun vs H Q E h => ?_) (fun cdv A outer s H vs Q E hr h => ?_)
  · obtain ⟨a, la, t, fa, wa, oa, fr, out, rows, n, rfl, _⟩ := h
    rfl
  · obtain ⟨a, la, t, fa, wa, oa, fr, out, rows, n, rfl, R, hz, k1, k2⟩ := h
    have nd := scTake.nd
    have hsl : sizeLine = 16777216 := sizeLine_eq
    refine ⟨_, pss_cons (ps_if (pt_cmpR op_gt (pv 1) (pe_callB call_len_seq (by rfl) T.len PySem.boot_len (pa_cons (pe_fld (pv 0) rfl) pa_nil)) (nomark _)) (pss_one (ps_ret pe_non)) pss_nil)
      (pss_cons (ps_set (i := 2) nd rfl (Or.inl rfl) (pe_slice sl_list (pe_fld (pv 0) rfl) po_none (po_some (pe_callB (call_max2 rfl) (by rfl) T.max (by decide +kernel) (pa_cons pe_int (pa_cons (pv 1) pa_nil))))))
      (pss_cons (ps_fld (pv 0) (pe_slice sl_list (pe_fld (pv 0) rfl) (po_some (pe_callB call_len_seq (by rfl) T.len PySem.boot_len (pa_cons (pv 2) pa_nil))) po_none) rfl)
      (pss_one (ps_ret (pv 2))))), ?_⟩
    obtain ⟨dx, ha⟩ := R.ob
    refine ⟨_, rfl, _, rfl, a, S, dx, _, _, rfl, ha, T.cl, T.nF, rfl, fa, _, rfl, .inl (SqL.of R.f), _, _, rfl, rfl, _, rfl, ite2 (fun c => ?_) (fun c => ?_)⟩
    · have c := of_decide_eq_true c
      rw [List.length_map] at c
      exact k1 (by omega)
    · have c : n ≤ fr.length := by
        have : ¬ ((n : Int) > (((fr.map V.int).length : Nat) : Int)) := fun z => c (decide_eq_true z)
        rw [List.length_map] at this
        omega
      refine ⟨_, rfl, a, S, dx, _, _, rfl, ha, T.cl, T.nF, rfl, _, rfl, _, _, rfl, _, rfl, fa, _, rfl, SqL.of R.f, fun p hp => ?_⟩
      rw [cut_to c]
      have s1 := up1 (o := HO.lst ((fr.take n).map V.int)) hp
      have e1 : upd H p (HO.lst ((fr.take n).map V.int)) p = _ := upd_same
      generalize upd H p (HO.lst ((fr.take n).map V.int)) = H1 at s1 e1 ⊢
      have R1 := R.same s1
      refine ⟨_, rfl, a, S, dx, _, _, rfl, s1 _ _ ha, T.cl, T.nF, rfl, _, rfl, p, _, rfl, .inl (SqL.of e1), _, rfl, fa, _, rfl, SqL.of R1.f, fun fa' hfa' => ?_⟩
      have el : (((fr.take n).map V.int).length : Int) = ((n : Nat) : Int) := by rw [List.length_map, List.length_take]; omega
      rw [el, cut_from c]
      have s2 := up1 (o := HO.lst ((fr.drop n).map V.int)) hfa'
      have e2 : upd H1 fa' (HO.lst ((fr.drop n).map V.int)) fa' = _ := upd_same
      have p_fa' : p ≠ fa' := ne_of_none e1 hfa'
      have n2 := s1.free hfa'
      generalize upd H1 fa' (HO.lst ((fr.drop n).map V.int)) = H2 at s2 e2 ⊢
      have R2 := R1.same s2
      have ha2 := s2 _ _ (s1 _ _ ha)
      refine ⟨_, rfl, a, S, dx, _, rfl, ha2, T.cl, T.nF, (by show 5 < 1000; decide), _, rfl, ?_⟩
      have na : ∀ {q : Addr} {l : List V}, H2 q = some (.lst l) → q ≠ a := fun {q l} e => ne_of e ha2 (by intro z; cases z)
      refine k2 c _ p fa' hp n2 p_fa' ?_ ⟨⟨dx, upd_same⟩, ?_, ?_, ?_, R2.r.ins ha2, ne_of_none R1.w hfa', R1.d.2.1, R1.d.2.2⟩ fun b o e hb => by rw [upd_ne hb]; exact s2 _ _ (s1 _ _ e)
      · rw [upd_ne (na (s2 _ _ e1))]; exact s2 _ _ e1
      · rw [upd_ne (na e2)]; exact e2
      · rw [upd_ne (na R2.w)]; exact R2.w
      · rw [upd_ne (na R2.o)]; exact R2.o
theorem scGiveB : FnScope ["self", "cells"] ["self", "cells"] (defScope sGiveB) := ⟨rfl, rfl, rfl, by decide +kernel, rfl, by decide +kernel, by decide +kernel⟩
theorem mo_giveB (F : MT K S "give_back" "Store.give_back" sGiveB ["self", "cells"]) (T : STxt K mg S) : MO P w K mg base CX0 S 1 "give_back" ["self", "cells"] (spGiveB S) := by
  obtain ⟨f, fd, F, hm, hb⟩ := F
  refine ⟨f, fd, ?_, hm, hb⟩
  refine F.ok scGiveB (fun vs H Q E h => ?_) (fun cdv A outer s H vs Q E hr h => ?_)
  · obtain ⟨a, la, t, fa, wa, oa, fr, out, rows, ca, cs, rfl, _⟩ := h
    rfl
  · obtain ⟨a, la, t, fa, wa, oa, fr, out, rows, ca, cs, rfl, R, hc, hz, k⟩ := h
    have hsl : sizeLine = 16777216 := sizeLine_eq
    refine ⟨_, pss_one (ps_fld (pv 0) (pe_callB cr_sortedI (by rfl) T.sorted (by decide +kernel) (pa_cons (pe_lst (pa_star (pe_fld (pv 0) rfl) (pa_star (pv 1) pa_nil))) pa_nil)) rfl), ?_⟩
    obtain ⟨dx, ha⟩ := R.ob
    refine ⟨_, rfl, a, S, dx, _, _, rfl, ha, T.cl, T.nF, rfl, fa, _, rfl, .inr (SqL.of R.f), _, rfl, ca, _, rfl, .inr (SqL.of hc), ?_, fun q hq => ?_⟩
    · rw [List.length_append, List.length_append, List.length_map, List.length_map]
      simp only [List.length_nil]
      omega
    · have e0 : List.map V.int fr ++ (List.map V.int cs ++ []) = (fr ++ cs).map V.int := by rw [List.append_nil, List.map_append]
      rw [e0]
      have s1 := up1 (o := HO.lst ((fr ++ cs).map V.int)) hq
      have e1 : upd H q (HO.lst ((fr ++ cs).map V.int)) q = _ := upd_same
      generalize upd H q (HO.lst ((fr ++ cs).map V.int)) = H1 at s1 e1 ⊢
      refine ⟨q, _, rfl, SqL.of e1, fun fr' fa' pm asc hfa' => ?_⟩
      have s2 := up1 (o := HO.lst (fr'.map V.int)) hfa'
      have e2 : upd H1 fa' (HO.lst (fr'.map V.int)) fa' = _ := upd_same
      have n2 := s1.free hfa'
      generalize upd H1 fa' (HO.lst (fr'.map V.int)) = H2 at s2 e2 ⊢
      have R2 := (R.same s1).same s2
      have ha2 := s2 _ _ (s1 _ _ ha)
      refine ⟨_, rfl, a, S, dx, _, rfl, ha2, T.cl, T.nF, (by show 5 < 1000; decide), ?_⟩
      have na : ∀ {q : Addr} {l : List V}, H2 q = some (.lst l) → q ≠ a := fun {q l} e => ne_of e ha2 (by intro z; cases z)
      refine k _ fa' fr' pm asc n2 ⟨⟨dx, upd_same⟩, ?_, ?_, ?_, R2.r.ins ha2, ne_of_none (R.same s1).w hfa', R.d.2.1, R.d.2.2⟩ fun b o e hb => by rw [upd_ne hb]; exact s2 _ _ (s1 _ _ e)
      · rw [upd_ne (na e2)]; exact e2
      · rw [upd_ne (na R2.w)]; exact R2.w
      · rw [upd_ne (na R2.o)]; exact R2.o
theorem scTOut : FnScope ["self", "cells"] ["self", "cells"] (defScope sTOut) := ⟨rfl, rfl, rfl, by decide +kernel, rfl, by decide +kernel, by decide +kernel⟩
theorem mo_tout (F : MT K S "take_out" "Store.take_out" sTOut ["self", "cells"]) (T : STxt K mg S) : MO P w K mg base CX0 S 1 "take_out" ["self", "cells"] (spTOut S) := by
  obtain ⟨f, fd, F, hm, hb⟩ := F
  refine ⟨f, fd, ?_, hm, hb⟩
  refine F.ok scTOut (fun vs H Q E h => ?_) (fun cdv A outer s H vs Q E hr h => ?_)
  · obtain ⟨a, la, t, fa, wa, oa, fr, out, rows, ca, cs, rfl, _⟩ := h
    rfl
  · obtain ⟨a, la, t, fa, wa, oa, fr, out, rows, ca, cs, rfl, R, hc, hz, k⟩ := h
    have hsl : sizeLine = 16777216 := sizeLine_eq
    refine ⟨_, pss_one (ps_fld (pv 0) (pe_lst (pa_star (pe_fld (pv 0) rfl) (pa_star (pv 1) pa_nil))) rfl), ?_⟩
    obtain ⟨dx, ha⟩ := R.ob
    refine ⟨_, rfl, a, S, dx, _, _, rfl, ha, T.cl, T.nO, rfl, oa, _, rfl, .inr (SqL.of R.o), _, rfl, ca, _, rfl, .inr (SqL.of hc), ?_, fun q hq => ?_⟩
    · rw [List.length_append, List.length_append, List.length_map, List.length_map]
      simp only [List.length_nil]
      omega
    · have e0 : List.map V.int out ++ (List.map V.int cs ++ []) = (out ++ cs).map V.int := by rw [List.append_nil, List.map_append]
      rw [e0]
      have s1 := up1 (o := HO.lst ((out ++ cs).map V.int)) hq
      have e1 : upd H q (HO.lst ((out ++ cs).map V.int)) q = _ := upd_same
      generalize upd H q (HO.lst ((out ++ cs).map V.int)) = H2 at s1 e1 ⊢
      have R2 := R.same s1
      have ha2 := s1 _ _ ha
      refine ⟨_, rfl, a, S, dx, _, rfl, ha2, T.cl, T.nO, (by show 5 < 1000; decide), ?_⟩
      have na : ∀ {q : Addr} {l : List V}, H2 q = some (.lst l) → q ≠ a := fun {q l} e => ne_of e ha2 (by intro z; cases z)
      refine k _ q hq ⟨⟨dx, upd_same⟩, ?_, ?_, ?_, R2.r.ins ha2, R.d.1, ne_of_none R.w hq, R.d.2.2⟩ fun b o e hb => by rw [upd_ne hb]; exact s1 _ _ e
      · rw [upd_ne (na R2.f)]; exact R2.f
      · rw [upd_ne (na R2.w)]; exact R2.w
      · rw [upd_ne (na e1)]; exact e1
theorem scFreeC : FnScope ["self"] ["self"] (defScope sFreeC) := ⟨rfl, rfl, rfl, by decide +kernel, rfl, by decide +kernel, by decide +kernel⟩
theorem mo_freeC (F : MT K S "free_cells" "Store.free_cells" sFreeC ["self"]) (T : STxt K mg S) : MO P w K mg base CX0 S 1 "free_cells" ["self"] (spFreeC S) := by
  obtain ⟨f, fd, F, hm, hb⟩ := F
  refine ⟨f, fd, ?_, hm, hb⟩
  refine F.ok scFreeC (fun vs H Q E h => ?_) (fun cdv A outer s H vs Q E hr h => ?_)
  · obtain ⟨a, la, t, fa, wa, oa, fr, out, rows, rfl, _⟩ := h
    rfl
  · obtain ⟨a, la, t, fa, wa, oa, fr, out, rows, rfl, R, k⟩ := h
    obtain ⟨dx, ha⟩ := R.ob
    refine ⟨_, pss_one (ps_ret (pe_callTy call_list_of (by rfl) T.list (by decide +kernel) (pa_cons (pe_fld (pv 0) rfl) pa_nil))), ?_⟩
    exact ⟨_, rfl, a, S, dx, _, _, rfl, ha, T.cl, T.nF, rfl, fa, _, rfl, .inl (SqL.of R.f), fun p hp => k _ p hp upd_same (up1 hp)⟩
theorem scHasOut : FnScope ["self"] ["self"] (defScope sHasOut) := ⟨rfl, rfl, rfl, by decide +kernel, rfl, by decide +kernel, by decide +kernel⟩
theorem mo_hasOut (F : MT K S "has_taken_out" "Store.has_taken_out" sHasOut ["self"]) (T : STxt K mg S) : MO P w K mg base CX0 S 1 "has_taken_out" ["self"] (spHasOut S) := by
  obtain ⟨f, fd, F, hm, hb⟩ := F
  refine ⟨f, fd, ?_, hm, hb⟩
  refine F.ok scHasOut (fun vs H Q E h => ?_) (fun cdv A outer s H vs Q E hr h => ?_)
  · obtain ⟨a, la, t, fa, wa, oa, fr, out, rows, rfl, _⟩ := h
    rfl
  · obtain ⟨a, la, t, fa, wa, oa, fr, out, rows, rfl, R, k⟩ := h
    obtain ⟨dx, ha⟩ := R.ob
    refine ⟨_, (pss_one (ps_ret (pe_callTy call_boolL (by rfl) T.bool (by decide +kernel) (pa_cons (pe_fld (pv 0) rfl) pa_nil)))), ?_⟩
    refine ⟨_, rfl, a, S, dx, _, _, rfl, ha, T.cl, T.nO, rfl, oa, _, rfl, SqL.of R.o, ?_⟩
    have e : (out.map V.int).isEmpty = out.isEmpty := by cases out <;> rfl
    rw [e]
    exact k
theorem scHasWait : FnScope ["self"] ["self"] (defScope sHasWait) := ⟨rfl, rfl, rfl, by decide +kernel, rfl, by decide +kernel, by decide +kernel⟩
theorem mo_hasWait (F : MT K S "has_waiting" "Store.has_waiting" sHasWait ["self"]) (T : STxt K mg S) : MO P w K mg base CX0 S 1 "has_waiting" ["self"] (spHasWait S) := by
  obtain ⟨f, fd, F, hm, hb⟩ := F
  refine ⟨f, fd, ?_, hm, hb⟩
  refine F.ok scHasWait (fun vs H Q E h => ?_) (fun cdv A outer s H vs Q E hr h => ?_)
  · obtain ⟨a, la, t, fa, wa, oa, fr, out, rows, rfl, _⟩ := h
    rfl
  · obtain ⟨a, la, t, fa, wa, oa, fr, out, rows, rfl, R, k⟩ := h
    obtain ⟨dx, ha⟩ := R.ob
    refine ⟨_, (pss_one (ps_ret (pe_callTy call_boolL (by rfl) T.bool (by decide +kernel) (pa_cons (pe_fld (pv 0) rfl) pa_nil)))), ?_⟩
    refine ⟨_, rfl, a, S, dx, _, _, rfl, ha, T.cl, T.nW, rfl, wa, _, rfl, SqL.of R.w, ?_⟩
    have e : (rows.map fun (r : Rw) => V.ref r.p).isEmpty = rows.isEmpty := by cases rows <;> rfl
    rw [e]
    exact k
theorem scStamp : FnScope ["self", "epoch"] ["self", "epoch"] (defScope sStamp) := ⟨rfl, rfl, rfl, by decide +kernel, rfl, by decide +kernel, by decide +kernel⟩
theorem mo_stamp (F : MT K S "stamp" "Store.stamp" sStamp ["self", "epoch"]) (T : STxt K mg S) : MO P w K mg base CX0 S 1 "stamp" ["self", "epoch"] (spStamp S) := by
  obtain ⟨f, fd, F, hm, hb⟩ := F
  refine ⟨f, fd, ?_, hm, hb⟩
  refine F.ok scStamp (fun vs H Q E h => ?_) (fun cdv A outer s H vs Q E hr h => ?_)
  · obtain ⟨a, la, t, fa, wa, oa, fr, out, rows, e, rfl, _⟩ := h
    rfl
  · obtain ⟨a, la, t, fa, wa, oa, fr, out, rows, e, rfl, R, hz, k⟩ := h
    have hsl : sizeLine = 16777216 := sizeLine_eq
    obtain ⟨dx, ha⟩ := R.ob
    refine ⟨_, (pss_cons (ps_expr (pe_bm PySem.F.plainAttrs_list PySem.F.slot_list_append PySem.F.type_list_append mt_append (pe_fld (pv 0) rfl) (pa_cons (pe_tup (pa_cons (pv 1) (pa_cons (pe_fld (pv 0) rfl) pa_nil))) pa_nil)))
  (pss_one (ps_fld (pv 0) (pe_lst pa_nil) rfl))), ?_⟩
    refine ⟨_, rfl, a, S, dx, _, _, rfl, ha, T.cl, T.nW, rfl, .inl ⟨rfl, _, SqL.of R.w⟩, _, rfl, _, rfl, a, S, dx, _, _, rfl, ha, T.cl, T.nO, rfl, (by show 2 ≤ sizeLine; decide), fun p hp => ?_⟩
    have s1 := up1 (o := HO.tup [V.int e, V.ref oa]) hp
    have e1 : upd H p (HO.tup [V.int e, V.ref oa]) p = _ := upd_same
    generalize upd H p (HO.tup [V.int e, V.ref oa]) = H1 at s1 e1 ⊢
    have R1 := R.same s1
    refine ⟨wa, _, _, rfl, rfl, R1.w, (by rw [List.length_map]; omega), ?_⟩
    have ha1 := s1 _ _ ha
    have wa_a : wa ≠ a := ne_of R1.w ha1 (by intro z; cases z)
    have p_wa : p ≠ wa := ne_of e1 R1.w (by intro z; cases z)
    have k2 : ∀ b o, H1 b = some o → b ≠ wa → upd H1 wa (.lst ((rows.map fun (r : Rw) => V.ref r.p) ++ [.ref p])) b = some o := fun b o q n => by rw [upd_ne n]; exact q
    have w2 : upd H1 wa (.lst ((rows.map fun (r : Rw) => V.ref r.p) ++ [.ref p])) wa = some (.lst ((rows ++ [(⟨p, oa, e, out⟩ : Rw)]).map fun (r : Rw) => V.ref r.p)) := by rw [upd_same, List.map_append]; rfl
    generalize upd H1 wa (.lst ((rows.map fun (r : Rw) => V.ref r.p) ++ [.ref p])) = H2 at k2 w2 ⊢
    refine ⟨(by show 0 ≤ sizeLine; exact Nat.zero_le _), fun oa' hoa => ⟨_, rfl, a, S, dx, _, rfl, up1 hoa _ _ (k2 _ _ ha1 wa_a.symm), T.cl, T.nO, (by show 5 < 1000; decide), ?_⟩⟩
    have oa_wa : oa' ≠ wa := (ne_of_none w2 hoa).symm
    have nH : H oa' = none := by
      cases q : H oa' with
      | none => rfl
      | some o =>
        have := k2 _ _ (s1 _ _ q) oa_wa
        rw [hoa] at this
        cases this
    have oa_a : oa' ≠ a := (ne_of_none (k2 _ _ ha1 wa_a.symm) hoa).symm
    have na : ∀ {b : Addr} {o : HO}, H1 b = some o → b ≠ wa → b ≠ a → upd (upd H2 oa' (.lst [])) a (.ins S dx (sfs la t fa wa oa')) b = some o := fun {b o} q n1 n2 => by
      rw [upd_ne n2]; exact up1 hoa _ _ (k2 _ _ q n1)
    have fa_a : fa ≠ a := ne_of R1.f ha1 (by intro z; cases z)
    have oa0_a : oa ≠ a := ne_of R1.o ha1 (by intro z; cases z)
    refine k _ p oa' hp nH ⟨⟨dx, upd_same⟩, na R1.f R.d.1.symm fa_a, ?_, ?_, fun r hr => ?_, R.d.1, oa_wa.symm, fun r hr => ?_⟩ fun b o q n1 n2 => na (s1 _ _ q) n2 n1
    · rw [upd_ne wa_a]; exact up1 hoa _ _ w2
    · rw [upd_ne oa_a]; exact upd_same
    · rcases List.mem_append.mp hr with q | q
      · obtain ⟨q1, q2⟩ := R1.r r q
        exact ⟨na q1 (ne_of q1 R1.w (by intro z; cases z)) (ne_of q1 ha1 (by intro z; cases z)), na q2 (R.d.2.2 r q) (ne_of q2 ha1 (by intro z; cases z))⟩
      · rw [List.mem_singleton.mp q]
        exact ⟨na e1 p_wa (ne_of e1 ha1 (by intro z; cases z)), na R1.o R.d.2.1.symm oa0_a⟩
    · rcases List.mem_append.mp hr with q | q
      · exact R.d.2.2 r q
      · rw [List.mem_singleton.mp q]
        exact R.d.2.1.symm
theorem upTo_succ {last : Int} {rows : List Rw} {i : Nat} (h : i < rows.length) : upTo last (rows.take (i + 1)) = upTo last (rows.take i) ++ (if rows[i].e ≤ last then rows[i].cs else []) := by
  unfold upTo
  rw [List.take_succ_eq_append_getElem h, List.filter_append, List.flatMap_append, List.filter_cons]
  by_cases c : rows[i].e ≤ last
  · rw [if_pos c, if_pos (decide_eq_true c)]; simp
  · rw [if_neg c, if_neg (by simpa using c)]; simp
theorem upTo_le {last : Int} {rows : List Rw} {i : Nat} : (upTo last (rows.take i)).length ≤ (upTo last rows).length := by
  have e : rows = rows.take i ++ rows.drop i := (List.take_append_drop i rows).symm
  have h : upTo last rows = upTo last (rows.take i) ++ upTo last (rows.drop i) := by
    unfold upTo
    rw [← List.flatMap_append, ← List.filter_append, ← e]
  rw [h, List.length_append]
  omega
theorem rows_get {rows : List Rw} {i : Nat} {x : V} (hi : (rows.map fun (r : Rw) => V.ref r.p)[i]? = some x) : ∃ h : i < rows.length, x = .ref rows[i].p := by
  have hil : i < rows.length := by
    have := (List.getElem?_eq_some_iff.mp hi).1
    rwa [List.length_map] at this
  rw [List.getElem?_map, List.getElem?_eq_getElem hil] at hi
  exact ⟨hil, (Option.some.inj hi).symm⟩
theorem fil_map {p : Rw → Bool} {rows : List Rw} {i : Nat} (h : i < rows.length) : ((rows.take (i + 1)).filter p) = (rows.take i).filter p ++ (if p rows[i] then [rows[i]] else []) := by
  rw [List.take_succ_eq_append_getElem h, List.filter_append, List.filter_cons]
  split <;> rfl
theorem scFreeUp : FnScope ["self", "last", "rows", "row", "stamp", "cells", "cell"] ["self", "last"] (defScope sFreeUp) := ⟨rfl, rfl, rfl, by decide +kernel, rfl, by decide +kernel, by decide +kernel⟩
theorem mo_freeUp (F : MT K S "free_up_to" "Store.free_up_to" sFreeUp ["self", "last"]) (T : STxt K mg S) (GG : MO P w K mg base CX0 S 1 "give_back" ["self", "cells"] (spGiveB S)) : MO P w K mg base CX0 S 2 "free_up_to" ["self", "last"] (spFreeUp S) := by
  obtain ⟨f, fd, F, hm, hb⟩ := F
  refine ⟨f, fd, ?_, hm, hb⟩
  refine F.ok scFreeUp (fun vs H Q E h => ?_) (fun cdv A outer s H vs Q E hr h => ?_)
  · obtain ⟨a, la, t, fa, wa, oa, fr, out, rows, last, rfl, _⟩ := h
    rfl
  · obtain ⟨a, la, t, fa, wa, oa, fr, out, rows, last, rfl, R, hz, hz2, k⟩ := h
    have hsl : sizeLine = 16777216 := sizeLine_eq
    have nd := scFreeUp.nd
    have hr1 : Room 1 _ := hr
    obtain ⟨dx, ha⟩ := R.ob
    refine ⟨_, (pss_cons (ps_set (i := 2) nd rfl (Or.inl rfl) (pe_fld (pv 0) rfl))
  (pss_cons (ps_fld (pv 0) (pe_lc (own := [("row", 3)]) (g := (gName 3)) (tt := tTest (tOp (rI0 fun i j => .bl (decide (j < i))) (tOp (rIxT K) (tVar 3) (tC (.int 0))) (tVar 1))) rfl nd (pi_list (pv 2)) (blkOk_by (N := ["self", "last", "rows", "row", "stamp", "cells", "cell"]) (sc := defScope sFreeUp) (by decide +kernel)) (fun _ _ _ _ _ => (pg_name (i := 3) nd rfl (Or.inl rfl))) (fun _ _ _ _ _ => pts_one (pt_cmpR op_gt (pe_ix ix_tup (pv 3) pe_int (fun _ _ => rfl)) (pv 1) (nomark _))) (fun _ _ _ _ _ => (pv 3))) rfl)
  (pss_one (ps_expr (pm_ GG T.cl hr1 (pv 0) (pa_cons (pe_lc2 (own := [("stamp", 4), ("cells", 5), ("cell", 6)]) (vs1 := [6]) (g := gTup K 2 (gCons (gName 4) (gCons (gName 5) gNil))) (g1 := gName 6) (tt := tTest (tOp (rI0 fun i j => .bl (decide (i ≤ j))) (tVar 4) (tVar 1))) (tt1 := tYes) (te := tVar 6) (wi1 := iList K (tVar 5)) rfl nd (pi_list (pv 2)) (blkOk_by (N := ["self", "last", "rows", "row", "stamp", "cells", "cell"]) (sc := defScope sFreeUp) (by decide +kernel)) (by decide) (fun _ _ _ _ _ => pg_tup (by rfl) (pgs_cons (pg_name (i := 4) nd rfl (Or.inl rfl)) (pgs_cons (pg_name (i := 5) nd rfl (Or.inl rfl)) pgs_nil))) (fun _ _ _ _ _ => pts_one (pt_cmpR op_le (pv 4) (pv 1) (nomark _))) (fun _ _ _ _ _ => pi_list (pv 5)) (fun _ _ _ _ _ => pg_name (i := 6) nd rfl (Or.inl rfl)) (fun _ _ _ _ _ => pts_nil) (fun _ _ _ _ _ => pv 6)) pa_nil)))))), ?_⟩
    refine ⟨_, rfl, a, S, dx, _, _, rfl, ha, T.cl, T.nW, rfl, ?_⟩
    refine ⟨_, rfl, wa, rfl, ⟨_, SqL.of R.w⟩, fun D hD => lc_list (K := K) (a := wa) (xs := rows.map fun (r : Rw) => V.ref r.p) (fun i H' => H' D = some (.lst (((rows.take i).filter fun r => decide (last < r.e)).map fun (r : Rw) => V.ref r.p)) ∧ Same H H') ⟨upd_same, up1 hD⟩ (fun i H' _ q => SqL.of (q.2 _ _ R.w)) ?_ ?_⟩
    · rintro i x H' hi ⟨hD', s1⟩
      obtain ⟨hil, rfl⟩ := rows_get hi
      have rr := R.r rows[i] (List.getElem_mem hil)
      refine ⟨rfl, _, rfl, rows[i].p, _, 0, _, rfl, rfl, SqT.of (s1 _ _ rr.1), at_head, _, rfl, _, _, rfl, rfl, ?_⟩
      refine ⟨_, rfl, ?_⟩
      by_cases c : last < rows[i].e
      · rw [decide_eq_true c]
        refine iteT ⟨_, rfl, _, hD', ?_, ?_, fun b o e => by rw [upd_ne (ne_of_none e hD)]; exact s1 b o e⟩
        · rw [List.length_map]
          have := List.length_filter_le (fun r : Rw => decide (last < r.e)) (rows.take i)
          rw [List.length_take] at this
          omega
        · rw [upd_same, fil_map hil, if_pos (decide_eq_true c), List.map_append]
          rfl
      · rw [decide_eq_false c]
        refine iteF ⟨?_, s1⟩
        rw [fil_map hil, if_neg (by simpa using c), List.append_nil]
        exact hD'
    rintro H1 ⟨hD1, s1⟩
    rw [List.length_map, List.take_length] at hD1
    have ha1 := s1 _ _ ha
    refine ⟨_, rfl, a, S, dx, _, rfl, ha1, T.cl, T.nW, (by show 5 < 1000; decide), ?_⟩
    have R1 := R.same s1
    have na : ∀ {q : Addr} {l : List V}, H1 q = some (.lst l) → q ≠ a := fun {q l} e => ne_of e ha1 (by intro z; cases z)
    have rsub : ∀ r, r ∈ rows.filter (fun r => decide (last < r.e)) → r ∈ rows := fun r hr => (List.mem_filter.mp hr).1
    obtain ⟨H2, e2, kp2⟩ : ∃ H2, upd H1 a (.ins S dx (sfs la t fa D oa)) = H2 ∧ ∀ b o, H1 b = some o → b ≠ a → H2 b = some o := ⟨_, rfl, fun b o q n => by rw [upd_ne n]; exact q⟩
    have hw2 : H2 wa = some (.lst (rows.map fun (r : Rw) => V.ref r.p)) := kp2 _ _ R1.w (na R1.w)
    have rw2 : RwOk H2 rows := by rw [← e2]; exact R1.r.ins ha1
    have R2 : StAt S H2 a la t fa D oa fr out (rows.filter fun r => decide (last < r.e)) := by
      refine ⟨⟨dx, by rw [← e2]; exact upd_same⟩, kp2 _ _ R1.f (na R1.f), kp2 _ _ hD1 (na hD1), kp2 _ _ R1.o (na R1.o), fun r hr => rw2 r (rsub r hr), (ne_of_none R.f hD).symm, (ne_of_none R.o hD).symm, fun r hr => ne_of_none (R.r r (rsub r hr)).2 hD⟩
    have kp : Kept a H H2 := fun b o q n => kp2 _ _ (s1 _ _ q) n
    obtain ⟨dx2, ha2⟩ := R2.ob
    have eP : putF ("_waiting" : Str) (.ref D) (sfs la t fa wa oa) = sfs la t fa D oa := rfl
    rw [eP, e2]
    refine ⟨_, rfl, a, dx2, _, rfl, ha2, rfl, _, rfl, wa, rfl, ⟨_, SqL.of hw2⟩, fun D2 hD2 => it_list (K := K) (a := wa) (xs := rows.map fun (r : Rw) => V.ref r.p) (fun i H' => H' D2 = some (.lst ((upTo last (rows.take i)).map V.int)) ∧ Same H2 H') ⟨upd_same, up1 hD2⟩ (fun i H' _ q => SqL.of (q.2 _ _ hw2)) ?_ ?_⟩
    · rintro i x H' hi ⟨hD', s2⟩
      obtain ⟨hil, rfl⟩ := rows_get hi
      have rr := rw2 rows[i] (List.getElem_mem hil)
      have h1 := s2 _ _ rr.1
      have h2 := s2 _ _ rr.2
      refine ⟨rows[i].p, _, rfl, SqT.of h1, rfl, _, _, rfl, _, _, rfl, rfl, rfl, _, rfl, _, rfl, _, _, rfl, rfl, _, rfl, ?_⟩
      have eU := upTo_succ (last := last) hil
      by_cases c : rows[i].e ≤ last
      · rw [decide_eq_true c]
        rw [if_pos c] at eU
        refine iteT ⟨_, rfl, rows[i].q, rfl, ⟨_, SqL.of h2⟩, it_list (K := K) (a := rows[i].q) (xs := rows[i].cs.map V.int) (fun j H' => H' D2 = some (.lst ((upTo last (rows.take i) ++ rows[i].cs.take j).map V.int)) ∧ Same H2 H') ⟨by rw [List.take_zero, List.append_nil]; exact hD', s2⟩ (fun j H' _ q => SqL.of (q.2 _ _ rr.2)) ?_ ?_⟩
        · rintro j x H' hj ⟨hD', s3⟩
          have hjl : j < rows[i].cs.length := by
            have := (List.getElem?_eq_some_iff.mp hj).1
            rwa [List.length_map] at this
          have hx : x = .int rows[i].cs[j] := by
            rw [List.getElem?_map, List.getElem?_eq_getElem hjl] at hj
            exact (Option.some.inj hj).symm
          subst hx
          refine ⟨rfl, _, rfl, _, hD', ?_, ?_, fun b o e => by rw [upd_ne (ne_of_none e hD2)]; exact s3 b o e⟩
          · rw [List.length_map, List.length_append]
            have h5 := upTo_le (last := last) (rows := rows) (i := i + 1)
            rw [eU, List.length_append] at h5
            rw [List.length_take]
            omega
          · rw [upd_same, List.take_succ_eq_append_getElem hjl, ← List.append_assoc, List.map_append (l₂ := [_])]
            rfl
        · rintro H' ⟨hD', s3⟩
          rw [List.length_map, List.take_length, ← eU] at hD'
          exact ⟨hD', s3⟩
      · rw [decide_eq_false c]
        rw [if_neg c, List.append_nil] at eU
        refine iteF ⟨?_, s2⟩
        rw [eU]
        exact hD'
    rintro H3 ⟨hD3, s3⟩
    rw [List.length_map, List.take_length] at hD3
    refine ⟨a, la, t, fa, D, oa, fr, out, _, D2, _, rfl, R2.same s3, hD3, hz2, fun H4 fa' fr' pm asc nfa R4 kp4 => ?_⟩
    have frk : ∀ {q : Addr}, H2 q = none → H q = none := fun {q} e => by
      cases h : H q with
      | none => rfl
      | some o =>
        have := kp q o h (fun z => by rw [z, ha2] at e; cases e)
        rw [e] at this
        cases this
    exact k H4 fa' D fr' pm asc (frk (s3.free nfa)) hD R4 fun b o e n => kp4 b o (s3 _ _ (kp b o e n)) n
theorem dpi {K : PySem.W.Frag} {H : Hp} : ∀ ns : List Int, DpAll K H (ns.map V.int) (ns.map PyData.int)
  | [] => .nil
  | n :: r => .cons (.int n) (dpi r)
theorem dl {K : PySem.W.Frag} {H : Hp} {a : Addr} {ns : List Int} (h : H a = some (.lst (ns.map V.int))) : Dp K H (.ref a) (.list (ns.map .int)) := .lst (SqL.of h) (dpi ns)
theorem dpRows {K : PySem.W.Frag} {H : Hp} : ∀ (ps : List (Addr × Addr)) (rows : List Rw), ps.length = rows.length → (∀ (j : Nat) (p : Addr × Addr) (r : Rw), ps[j]? = some p → rows[j]? = some r → H p.1 = some (.tup [.int r.e, .ref p.2]) ∧ H p.2 = some (.lst (r.cs.map V.int))) → DpAll K H (ps.map fun p => V.ref p.1) (rows.map rD)
  | [], [], _, _ => .nil
  | [], _ :: _, h, _ => by simp at h
  | _ :: _, [], h, _ => by simp at h
  | p :: ps, r :: rows, h, hr => by
    obtain ⟨h1, h2⟩ := hr 0 p r rfl rfl
    exact .cons (.tup (SqT.of h1) (.cons (.int _) (.cons (dl h2) .nil))) (dpRows ps rows (by simpa using h) fun j p' r' e1 e2 => hr (j + 1) p' r' e1 e2)
theorem scWait : FnScope ["self", "rows", "stamp", "cells"] ["self"] (defScope sWait) := ⟨rfl, rfl, rfl, by decide +kernel, rfl, by decide +kernel, by decide +kernel⟩
theorem mo_wait (F : MT K S "waiting" "Store.waiting" sWait ["self"]) (T : STxt K mg S) : MO P w K mg base CX0 S 1 "waiting" ["self"] (spWait K S) := by
  obtain ⟨f, fd, F, hm, hb⟩ := F
  refine ⟨f, fd, ?_, hm, hb⟩
  refine F.ok scWait (fun vs H Q E h => ?_) (fun cdv A outer s H vs Q E hr h => ?_)
  · obtain ⟨a, la, t, fa, wa, oa, fr, rows, rfl, _⟩ := h
    rfl
  · obtain ⟨a, la, t, fa, wa, oa, fr, rows, rfl, R, hz, k⟩ := h
    obtain ⟨dx, ha⟩ := R.ob
    have nd := scWait.nd
    have hsl : sizeLine = 16777216 := sizeLine_eq
    refine ⟨_, (pss_cons (ps_setLc (i := 1) (own := [("stamp", 2), ("cells", 3)]) (g := (gTup K 2 (gCons (gName 2) (gCons (gName 3) gNil)))) (tt := tYes) rfl nd rfl rfl (sw_true rfl rfl rfl (by decide +kernel)) (pi_list (pe_fld (pv 0) rfl)) (blkOk_by (N := ["self", "rows", "stamp", "cells"]) (sc := defScope sWait) (by decide +kernel)) (fun _ _ _ _ _ => (pg_tup (by rfl) (pgs_cons (pg_name (i := 2) nd rfl (Or.inl rfl)) (pgs_cons (pg_name (i := 3) nd rfl (Or.inl rfl)) pgs_nil)))) (fun _ _ _ _ _ => pts_nil) (fun _ _ _ _ _ => (pe_tup (pa_cons (pv 2) (pa_cons (pe_callTy (T := "list") (r := rLof K) call_list_of (by rfl) T.list (by decide +kernel) (pa_cons (pv 3) pa_nil)) pa_nil)))))
  (pss_cons (ps_if (pt_truth (pe_fld (pv 0) rfl) (by intro _; rfl))
  (pss_one (ps_expr (pe_bm PySem.F.plainAttrs_list PySem.F.slot_list_append PySem.F.type_list_append mt_append (pv 1) (pa_cons (pe_tup (pa_cons pe_non (pa_cons (pe_callTy call_list_of (by rfl) T.list (by decide +kernel) (pa_cons (pe_fld (pv 0) rfl) pa_nil)) pa_nil))) pa_nil))))
  pss_nil)
  (pss_one (ps_ret (pv 1))))), ?_⟩
    refine ⟨_, rfl, a, S, dx, _, _, rfl, ha, T.cl, T.nW, rfl, wa, rfl, ⟨_, SqL.of R.w⟩, fun D hD => lc_list (K := K) (a := wa) (xs := rows.map fun (r : Rw) => V.ref r.p) (fun i H' => Same H H' ∧ ∃ ps : List (Addr × Addr), H' D = some (.lst (ps.map fun p => V.ref p.1)) ∧ ps.length = i ∧ ∀ (j : Nat) (p : Addr × Addr) (r : Rw), ps[j]? = some p → rows[j]? = some r → p.2 ≠ D ∧ H' p.1 = some (.tup [.int r.e, .ref p.2]) ∧ H' p.2 = some (.lst (r.cs.map V.int)))
      ⟨up1 hD, [], upd_same, rfl, fun j p r e => by simp at e⟩ (fun i H' _ q => SqL.of (q.1 _ _ R.w)) ?_ ?_⟩
    · rintro i x H' hi ⟨s1, ps, hD', pl, pr⟩
      obtain ⟨hil, rfl⟩ := rows_get hi
      have rr := R.r rows[i] (List.getElem_mem hil)
      have h1 := s1 _ _ rr.1
      have h2 := s1 _ _ rr.2
      refine ⟨rows[i].p, _, rfl, SqT.of h1, rfl, _, _, rfl, _, _, rfl, rfl, rfl, _, rfl, _, rfl, rows[i].q, _, rfl, .inl (SqL.of h2), fun q hq => ⟨(by show 2 ≤ sizeLine; decide), fun p hp => ?_⟩⟩
      have s2 := up1 (o := HO.lst (rows[i].cs.map V.int)) hq
      have e2 : upd H' q (HO.lst (rows[i].cs.map V.int)) q = _ := upd_same
      have q_D : q ≠ D := (ne_of_none hD' hq).symm
      generalize upd H' q (HO.lst (rows[i].cs.map V.int)) = H2 at s2 e2 hp ⊢
      have s3 := up1 (o := HO.tup [V.int rows[i].e, V.ref q]) hp
      have e3 : upd H2 p (HO.tup [V.int rows[i].e, V.ref q]) p = _ := upd_same
      generalize upd H2 p (HO.tup [V.int rows[i].e, V.ref q]) = H3 at s3 e3 ⊢
      have hD3 := s3 _ _ (s2 _ _ hD')
      have kD : ∀ {b : Addr} {o : HO} {l : List V}, H3 b = some o → b ≠ D → upd H3 D (.lst l) b = some o := fun {b o l} e n => by rw [upd_ne n]; exact e
      refine ⟨_, hD3, (by rw [List.length_map]; omega), fun b o e => by rw [upd_ne (ne_of_none e hD)]; exact s3 _ _ (s2 _ _ (s1 _ _ e)), ps ++ [(p, q)], by rw [upd_same, List.map_append]; rfl, by rw [List.length_append, pl]; rfl, fun j p' r' e1 e2' => ?_⟩
      by_cases c : j < ps.length
      · rw [List.getElem?_append_left c] at e1
        obtain ⟨g1, g2, g3⟩ := pr j p' r' e1 e2'
        have g2 := s3 _ _ (s2 _ _ g2)
        exact ⟨g1, kD g2 (ne_of g2 hD3 (by intro z; cases z)), kD (s3 _ _ (s2 _ _ g3)) g1⟩
      · have ej : j = i := by
          have := (List.getElem?_eq_some_iff.mp e1).1
          rw [List.length_append, List.length_singleton] at this
          omega
        subst ej
        rw [List.getElem?_append_right (by omega), pl, Nat.sub_self] at e1
        have e1 := Option.some.inj e1
        subst e1
        rw [List.getElem?_eq_getElem hil] at e2'
        have e2' := Option.some.inj e2'
        subst e2'
        exact ⟨q_D, kD e3 (ne_of e3 hD3 (by intro z; cases z)), kD (s3 _ _ e2) q_D⟩
    · rintro H1 ⟨s1, ps, hD1, pl, pr⟩
      rw [List.length_map] at pl
      refine ⟨_, rfl, a, S, dx, _, _, rfl, s1 _ _ ha, T.cl, T.nO, rfl, false, .inl ⟨_, SqL.of (s1 _ _ R.o), rfl⟩, iteF ⟨_, rfl, k H1 D hD ?_ s1⟩⟩
      exact .lst (SqL.of hD1) (dpRows ps rows pl fun j p r e1 e2 => (pr j p r e1 e2).2)
theorem scDivided : FnScope ["layout", "cells", "thread", "first", "cell"] ["layout", "cells", "thread"] (defScope sDivided) := ⟨rfl, rfl, rfl, by decide +kernel, rfl, by decide +kernel, by decide +kernel⟩
theorem go_divided (F : GT K mg "divided" sDivided ["layout", "cells", "thread"]) (T : LTxt K mg C) (TS : STxt K mg S) (G : MO P w K mg base CX0 C 4 "record" ["self", "index"] (spL1 C fun t w _ i => .int (rec0 t w + i))) :
    GO P w K mg base CX0 5 "divided" ["layout", "cells", "thread"] (spDivided C) := by
  obtain ⟨f, fd, F, hm, hb⟩ := F
  refine ⟨f, fd, ?_, hm, F.kp, hb⟩
  refine F.ok scDivided (fun vs H Q E h => ?_) (fun cdv A outer s H vs Q E hr h => ?_)
  · obtain ⟨la, t, w, r, ca, cs, th, rfl, _⟩ := h
    rfl
  · obtain ⟨la, t, w, r, ca, cs, th, rfl, L, ht, hc, hz, k⟩ := h
    have nd := scDivided.nd
    have hsl : sizeLine = 16777216 := sizeLine_eq
    have hr4 : Room 4 _ := hr.mono (by decide)
    obtain ⟨dx, ha⟩ := id L
    refine ⟨_, pss_cons (ps_set (i := 3) nd rfl (Or.inr rfl) (pm_ G T.cl hr4 (pv 0) (pa_cons pe_int pa_nil)))
      (pss_one (ps_ret (pe_callB cr_sortedI (by rfl) TS.sorted (by decide +kernel) (pa_cons (pe_lc (own := [("cell", 4)]) (g := gName 4) (tt := tTest (tOp rEq (tOp (rI (fun _ j => j ≠ 0) fun i j => .int (i.fmod j)) (tOp (rI0 fun i j => .int (i - j)) (tVar 4) (tVar 3)) (tFld K (tVar 0) "threads")) (tVar 2))) rfl nd (pi_list (pv 1))
        (blkOk_by (N := ["layout", "cells", "thread", "first", "cell"]) (sc := defScope sDivided) (by decide +kernel)) (fun _ _ _ _ _ => pg_name (i := 4) nd rfl (Or.inl rfl))
        (fun _ _ _ _ _ => pts_one (pt_cmpR op_eq (pe_op op_modN (pe_op op_sub (pv 4) (pv 3)) (pe_fld (pv 0) rfl)) (pv 2) (nomark _))) (fun _ _ _ _ _ => pv 4)) pa_nil)))), ?_⟩
    refine ⟨_, rfl, la, dx, _, rfl, ha, rfl, la, t, w, r, 0, rfl, L, ?_⟩
    refine ⟨_, rfl, ca, rfl, ⟨_, SqL.of hc⟩, fun D hD => lc_list (K := K) (a := ca) (xs := cs.map V.int) (fun i H' => H' D = some (.lst (((cs.take i).filter fun c => decide ((c - (rec0 t w + 0)).fmod t = th)).map V.int)) ∧ Same H H') ⟨upd_same, up1 hD⟩ (fun i H' _ q => SqL.of (q.2 _ _ hc)) ?_ ?_⟩
    · rintro i x H' hi ⟨hD', s1⟩
      have hil : i < cs.length := by
        have := (List.getElem?_eq_some_iff.mp hi).1
        rw [List.length_map] at this
        exact this
      have hx : x = V.int cs[i] := by
        rw [List.getElem?_map, List.getElem?_eq_getElem hil] at hi
        exact (Option.some.inj hi).symm
      subst hx
      refine ⟨rfl, _, rfl, _, rfl, _, _, rfl, rfl, _, rfl, la, C, dx, _, _, rfl, s1 _ _ ha, T.cl, T.nT, rfl, _, _, rfl, rfl, (by omega), _, rfl, rfl, _, rfl, ?_⟩
      by_cases c : (cs[i] - (rec0 t w + 0)).fmod t = th
      · rw [decide_eq_true (congrArg V.int c)]
        refine iteT ?_
        refine ⟨_, rfl, _, hD', ?_, ?_, fun b o e => by rw [upd_ne (ne_of_none e hD)]; exact s1 b o e⟩
        · rw [List.length_map]
          have := List.length_filter_le (fun c => decide ((c - (rec0 t w + 0)).fmod t = th)) (cs.take i)
          rw [List.length_take] at this
          omega
        · rw [upd_same, fil_t (p := fun c => decide ((c - (rec0 t w + 0)).fmod t = th)) hil (decide_eq_true c), List.map_append]
          rfl
      · have cn : ¬ (V.int ((cs[i] - (rec0 t w + 0)).fmod t) = V.int th) := fun e => c (V.int.inj e)
        rw [decide_eq_false cn]
        refine iteF ⟨?_, s1⟩
        rw [fil_f (p := fun c => decide ((c - (rec0 t w + 0)).fmod t = th)) hil (decide_eq_false c)]
        exact hD'
    · rintro H' ⟨hD', s1⟩
      rw [List.length_map, List.take_length] at hD'
      refine ⟨D, _, rfl, SqL.of hD', fun ds p pm asc hp => ?_⟩
      exact k _ p ds pm asc (s1.free hp) upd_same (s1.trans (up1 hp))
end
end Dk

set_option maxHeartbeats 4000000
/-! a machine that runs to its end, and the law's run of it -/
namespace Dk
open PySem PySem.Spec PyProof.Rows L2
abbrev sRun : Stmt := top 29
/-- outside of a zone all stays; what comes into the zone is new -/
def Zst (Z : Addr → Prop) (H : Hp) (Z' : Addr → Prop) (H' : Hp) : Prop := (∀ b o, H b = some o → ¬ Z b → H' b = some o) ∧ ∀ b, Z' b → Z b ∨ H b = none
theorem Zst.trans {Z Z1 Z2 : Addr → Prop} {H H1 H2 : Hp} (a : Zst Z H Z1 H1) (b : Zst Z1 H1 Z2 H2) : Zst Z H Z2 H2 := by
  have keep : ∀ c o, H c = some o → ¬ Z c → ¬ Z1 c := fun c o e hc h => by
    rcases a.2 c h with q | q
    · exact hc q
    · rw [e] at q; cases q
  refine ⟨fun c o e hc => b.1 c o (a.1 c o e hc) (keep c o e hc), fun c h => ?_⟩
  rcases b.2 c h with q | q
  · exact a.2 c q
  · by_cases hc : Z c
    · exact .inl hc
    · refine .inr ?_
      cases e : H c with
      | none => rfl
      | some o =>
        rw [a.1 c o e hc] at q
        cases q
theorem Zst.out {Z Z' : Addr → Prop} {H H' : Hp} (a : Zst Z H Z' H') {c : Addr} {o : HO} (e : H c = some o) (hc : ¬ Z c) : H' c = some o ∧ ¬ Z' c :=
  ⟨a.1 c o e hc, fun h => (a.2 c h).elim hc fun q => by rw [e] at q; cases q⟩
theorem foot_some {C M : Addr} {H : Hp} {m : Addr} {t w r : Nat} {A : Adr} {S : MS} (D : MemAt C M H m t w r A S) {b : Addr} (hb : Foot m A (t + w + r) b) : ∃ u, H b = some u := by
  obtain ⟨dx, h1⟩ := D.ob
  rcases hb with q | q | q | q | q | q | ⟨j, hj, q⟩ | q
  · exact ⟨_, q ▸ h1⟩
  · exact ⟨_, q ▸ D.ps⟩
  · exact ⟨_, q ▸ D.tr.d⟩
  · exact ⟨_, q ▸ D.ld⟩
  · exact ⟨_, q ▸ D.nl⟩
  · exact ⟨_, q ▸ D.gl⟩
  · exact ⟨_, q ▸ D.tr.l j hj⟩
  · obtain ⟨z, hz⟩ := List.getElem?_of_mem q
    obtain ⟨ns, _, e2⟩ := D.no z b hz
    exact ⟨_, e2⟩
theorem MemAt.on {C M : Addr} {H H' : Hp} {m : Addr} {t w r : Nat} {A : Adr} {S : MS} (D : MemAt C M H m t w r A S) (f : ∀ c o, H c = some o → Foot m A (t + w + r) c → H' c = some o) (g : ∀ o, H A.a = some o → H' A.a = some o) : MemAt C M H' m t w r A S := by
  obtain ⟨dx, ho⟩ := D.ob
  obtain ⟨da, hlay⟩ := D.lay
  exact ⟨⟨dx, f _ _ ho (.inl rfl)⟩, ⟨da, g _ hlay⟩, f _ _ D.ps (.inr (.inl rfl)), ⟨f _ _ D.tr.d (.inr (.inr (.inl rfl))), fun j hj => f _ _ (D.tr.l j hj) (.inr (.inr (.inr (.inr (.inr (.inr (.inl ⟨j, hj, rfl⟩))))))), D.tr.inj⟩, f _ _ D.ld (.inr (.inr (.inr (.inl rfl)))),
    f _ _ D.nl (.inr (.inr (.inr (.inr (.inl rfl))))), D.nn, D.nd, fun i c hc => let ⟨ns, e1, e2⟩ := D.no i c hc; ⟨ns, e1, f _ _ e2 (.inr (.inr (.inr (.inr (.inr (.inr (.inr (List.mem_of_getElem? hc))))))))⟩, f _ _ D.gl (.inr (.inr (.inr (.inr (.inr (.inl rfl)))))), D.d1, D.d2, D.d3, D.d4, D.d5⟩
abbrev QG := V → Hp → Adr → MS → Nat → (Addr → Prop) → Prop
/-- a machine that ends behind at most so many accesses -/
def Go (P : Program) (W : World) (K : PySem.W.Frag) (mg : Str → Option Value) (base : Heap) (ka : Nat) (C M a CM dxm m : Addr) (t w r th : Nat) (Q : QG) : Nat → Hp → Adr → MS → Nat → (Addr → Prop) → Prop
  | 0, _, _, _, _, _ => False
  | n + 1, H, A, X, B, Z => ∃ (q l fa : Addr) (th' : V) (left : List V) (rest : List (Str × V)) (rq : Rq) (spa : Sp), Mach P W K mg base CM H a dxm (.ref q) l th' left rest ∧ H q = some (.tup rq.vs) ∧ rq.ok t w r ∧ rq.vals K H ∧ rq.flatAt K H X t ∧ Meth K CM "accept" fa ∧ FnR P W K mg base CX0 ka fa spa ∧
      MemAt C M H m t w r A X ∧ SOk X t (t + w + r) B ∧ (∀ b, Foot m A (t + w + r) b → Z b) ∧ ¬ Z A.a ∧
      ∀ (v x : V) (p : Addr) (A' : Adr) (X' : MS) (H1 : Hp), A'.a = A.a → Res K ((X.withCount (X.count + 1)).withLog (X.log ++ [x])) t th H1 H1 rq v X' → H1 p = some (.tup [v, .int (X.count + 1)]) → SOk X' t (t + w + r) (B + 2) → MemAt C M H1 m t w r A' X' → Step m (t + w + r) A H A' H1 →
        ∀ Q' : VK, (∀ u H2 Z', Zst Z H Z' H2 → (Go P W K mg base ka C M a CM dxm m t w r th Q n H2 A' X' (B + 2) Z' ∨
            ∃ (q2 l2 : Addr) (th2 : V) (left2 : List V) (rest2 : List (Str × V)) (y : V), Mach P W K mg base CM H2 a dxm (.ref q2) l2 th2 left2 rest2 ∧ H2 q2 = some (.tup [.str "end", y]) ∧ MemAt C M H2 m t w r A' X' ∧ (∀ b, Foot m A' (t + w + r) b → Z' b) ∧ ¬ Z' A'.a ∧ Q y H2 A' X' (B + 2) Z') → Q' u H2) → spa [.ref a, .ref p] H1 Q' E0
def spRun (P : Program) (W : World) (K : PySem.W.Frag) (mg : Str → Option Value) (base : Heap) (ka : Nat) (C M : Addr) : Sp := fun vs H Q _ => ∃ (m a CM dxm : Addr) (t w r th n B : Nat) (A : Adr) (X : MS) (Z : Addr → Prop), vs = [.ref m, .ref a, .int (th : Int)] ∧ NOk t w r ∧ th < t ∧ n < 40 ∧ B < 1000 ∧ (∀ b, Z b → ∃ u, H b = some u) ∧ MemAt C M H m t w r A X ∧
  ∀ H', Same H H' → Go P W K mg base ka C M a CM dxm m t w r th (fun y H2 A' X' B' Z' => ∀ p H3, (∀ b o, H2 b = some o → Z' b → H3 b = some o) → (∀ b o, H b = some o → ¬ Z b → H3 b = some o) → (∀ b, Z' b → Z b ∨ H b = none) → H3 p = some (.tup [.bl true, y, .int (X'.count - X.count)]) → Q (.ref p) H3) n H' A X B Z
section
variable {P : Program} {w : World} {K : PySem.W.Frag} {mg : Str → Option Value} {base : Heap} {C M S : Addr}
abbrev NRu : List Str := ["memory", "machine", "thread", "stack", "before", "step"]
theorem scRun : FnScope NRu ["memory", "machine", "thread"] (defScope sRun) := ⟨rfl, rfl, rfl, by decide +kernel, rfl, by decide +kernel, by decide +kernel⟩
theorem go_run {ka : Nat} {fS : Addr} {fdS : FuncData} (F : GT K mg "_law_run" sRun ["memory", "machine", "thread"]) (B0 : Bn mg) (TK : KTx K S) (TM : MTxt K M) (gS : mg "Stack" = some (.ref S)) (MS0 : Mk K S fS) (FS : FnOk P w K mg base CX0 1 fS fdS ["self", "machine"] (spKInit S)) (bS : Binds K fdS ["self", "machine"] [])
    (GSt : MO P w K mg base CX0 S (ka + 12) "step" ["self", "memory", "thread"] (spKStep P w K mg base ka S C M)) (GEn : MO P w K mg base CX0 S 1 "ended" ["self"] (spKEnded S)) (GVa : MO P w K mg base CX0 S 1 "value" ["self"] (spKValue S)) :
    GO P w K mg base CX0 (ka + 13) "_law_run" ["memory", "machine", "thread"] (spRun P w K mg base ka C M) := by
  obtain ⟨f, fd, F, hm, hb⟩ := F
  refine ⟨f, fd, ?_, hm, F.kp, hb⟩
  refine F.ok scRun (fun vs H Q E h => ?_) (fun cdv A outer s H vs Q E hr h => ?_)
  · obtain ⟨m, a, CM, dxm, t, w, r, th, n, B, A, X, Z, rfl, _⟩ := h
    rfl
  · obtain ⟨m, a, CM, dxm, t, wd, r, th, n, B, A0, X, Z, rfl, nok, hth, hn, hB, hZ, DM, hgo⟩ := h
    have nd := scRun.nd
    have hr1 : Room 1 _ := hr.mono (by omega)
    have hr2 : Room 2 _ := hr.mono (by omega)
    have hrS : Room (ka + 12) _ := hr
    have hsl : sizeLine = 16777216 := sizeLine_eq
    refine ⟨_, (pss_cons (ps_set (i := 3) nd rfl (Or.inl rfl) (pe_make MS0 FS hr2 rfl gS bS .nil pass0 (pa_cons (pv 1) pa_nil)))
  (pss_cons (ps_set (i := 4) nd rfl (Or.inl rfl) (pe_fld (pv 0) rfl))
  (pss_cons (ps_for PassesOwn.never rfl (pi_range1 (by rfl) B0.range (pa_cons pe_int pa_nil)) (pg_name (i := 5) nd rfl (Or.inl rfl))
  (pss_one (ps_if (pt_not (pt_val (pm_ GSt TK.cl hrS (pv 3) (pa_cons (pv 0) (pa_cons (pv 2) pa_nil)))))
  (pss_one ps_break)
  pss_nil)))
  (pss_one (ps_ret (pe_tup (pa_cons (pm0_ GEn TK.cl hr1 (pv 3)) (pa_cons (pm0_ GVa TK.cl hr1 (pv 3)) (pa_cons (pe_op op_sub (pe_fld (pv 0) rfl) (pv 4)) pa_nil))))))))), ?_⟩
    refine ⟨_, rfl, fun k dx nk ndx ne => ?_⟩
    have u1 : Same H (upd (upd H dx (.own k)) k (.ins S dx [])) := fun b o e => by rw [upd_ne (ne_of_none e nk), upd_ne (ne_of_none e ndx)]; exact e
    refine ⟨k, dx, a, rfl, upd_same, fun H1 ml nml D kp => ⟨rfl, ?_⟩⟩
    have s1 : Same H H1 := fun b o e => kp b o (u1 b o e) (ne_of_none e nk)
    have D1 := DM.same s1
    obtain ⟨dm, hmem⟩ := D1.ob
    refine ⟨_, rfl, m, M, dm, _, _, rfl, hmem, TM.cl, TM.nC, rfl, ?_⟩
    have zk : ¬ Z k := fun h => by obtain ⟨u, e⟩ := hZ k h; rw [e] at nk; cases nk
    have nml0 : H ml = none := by
      cases q : H ml with
      | none => rfl
      | some o =>
        have := u1 _ _ q
        rw [nml] at this
        cases this
    have zml : ¬ Z ml := fun h => by obtain ⟨u, e⟩ := hZ ml h; rw [e] at nml0; cases nml0
    have go1 := hgo H1 s1
    generalize hQg : (fun (y : V) (H2 : Hp) (A' : Adr) (X' : MS) (B' : Nat) (Z' : Addr → Prop) => ∀ p H3, (∀ b o, H2 b = some o → Z' b → H3 b = some o) → (∀ b o, H b = some o → ¬ Z b → H3 b = some o) → (∀ b, Z' b → Z b ∨ H b = none) → H3 p = some (.tup [.bl true, y, .int (X'.count - X.count)]) → Q (.ref p) H3) = Qg at go1
    refine ⟨_, rfl, by decide, by decide, for_range (lo := 0) (n := (40 : Int).toNat) (fun i σ H' => ∃ s5 : Option V, σ = [some (.ref m), some (.ref a), some (.int (th : Int)), some (.ref k), some (.int X.count), s5] ∧
      ((∃ A1 X1 Z1, Go P w K mg base ka C M a CM dxm m t wd r th Qg (n - i) H' A1 X1 (B + 2 * i) Z1 ∧ StkAt S H' k dx ml [a] .non ∧ ¬ Z1 k ∧ ¬ Z1 ml ∧ Zst Z H1 Z1 H' ∧ i ≤ n) ∨
       (∃ A1 X1 Z1 y H2 B1, StkAt S H' k dx ml [] y ∧ MemAt C M H' m t wd r A1 X1 ∧ SOk X1 t (t + wd + r) (B + 2 * i) ∧ ¬ Z1 k ∧ ¬ Z1 ml ∧ Zst Z H1 Z1 H2 ∧ Kept2 k ml H2 H' ∧ Qg y H2 A1 X1 B1 Z1 ∧ i ≤ n))) ⟨_, rfl, .inl ⟨A0, X, Z, go1, D, zk, zml, ⟨fun _ _ e _ => e, fun _ h => .inl h⟩, Nat.zero_le _⟩⟩ ?_ ?_⟩
    · rintro i σ H' hi ⟨s5, rfl, (⟨A1, X1, Z1, g, D2, z1, z2, zs, hin⟩ | ⟨A1, X1, Z1, y, H2, B1, D2, DM2, so, z1, z2, zs, kp2, hq, hin⟩)⟩
      · have hi40 : i < 40 := hi
        cases hj : n - i with
        | zero =>
          rw [hj] at g
          exact g.elim
        | succ j =>
          rw [hj] at g
          obtain ⟨q, l, fa, th', left, rest, rq, spa, Mc, hq, ok, vals, fl, hma, FA, DM2, so, zf, za, nxt⟩ := g
          refine ⟨_, rfl, k, dx, _, rfl, D2.ob, rfl, _, rfl, _, rfl, k, dx, ml, m, [a], .non, t, wd, r, th, B + 2 * i, A1, X1, rfl, D2, nok, DM2, hth, so, by omega, .inr ⟨a, CM, dxm, q, l, fa, th', left, rest, rq, spa, rfl, Mc, hq, ok, vals, fl, hma, FA, fun v x p A' X' H3 ea R hp so' D' st Q' hQ' => ?_⟩⟩
          refine nxt v x p A' X' H3 ea R hp so' D' st Q' fun u H4 Z' zs' hc => hQ' u H4 ?_
          obtain ⟨ok1, nk1⟩ := zs'.out D2.ob z1
          obtain ⟨om1, nm1⟩ := zs'.out D2.l z2
          refine ⟨⟨ok1, om1⟩, ?_⟩
          rcases hc with g' | ⟨q2, l2, th2, left2, rest2, y, M2, hq2, DM3, zf2, za2, hy⟩
          · have g0 := g'
            cases j with
            | zero => exact g'.elim
            | succ j' =>
              obtain ⟨q2, l2, fa2, th2, left2, rest2, rq2, spa2, Mc2, hq2, _⟩ := g'
              refine .inl ⟨q2, l2, th2, left2, rest2, rq2, Mc2, hq2, ?_⟩
              exact ⟨_, rfl, iteF ⟨_, rfl, .inl ⟨A', X', Z', by rw [show n - (i + 1) = j' + 1 by omega]; exact g0, ⟨ok1, om1⟩, nk1, nm1, zs.trans zs', by omega⟩⟩⟩
          · refine .inr ⟨q2, l2, th2, left2, rest2, y, M2, hq2, fun H5 D5 k5 => ?_⟩
            have ne1 : ∀ b, Z' b → b ≠ k ∧ b ≠ ml := fun b hb => ⟨fun e => nk1 (e ▸ hb), fun e => nm1 (e ▸ hb)⟩
            have DM5 : MemAt C M H5 m t wd r A' X' := DM3.on (fun c o e hf => k5 c o e (ne1 c (zf2 c hf)).1 (ne1 c (zf2 c hf)).2) fun o e => k5 _ o e (fun z => by
              obtain ⟨da, hl⟩ := DM3.lay
              have hk := D5.ob
              rw [z] at hl
              rw [ok1] at hl
              cases hl) fun z => by
              obtain ⟨da, hl⟩ := DM3.lay
              rw [z, om1] at hl
              cases hl
            exact ⟨_, rfl, iteF ⟨_, rfl, .inr ⟨A', X', Z', y, H4, _, D5, DM5, by rw [show B + 2 * (i + 1) = B + 2 * i + 2 by omega]; exact so', nk1, nm1, zs.trans zs', k5, hy, by omega⟩⟩⟩
      · refine ⟨_, rfl, k, dx, _, rfl, D2.ob, rfl, _, rfl, _, rfl, k, dx, ml, m, [], y, t, wd, r, th, B + 2 * i, A1, X1, rfl, D2, nok, DM2, hth, so, by omega, .inl ⟨rfl, ?_⟩⟩
        refine ⟨_, rfl, iteT ?_⟩
        obtain ⟨dm2, hm2⟩ := DM2.ob
        refine ⟨_, rfl, k, dx, _, rfl, D2.ob, rfl, k, dx, ml, [], y, rfl, D2, _, rfl, k, dx, _, rfl, D2.ob, rfl, k, dx, ml, [], y, rfl, D2, _, rfl, m, M, dm2, _, _, rfl, hm2, TM.cl, TM.nC, rfl, _, rfl, _, _, rfl, rfl, (by show 3 ≤ sizeLine; decide), fun p hp => ?_⟩
        rw [← hQg] at hq
        have s9 := up1 (o := HO.tup [V.bl true, y, V.int (X1.count - X.count)]) hp
        refine hq p _ (fun b o e hb => s9 _ _ (kp2 b o e (fun z => z1 (z ▸ hb)) fun z => z2 (z ▸ hb))) (fun b o e nb => ?_) (fun b hb => ?_) upd_same
        · have e1 := s1 _ _ e
          obtain ⟨e2, _⟩ := zs.out e1 nb
          exact s9 _ _ (kp2 b o e2 (ne_of_none e nk) (ne_of_none e nml0))
        · rcases zs.2 b hb with h | h
          · exact .inl h
          · exact .inr (s1.free h)
    · rintro σ H' ⟨s5, rfl, (⟨A1, X1, Z1, g, _, _, _, _, hin⟩ | ⟨A1, X1, Z1, y, H2, B1, _, _, _, _, _, _, _, _, hin⟩)⟩
      · have : n - (40 : Int).toNat = 0 := by omega
        rw [this] at g
        exact g.elim
      · exfalso
        have : (40 : Int).toNat = 40 := rfl
        omega
end
end Dk

set_option maxHeartbeats 4000000
/-! entering a call -/
namespace Dk
open PySem PySem.Spec PyProof.Rows L2
abbrev sEnInit : Stmt := inClass (top 15) 0
abbrev sEnReq : Stmt := inClass (top 15) 1
abbrev sEnAcc : Stmt := inClass (top 15) 2
abbrev sEnEp : Stmt := inClass (top 15) 3
abbrev enrest (s : Int) (ent : V) : List (Str × V) := [("_epoch_cell", .int 0), ("_slot", .int s), ("_entered", ent)]
structure ETx (K : PySem.W.Frag) (CE : Addr) : Prop where
  m : MTx K CE
  nE : NoAttr K CE "_epoch_cell"
  nS : NoAttr K CE "_slot"
  nN : NoAttr K CE "_entered"
theorem met_out {C M : Addr} {H : Hp} {m : Addr} {t w r : Nat} {A : Adr} {S : MS} (D : MemAt C M H m t w r A S) {u g a : Addr} (hu : H u = some (.met g a)) : ¬ Foot m A (t + w + r) u := fun hf => by
  obtain ⟨dx, h1⟩ := D.ob
  rcases hf with q | q | q | q | q | q | ⟨j, hj, q⟩ | q
  · exact ne_of hu h1 (by intro z; cases z) q
  · exact ne_of hu D.ps (by intro z; cases z) q
  · exact ne_of hu D.tr.d (by intro z; cases z) q
  · exact ne_of hu D.ld (by intro z; cases z) q
  · exact ne_of hu D.nl (by intro z; cases z) q
  · exact ne_of hu D.gl (by intro z; cases z) q
  · exact ne_of hu (D.tr.l j hj) (by intro z; cases z) q
  · obtain ⟨z, hz⟩ := List.getElem?_of_mem q
    obtain ⟨ns, _, e2⟩ := D.no z u hz
    exact ne_of hu e2 (by intro z; cases z) rfl
theorem FnOk.fnr {P : Program} {w : World} {K : PySem.W.Frag} {mg : Str → Option Value} {base : Heap} {k : Nat} {f : Addr} {fd : FuncData} {ps : List Str} {sp : Sp} (F : FnOk P w K mg base CX0 k f fd ps sp) (hb : Binds K fd ps []) : FnR P w K mg base CX0 k f sp :=
  (F.raw hb .nil).imp fun vs H Q E h => by rw [List.append_nil]; exact h
/-- a fresh address was fresh where less stood -/
theorem Kept.free {a : Addr} {H H' : Hp} (k : Kept a H H') {p : Addr} (hp : H' p = none) (ha : ∃ o, H' a = some o) : H p = none := by
  cases q : H p with
  | none => rfl
  | some o =>
    by_cases c : p = a
    · subst c
      obtain ⟨o', e⟩ := ha
      rw [e] at hp; cases hp
    · have := k p o q c
      rw [hp] at this; cases this
theorem Kept.trans {a : Addr} {H H1 H2 : Hp} (x : Kept a H H1) (y : Kept a H1 H2) : Kept a H H2 := fun b o e n => y b o (x b o e n) n
theorem Kept.of {a : Addr} {H H1 : Hp} (s : Same H H1) : Kept a H H1 := fun b o e _ => s b o e
/-- accepting -/
def spAcc (P : Program) (W : World) (K : PySem.W.Frag) (mg : Str → Option Value) (base : Heap) (k : Nat) (C : Addr) : Sp := fun vs H Q E => (∀ (a dx : Addr) (fs : List (Str × V)), vs.head? = some (.ref a) → H a = some (.ins C dx fs) → fs.lookup ("_go_on" : Str) = none) ∧ spGo P W K mg base k C vs H Q E
def spEnInit (C S CE g : Addr) : Sp := fun vs H Q _ => ∃ (a dx st la : Addr) (t w r : Nat) (th : Nat) (fa wa oa : Addr) (fr out : List Int) (rows : List Rw), vs = [.ref a, .ref st] ∧ H a = some (.ins CE dx []) ∧ StAt S H st la (th : Int) fa wa oa fr out rows ∧ LayAt C H la t w r ∧
  ∀ (H' : Hp) (q l qm : Addr), H q = none → H l = none → H qm = none → MaAt CE H' a dx (.ref q) l (.ref qm) [] (enrest (1 + (th : Int)) .non) → H' q = some (.tup [.str "read", .int 0]) → H' qm = some (.met g a) → Kept a H H' → Q .non H'
def spEnTake (CE g : Addr) : Sp := fun vs H Q _ => ∃ (a dx p l : Addr) (w th : V) (left : List V) (s e c : Int) (ent : V), vs = [.ref a, .ref p] ∧ MaAt CE H a dx w l th left (enrest s ent) ∧ H p = some (.tup [.int e, .int c]) ∧
  ((ent = .int e ∧ ∀ (H' : Hp) (q : Addr), H q = none → H' q = some (.tup [.str "end", .int e]) → MaAt CE H' a dx (.ref q) l th left (enrest s ent) → Kept a H H' → Q .non H') ∨
   (ent = .non ∧ ∀ (H' : Hp) (q1 q2 l' qm : Addr), H q1 = none → H q2 = none → H l' = none → H qm = none → H' q1 = some (.tup [.str "write", .int s, .int e]) → H' q2 = some (.tup [.str "read", .int 0]) → H' qm = some (.met g a) → MaAt CE H' a dx (.ref q1) l' (.ref qm) [.ref q2] (enrest s (.int e)) → Kept a H H' → Q .non H'))
section
variable {P : Program} {w : World} {K : PySem.W.Frag} {mg : Str → Option Value} {base : Heap} {C M S CE g : Addr}
theorem scEnReq : FnScope ["self"] ["self"] (defScope sEnReq) := ⟨rfl, rfl, rfl, by decide +kernel, rfl, by decide +kernel, by decide +kernel⟩
theorem mo_enreq (F : MT K CE "request" "Entering.request" sEnReq ["self"]) (TC : MTx K CE) : MO P w K mg base CX0 CE 1 "request" ["self"] (spReq CE) := by
  obtain ⟨f, fd, F, hm, hb⟩ := F
  refine ⟨f, fd, ?_, hm, hb⟩
  refine F.ok scEnReq (fun vs H Q E h => ?_) (fun cdv A outer s H vs Q E hr h => ?_)
  · obtain ⟨a, dx, l, w, th, left, rest, rfl, _⟩ := h
    rfl
  · obtain ⟨a, dx, l, w, th, left, rest, rfl, D, k⟩ := h
    refine ⟨_, (pss_one (ps_ret (pe_fld (pv 0) rfl))), ?_⟩
    exact ⟨_, rfl, a, CE, dx, _, _, rfl, D.ob, TC.cl, TC.nW, rfl, k⟩
theorem scEnAcc : FnScope ["self", "result"] ["self", "result"] (defScope sEnAcc) := ⟨rfl, rfl, rfl, by decide +kernel, rfl, by decide +kernel, by decide +kernel⟩
theorem mo_enacc {k : Nat} (F : MT K CE "accept" "Entering.accept" sEnAcc ["self", "result"]) (TC : MTx K CE) (GGo : MO P w K mg base CX0 CE (k + 1) "_go_on" ["self", "result"] (spGo P w K mg base k CE)) : MO P w K mg base CX0 CE (k + 2) "accept" ["self", "result"] (spAcc P w K mg base k CE) := by
  obtain ⟨f, fd, F, hm, hb⟩ := F
  refine ⟨f, fd, ?_, hm, hb⟩
  refine F.ok scEnAcc (fun vs H Q E h => ?_) (fun cdv A outer s H vs Q E hr h => ?_)
  · obtain ⟨_, a, dx, l, w, th, res, left, rest, rfl, _⟩ := h
    rfl
  · obtain ⟨hl, h'⟩ := h
    obtain ⟨a, dx, l, w, th, res, left, rest, rfl, D, hz, hc⟩ := id h'
    have hrG : Room (k + 1) _ := hr
    refine ⟨_, (pss_one (ps_expr (pm_ GGo TC.cl hrG (pv 0) (pa_cons (pv 1) pa_nil)))), ?_⟩
    exact ⟨_, rfl, a, dx, _, rfl, D.ob, hl a dx _ rfl D.ob, _, rfl, h'⟩
theorem scEnInit : FnScope ["self", "store"] ["self", "store"] (defScope sEnInit) := ⟨rfl, rfl, rfl, by decide +kernel, rfl, by decide +kernel, by decide +kernel⟩
theorem ok_eninit {f fMi Ma : Addr} {fd : FuncData} (F : Fun K "__init__" "Entering.__init__" sEnInit f fd) (TE : ETx K CE) (TL : LTxt K mg C) (T : STxt K mg S) (gMa : mg "Machine" = some (.ref Ma)) (cMi : Mr.CFn K Ma "__init__" fMi) (FMi : FnR P w K mg base CX0 1 fMi (spMaInit CE)) (bg : BMeth K CE "_take_epoch" g)
    (GEp : MO P w K mg base CX0 C 1 "epoch" ["self"] (spL0 C fun _ _ _ => .int 0)) (GEs : MO P w K mg base CX0 C 1 "epoch_slot" ["self", "thread"] (spL1 C fun _ _ _ i => .int (1 + i))) (GAs : MO P w K mg base CX0 CE 1 "_ask" ["self", "requests", "then"] (spMaAsk CE)) :
    FnOk P w K mg base CX0 2 f fd ["self", "store"] (spEnInit C S CE g) := by
  refine F.ok scEnInit (fun vs H Q E h => ?_) (fun cdv A outer s H vs Q E hr h => ?_)
  · obtain ⟨a, dx, st, la, t, w, r, th, fa, wa, oa, fr, out, rows, rfl, _⟩ := h
    rfl
  · obtain ⟨a, dx, st, la, t, wd, r, th, fa, wa, oa, fr, out, rows, rfl, ha, R, ⟨da, hla⟩, k⟩ := h
    have hr1 : Room 1 _ := hr
    have TC := TE.m
    have hrA : Room 1 _ := hr
    refine ⟨_, (pss_cons (ps_expr (Mr.pe_cls rfl gMa cMi FMi hr1 (pa_cons (pv 0) pa_nil)))
  (pss_cons (ps_fld (pv 0) (pm0_ GEp TL.cl hr1 (pe_fld (pv 1) rfl)) rfl)
  (pss_cons (ps_fld (pv 0) (pm_ GEs TL.cl hr1 (pe_fld (pv 1) rfl) (pa_cons (pe_fld (pv 1) rfl) pa_nil)) rfl)
  (pss_cons (ps_fld (pv 0) pe_non rfl)
  (pss_one (ps_expr (pm_ GAs TC.cl hrA (pv 0) (pa_cons (pe_lst (pa_cons (pe_tup (pa_cons pe_str (pa_cons (pe_fld (pv 0) rfl) pa_nil))) pa_nil)) (pa_cons (Mr.pe_bm_ (pv 0)) pa_nil))))))))), ?_⟩
    obtain ⟨ds, hst⟩ := R.ob
    have st_a : st ≠ a := ne_of hst ha (by intro z; cases z)
    refine ⟨_, rfl, a, dx, rfl, ha, fun H1 e l he hl h1 D1 kp1 => ?_⟩
    have la_a : la ≠ a := ne_of hla ha (by intro z; cases z)
    have hst1 := kp1 _ _ hst st_a
    have hla1 := kp1 _ _ hla la_a
    have hk : ∀ {b : Addr} {o o' : HO}, H1 b = some o → b ≠ a → upd H1 a o' b = some o := fun {b o o'} q n => by rw [upd_ne n]; exact q
    refine ⟨_, rfl, st, S, ds, _, _, rfl, hst1, T.cl, T.nL, rfl, la, da, _, rfl, hla1, rfl, la, _, _, _, rfl, ⟨da, hla1⟩, _, rfl, a, CE, dx, _, rfl, D1.ob, TC.cl, TE.nE, (by show 3 < 1000; decide), ?_⟩
    refine ⟨_, rfl, st, S, ds, _, _, rfl, hk hst1 st_a, T.cl, T.nL, rfl, la, da, _, rfl, hk hla1 la_a, rfl, _, rfl, st, S, ds, _, _, rfl, hk hst1 st_a, T.cl, T.nT, rfl, la, _, _, _, _, rfl, ⟨da, hk hla1 la_a⟩, _, rfl, a, CE, dx, _, rfl, upd_same, TC.cl, TE.nS, (by show 4 < 1000; decide), ?_⟩
    refine ⟨_, rfl, a, CE, dx, _, rfl, upd_same, TC.cl, TE.nN, (by show 5 < 1000; decide), ?_⟩
    have l_a : l ≠ a := ne_of D1.lf D1.ob (by intro z; cases z)
    generalize hH2 : upd (upd (upd H1 a _) a _) a _ = H2
    have kp2 : Kept a H1 H2 := fun b o q n => by rw [← hH2, upd_ne n, upd_ne n, upd_ne n]; exact q
    have a2 : H2 a = some (.ins CE dx (mfs (.ref e) l .non (enrest (1 + (th : Int)) .non))) := by rw [← hH2]; exact upd_same
    have l2 := kp2 _ _ D1.lf l_a
    refine ⟨_, rfl, a, dx, _, rfl, a2, rfl, _, rfl, a, CE, dx, _, _, rfl, a2, TC.cl, TE.nE, rfl, (by show 2 ≤ sizeLine; decide), fun q hq => ⟨(by show 1 ≤ sizeLine; decide), fun rq hrq => ?_⟩⟩
    have s3 := up1 (o := HO.tup [V.str "read", V.int 0]) hq
    have e3 : upd H2 q (HO.tup [V.str "read", V.int 0]) q = _ := upd_same
    generalize upd H2 q (HO.tup [V.str "read", V.int 0]) = H3 at s3 e3 hrq ⊢
    have s4 := up1 (o := HO.lst [V.ref q]) hrq
    have e4 : upd H3 rq (HO.lst [V.ref q]) rq = _ := upd_same
    generalize upd H3 rq (HO.lst [V.ref q]) = H4 at s4 e4 ⊢
    refine ⟨_, rfl, a, CE, dx, _, g, rfl, s4 _ _ (s3 _ _ a2), TC.cl, bg, rfl, fun qm hqm => ?_⟩
    have s5 := up1 (o := HO.met g a) hqm
    have e5 : upd H4 qm (HO.met g a) qm = _ := upd_same
    generalize upd H4 qm (HO.met g a) = H5 at s5 e5 ⊢
    have s25 := s3.trans (s4.trans s5)
    have a5 := s25 _ _ a2
    refine ⟨a, dx, l, rq, _, _, .ref qm, [], enrest (1 + (th : Int)) .non, .ref q, [], rfl, ⟨a5, s25 _ _ l2⟩, (by show 3 < 900; decide), s5 _ _ e4, fun H6 l' hl' D6 kp6 => ?_⟩
    have k15 : Kept a H H5 := (kp1.trans kp2).trans (Kept.of s25)
    have ex : ∀ {H' : Hp}, Same H2 H' → ∃ o, H' a = some o := fun s => ⟨_, s _ _ a2⟩
    have q_a : q ≠ a := ne_of (s4.trans s5 _ _ e3) a5 (by intro z; cases z)
    have qm_a : qm ≠ a := ne_of e5 a5 (by intro z; cases z)
    refine k H6 q l' qm ((kp1.trans kp2).free hq ⟨_, a2⟩) (k15.free hl' ⟨_, a5⟩) (((kp1.trans kp2).trans (Kept.of (s3.trans s4))).free hqm (ex (s3.trans s4))) D6 (kp6 _ _ (s4.trans s5 _ _ e3) q_a) (kp6 _ _ e5 qm_a) (k15.trans kp6)
theorem scEnEp : FnScope ["self", "result", "epoch"] ["self", "result"] (defScope sEnEp) := ⟨rfl, rfl, rfl, by decide +kernel, rfl, by decide +kernel, by decide +kernel⟩
theorem mo_enep (F : MT K CE "_take_epoch" "Entering._take_epoch" sEnEp ["self", "result"]) (TE : ETx K CE) (bg : BMeth K CE "_take_epoch" g)
    (GAs : MO P w K mg base CX0 CE 1 "_ask" ["self", "requests", "then"] (spMaAsk CE)) (GEd : MO P w K mg base CX0 CE 1 "_end" ["self", "value"] (spMaEnd CE)) : MO P w K mg base CX0 CE 4 "_take_epoch" ["self", "result"] (spEnTake CE g) := by
  obtain ⟨f, fd, F, hm, hb⟩ := F
  refine ⟨f, fd, ?_, hm, hb⟩
  refine F.ok scEnEp (fun vs H Q E h => ?_) (fun cdv A outer s H vs Q E hr h => ?_)
  · obtain ⟨a, dx, p, l, wv, th, left, s0, e, c, ent, rfl, _⟩ := h
    rfl
  · obtain ⟨a, dx, p, l, wv, th, left, s0, e, c, ent, rfl, D, hp, hc⟩ := h
    have nd := scEnEp.nd
    have hrA : Room 1 _ := hr.mono (by decide)
    have TC := TE.m
    refine ⟨_, (pss_cons (ps_set (i := 2) nd rfl (Or.inl rfl) (pe_ix ix_tup (pv 1) pe_int (fun _ _ => rfl)))
  (pss_one (ps_if (pt_cmpR op_eq (pv 2) (pe_fld (pv 0) rfl) (nomark _))
  (pss_one (ps_expr (pm_ GEd TC.cl hrA (pv 0) (pa_cons (pv 2) pa_nil))))
  (pss_cons (ps_fld (pv 0) (pv 2) rfl)
  (pss_one (ps_expr (pm_ GAs TC.cl hrA (pv 0) (pa_cons (pe_lst (pa_cons (pe_tup (pa_cons pe_str (pa_cons (pe_fld (pv 0) rfl) (pa_cons (pv 2) pa_nil)))) (pa_cons (pe_tup (pa_cons pe_str (pa_cons (pe_fld (pv 0) rfl) pa_nil))) pa_nil))) (pa_cons (Mr.pe_bm_ (pv 0)) pa_nil))))))))), ?_⟩
    refine ⟨_, rfl, p, _, 0, _, rfl, rfl, SqT.of hp, at_head, ?_⟩
    rcases hc with ⟨rfl, k⟩ | ⟨rfl, k⟩
    · refine ⟨_, rfl, _, rfl, a, CE, dx, _, _, rfl, D.ob, TC.cl, TE.nN, rfl, rfl, _, rfl, ?_⟩
      rw [decide_eq_true (rfl : V.int e = V.int e)]
      refine iteT ⟨_, rfl, a, dx, _, rfl, D.ob, rfl, _, rfl, a, dx, l, wv, th, .int e, left, _, rfl, D, (by show 3 < 900; decide), fun H' q hq e' D' kp' => k H' q hq e' D' kp'⟩
    · refine ⟨_, rfl, _, rfl, a, CE, dx, _, _, rfl, D.ob, TC.cl, TE.nN, rfl, rfl, _, rfl, ?_⟩
      rw [decide_eq_false (show ¬ (V.int e = V.non) by intro z; cases z)]
      refine iteF ⟨_, rfl, _, rfl, a, CE, dx, _, rfl, D.ob, TC.cl, TE.nN, (by show 6 < 1000; decide), ?_⟩
      have l_a : l ≠ a := ne_of D.lf D.ob (by intro z; cases z)
      generalize hH2 : upd H a _ = H2
      have kp2 : Kept a H H2 := fun b o q n => by rw [← hH2, upd_ne n]; exact q
      have a2 : H2 a = some (.ins CE dx (mfs wv l th (enrest s0 (.int e)))) := by rw [← hH2]; exact upd_same
      have l2 := kp2 _ _ D.lf l_a
      refine ⟨_, rfl, a, dx, _, rfl, a2, rfl, _, rfl, a, CE, dx, _, _, rfl, a2, TC.cl, TE.nS, rfl, _, rfl, (by show 3 ≤ sizeLine; decide), fun q1 hq1 => ?_⟩
      have s3 := up1 (o := HO.tup [V.str "write", V.int s0, V.int e]) hq1
      have e3 : upd H2 q1 (HO.tup [V.str "write", V.int s0, V.int e]) q1 = _ := upd_same
      generalize upd H2 q1 (HO.tup [V.str "write", V.int s0, V.int e]) = H3 at s3 e3 ⊢
      refine ⟨_, rfl, a, CE, dx, _, _, rfl, s3 _ _ a2, TC.cl, TE.nE, rfl, (by show 2 ≤ sizeLine; decide), fun q2 hq2 => ⟨(by show 2 ≤ sizeLine; decide), fun rq hrq => ?_⟩⟩
      have s4 := up1 (o := HO.tup [V.str "read", V.int 0]) hq2
      have e4 : upd H3 q2 (HO.tup [V.str "read", V.int 0]) q2 = _ := upd_same
      generalize upd H3 q2 (HO.tup [V.str "read", V.int 0]) = H4 at s4 e4 hrq ⊢
      have s5 := up1 (o := HO.lst [V.ref q1, V.ref q2]) hrq
      have e5 : upd H4 rq (HO.lst [V.ref q1, V.ref q2]) rq = _ := upd_same
      generalize upd H4 rq (HO.lst [V.ref q1, V.ref q2]) = H5 at s5 e5 ⊢
      have s25 := s3.trans (s4.trans s5)
      refine ⟨_, rfl, a, CE, dx, _, g, rfl, s25 _ _ a2, TC.cl, bg, rfl, fun qm hqm => ?_⟩
      have s6 := up1 (o := HO.met g a) hqm
      have e6 : upd H5 qm (HO.met g a) qm = _ := upd_same
      generalize upd H5 qm (HO.met g a) = H6 at s6 e6 ⊢
      have s26 := s25.trans s6
      have a6 := s26 _ _ a2
      refine ⟨a, dx, l, rq, _, _, .ref qm, left, enrest s0 (.int e), .ref q1, [.ref q2], rfl, ⟨a6, s26 _ _ l2⟩, (by show 3 < 900; decide), s6 _ _ e5, fun H7 l' hl' D7 kp7 => ?_⟩
      have k6 : Kept a H H6 := kp2.trans (Kept.of s26)
      have q1_6 := s6 _ _ (s5 _ _ (s4 _ _ e3))
      have q2_6 := s6 _ _ (s5 _ _ e4)
      have n1 : q1 ≠ a := ne_of q1_6 a6 (by intro z; cases z)
      have n2 : q2 ≠ a := ne_of q2_6 a6 (by intro z; cases z)
      have n3 : qm ≠ a := ne_of e6 a6 (by intro z; cases z)
      exact k H7 q1 q2 l' qm (kp2.free hq1 ⟨_, a2⟩) ((kp2.trans (Kept.of s3)).free hq2 ⟨_, s3 _ _ a2⟩) (k6.free hl' ⟨_, a6⟩) ((kp2.trans (Kept.of s25)).free hqm ⟨_, s25 _ _ a2⟩) (kp7 _ _ q1_6 n1) (kp7 _ _ q2_6 n2) (kp7 _ _ e6 n3) D7 (k6.trans kp7)
end
end Dk

set_option maxHeartbeats 4000000
/-! a machine on its way: one access after the other -/
namespace Dk
open PySem PySem.Spec PyProof.Rows L2
theorem lay_out {C M : Addr} {H : Hp} {m : Addr} {t w r : Nat} {A : Adr} {S : MS} (D : MemAt C M H m t w r A S) : ¬ Foot m A (t + w + r) A.a := fun hf => by
  obtain ⟨da, hu⟩ := D.lay
  rcases hf with q | q | q | q | q | q | ⟨j, hj, q⟩ | q
  · exact D.d5 q.symm
  · exact ne_of hu D.ps (by intro z; cases z) q
  · exact ne_of hu D.tr.d (by intro z; cases z) q
  · exact ne_of hu D.ld (by intro z; cases z) q
  · exact ne_of hu D.nl (by intro z; cases z) q
  · exact ne_of hu D.gl (by intro z; cases z) q
  · exact ne_of hu (D.tr.l j hj) (by intro z; cases z) q
  · obtain ⟨z, hz⟩ := List.getElem?_of_mem q
    obtain ⟨ns, _, e2⟩ := D.no z A.a hz
    exact ne_of hu e2 (by intro z; cases z) rfl
/-- a machine and the memory, within a zone -/
structure MSt (C M CE : Addr) (H : Hp) (m : Addr) (t w r B : Nat) (A : Adr) (X : MS) (Z : Addr → Prop) (a dx q l : Addr) (th : V) (left : List V) (rest : List (Str × V)) : Prop where
  D : MaAt CE H a dx (.ref q) l th left rest
  DM : MemAt C M H m t w r A X
  so : SOk X t (t + w + r) B
  zf : ∀ b, Foot m A (t + w + r) b → Z b
  za : Z a
  zl : Z l
  nfa : ¬ Foot m A (t + w + r) a
  nfl : ¬ Foot m A (t + w + r) l
  zla : ¬ Z A.a
abbrev Zn (m : Addr) (A' : Adr) (n : Nat) (Z N : Addr → Prop) : Addr → Prop := fun b => Foot m A' n b ∨ Z b ∨ N b
section
variable {C M CE : Addr} {H H1 H2 : Hp} {m : Addr} {t w r B : Nat} {A A' : Adr} {X X' : MS} {Z : Addr → Prop} {a dx q l : Addr} {th : V} {left : List V} {rest : List (Str × V)}
/-- behind the access -/
theorem MSt.acc (s : MSt C M CE H m t w r B A X Z a dx q l th left rest) (st : Step m (t + w + r) A H A' H1) : MaAt CE H1 a dx (.ref q) l th left rest ∧ ¬ Foot m A' (t + w + r) a ∧ ¬ Foot m A' (t + w + r) l :=
  ⟨⟨(st.out s.D.ob s.nfa).1, (st.out s.D.lf s.nfl).1⟩, (st.out s.D.ob s.nfa).2, (st.out s.D.lf s.nfl).2⟩
/-- behind what the machine does with the result -/
theorem MSt.next {q' l' : Addr} {th' : V} {left' : List V} {rest' : List (Str × V)} (s : MSt C M CE H m t w r B A X Z a dx q l th left rest) (st : Step m (t + w + r) A H A' H1) (ea : A'.a = A.a) (D' : MemAt C M H1 m t w r A' X') (so' : SOk X' t (t + w + r) (B + 2)) (Y N : Addr → Prop)
    (kp : ∀ b o, H1 b = some o → ¬ Y b → H2 b = some o) (yz : ∀ b, Y b → Z b) (yf : ∀ b, Y b → ¬ Foot m A' (t + w + r) b) (nn : ∀ b, N b → H1 b = none) (D2 : MaAt CE H2 a dx (.ref q') l' th' left' rest') (hl : l' = l ∨ N l') :
    MSt C M CE H2 m t w r (B + 2) A' X' (Zn m A' (t + w + r) Z N) a dx q' l' th' left' rest' ∧ Zst Z H (Zn m A' (t + w + r) Z N) H2 := by
  obtain ⟨_, fa, fl⟩ := s.acc st
  have zla' : ¬ Z A'.a := by rw [ea]; exact s.zla
  have nf : ∀ b, H1 b = none → ¬ Foot m A' (t + w + r) b := fun b hb hf => by
    obtain ⟨u, hu⟩ := foot_some D' hf
    rw [hb] at hu; cases hu
  obtain ⟨da, hla⟩ := id D'.lay
  refine ⟨⟨D2, D'.on (fun c o e hf => kp c o e fun y => yf c y hf) (fun o e => kp _ o e fun y => zla' (yz _ y)), so', fun b hb => .inl hb, .inr (.inl s.za), ?_, fa, ?_, fun h => ?_⟩, ⟨fun b o e nz => kp b o (st.chg b o e fun h => nz (s.zf b h)) fun y => nz (yz b y), fun b hb => ?_⟩⟩
  · rcases hl with e | e
    · rw [e]; exact .inr (.inl s.zl)
    · exact .inr (.inr e)
  · rcases hl with e | e
    · rw [e]; exact fl
    · exact nf l' (nn l' e)
  · rcases h with h | h | h
    · exact lay_out D' h
    · exact zla' h
    · have := nn _ h
      rw [hla] at this; cases this
  · rcases hb with h | h | h
    · exact (st.foot b h).imp (s.zf b) id
    · exact .inl h
    · by_cases z : Z b
      · exact .inl z
      · refine .inr ?_
        cases e : H b with
        | none => rfl
        | some o =>
          have := st.chg b o e fun h => z (s.zf b h)
          rw [nn b h] at this; cases this
end
/-- what the walk asks of a machine's class -/
structure MCl (P : Program) (W : World) (K : PySem.W.Frag) (mg : Str → Option Value) (base : Heap) (CE fa : Addr) : Prop where
  cl : Cls K CE
  rq : MD P W K mg base 1 CE "request" (spReq CE)
  ma : Meth K CE "accept" fa
  fa : FnR P W K mg base CX0 6 fa (spAcc P W K mg base 4 CE)
structure RsOk (rest : List (Str × V)) : Prop where
  n1 : rest.lookup ("request" : Str) = none
  n2 : rest.lookup ("accept" : Str) = none
  n3 : rest.lookup ("_go_on" : Str) = none
  n : rest.length < 900
section
variable {P : Program} {W : World} {K : PySem.W.Frag} {mg : Str → Option Value} {base : Heap} {C M CE fa : Addr} {H : Hp} {m : Addr} {t w r B th0 : Nat} {A : Adr} {X : MS} {Z : Addr → Prop} {a dx q l : Addr} {th : V} {left : List V} {rest : List (Str × V)} {Qg : QG} {n : Nat}
theorem MSt.mach (s : MSt C M CE H m t w r B A X Z a dx q l th left rest) (mc : MCl P W K mg base CE fa) (ro : RsOk rest) : Mach P W K mg base CE H a dx (.ref q) l th left rest := ⟨s.D, mc.cl, mc.rq, ro.n1, ro.n2, ro.n⟩
theorem go_lk {fs : List (Str × V)} {wv : V} {l' : Addr} {th' : V} (ro : RsOk rest) : (mfs wv l' th' rest).lookup ("_go_on" : Str) = none := by
  show (("_wanted", wv) :: ("_left", V.ref l') :: ("_then", th') :: rest : List (Str × V)).lookup ("_go_on" : Str) = none
  rw [List.lookup_cons, List.lookup_cons, List.lookup_cons]
  exact ro.n3
/-- an access behind which the next request waits -/
theorem go_pop {q' : Addr} {rs : List V} {rq rq' : Rq} (s : MSt C M CE H m t w r B A X Z a dx q l th (.ref q' :: rs) rest) (mc : MCl P W K mg base CE fa) (ro : RsOk rest) (hq : H q = some (.tup rq.vs)) (ok : rq.ok t w r) (vals : rq.vals K H) (fl : rq.flatAt K H X t)
    (nxt : ∀ (v x : V) (A' : Adr) (X' : MS) (H1 H2 : Hp) (Z' : Addr → Prop), Res K ((X.withCount (X.count + 1)).withLog (X.log ++ [x])) t th0 H1 H1 rq v X' → MSt C M CE H2 m t w r (B + 2) A' X' Z' a dx q' l th rs rest → Zst Z H Z' H2 → (∀ b, Z b → Z' b) → A'.a = A.a →
      (∀ b o, H b = some o → b ≠ a → b ≠ l → ¬ Foot m A (t + w + r) b → H2 b = some o ∧ ¬ Foot m A' (t + w + r) b) → Go P W K mg base 6 C M a CE dx m t w r th0 Qg n H2 A' X' (B + 2) Z') : Go P W K mg base 6 C M a CE dx m t w r th0 Qg (n + 1) H A X B Z := by
  refine ⟨q, l, fa, th, _, rest, rq, _, s.mach mc ro, hq, ok, vals, fl, mc.ma, mc.fa, s.DM, s.so, s.zf, s.zla, fun v x p A' X' H1 ea R hp so' D' st Q' hQ' => ?_⟩
  obtain ⟨D1, f1, f2⟩ := s.acc st
  refine ⟨fun a' dx' fs e1 e2 => ?_, a, dx, l, _, th, .ref p, _, rest, rfl, D1, ro.n, .inl ⟨.ref q', rs, rfl, fun H2 D2 kp => ?_⟩⟩
  · cases e1
    rw [D1.ob] at e2
    cases e2
    exact go_lk (fs := []) ro
  · obtain ⟨s2, zs⟩ := s.next st ea D' so' (fun b => b = a ∨ b = l) (fun _ => False) (fun b o e y => kp b o e (fun z => y (.inl z)) fun z => y (.inr z)) (fun b y => y.elim (fun e => e ▸ s.za) fun e => e ▸ s.zl) (fun b y => y.elim (fun e => e ▸ f1) fun e => e ▸ f2) (fun b y => y.elim) D2 (.inl rfl)
    exact hQ' .non H2 _ zs (.inl (nxt v x A' X' H1 H2 _ R s2 zs (fun b h => .inr (.inl h)) ea fun b o e n1 n2 nf => ⟨kp b o (st.chg b o e nf) n1 n2, (st.out e nf).2⟩))
/-- an access whose result goes to a method -/
theorem go_then {qm g : Addr} {rq : Rq} {sp : Sp} (s : MSt C M CE H m t w r B A X Z a dx q l (.ref qm) [] rest) (mc : MCl P W K mg base CE fa) (ro : RsOk rest) (hq : H q = some (.tup rq.vs)) (ok : rq.ok t w r) (vals : rq.vals K H) (fl : rq.flatAt K H X t) (hm : H qm = some (.met g a)) (fi : PySem.W.fnIn K g = true) (FR : FnR P W K mg base CX0 4 g sp)
    (nxt : ∀ (v x : V) (p : Addr) (A' : Adr) (X' : MS) (H1 : Hp), A'.a = A.a → Res K ((X.withCount (X.count + 1)).withLog (X.log ++ [x])) t th0 H1 H1 rq v X' → H1 p = some (.tup [v, .int (X.count + 1)]) → SOk X' t (t + w + r) (B + 2) → MemAt C M H1 m t w r A' X' → Step m (t + w + r) A H A' H1 →
      MaAt CE H1 a dx (.ref q) l (.ref qm) [] rest → ∀ Q' : Hp → Prop, (∀ H2 Z', Zst Z H Z' H2 → (Go P W K mg base 6 C M a CE dx m t w r th0 Qg n H2 A' X' (B + 2) Z' ∨
        ∃ (q2 l2 : Addr) (th2 : V) (left2 : List V) (rest2 : List (Str × V)) (y : V), RsOk rest2 ∧ MSt C M CE H2 m t w r (B + 2) A' X' Z' a dx q2 l2 th2 left2 rest2 ∧ H2 q2 = some (.tup [.str "end", y]) ∧ Qg y H2 A' X' (B + 2) Z') → Q' H2) → sp [.ref a, .ref p] H1 (fun _ H' => Q' H') E0) : Go P W K mg base 6 C M a CE dx m t w r th0 Qg (n + 1) H A X B Z := by
  refine ⟨q, l, fa, _, _, rest, rq, _, s.mach mc ro, hq, ok, vals, fl, mc.ma, mc.fa, s.DM, s.so, s.zf, s.zla, fun v x p A' X' H1 ea R hp so' D' st Q' hQ' => ?_⟩
  obtain ⟨D1, f1, f2⟩ := s.acc st
  refine ⟨fun a' dx' fs e1 e2 => ?_, a, dx, l, _, _, .ref p, [], rest, rfl, D1, ro.n, .inr ⟨rfl, qm, g, sp, rfl, (st.out hm (met_out s.DM hm)).1, fi, FR, ?_⟩⟩
  · cases e1
    rw [D1.ob] at e2
    cases e2
    exact go_lk (fs := []) ro
  · refine nxt v x p A' X' H1 ea R hp so' D' st D1 (fun H' => Q' .non H') fun H2 Z' zs hc => hQ' .non H2 Z' zs ?_
    rcases hc with g' | ⟨q2, l2, th2, left2, rest2, y, ro2, s2, h1, h2⟩
    · exact .inl g'
    · exact .inr ⟨q2, l2, th2, left2, rest2, y, s2.mach mc ro2, h1, s2.DM, s2.zf, s2.zla, h2⟩
end
end Dk

set_option maxHeartbeats 4000000
/-! entering: its three accesses -/
namespace Dk
open PySem PySem.Spec PyProof.Rows L2
/-- kept outside of the memory and two addresses -/
def KF (m : Addr) (A A' : Adr) (n : Nat) (Y : Addr → Prop) (H H' : Hp) : Prop := ∀ b o, H b = some o → ¬ Y b → ¬ Foot m A n b → H' b = some o ∧ ¬ Foot m A' n b
theorem res_read {K : PySem.W.Frag} {X X' : MS} {t th i : Nat} {H H' : Hp} {v x u : V} {c : Int} {l : List V} (R : Res K ((X.withCount c).withLog l) t th H H' (.read i) v X') (hi : i < 1 + t) (hu : X.ps[i]? = some u) : v = u ∧ X'.ps = X.ps ∧ X'.count = c := by
  obtain ⟨h1, rfl⟩ := R
  refine ⟨?_, rfl, rfl⟩
  unfold cellV at h1
  rw [if_pos hi] at h1
  have h1 : X.ps[i]? = some v := h1
  rw [hu] at h1
  exact (Option.some.inj h1).symm
theorem res_write {K : PySem.W.Frag} {X X' : MS} {t th i : Nat} {H H' : Hp} {v y : V} {c : Int} {l : List V} (R : Res K ((X.withCount c).withLog l) t th H H' (.write i y) v X') (hi : i < 1 + t) : v = .non ∧ X'.ps = X.ps.set i y ∧ X'.count = c := by
  obtain ⟨h1, rfl⟩ := R
  refine ⟨h1, ?_, ?_⟩
  · unfold MS.give
    rw [if_pos hi]
    rfl
  · unfold MS.give
    rw [if_pos hi]
    rfl
theorem enrs {s : Int} {v : V} : RsOk (enrest s v) := ⟨rfl, rfl, rfl, by show 3 < 900; decide⟩
section
variable {P : Program} {W : World} {K : PySem.W.Frag} {mg : Str → Option Value} {base : Heap} {C M CE fa g : Addr} {H : Hp} {m : Addr} {t w r B th : Nat} {A : Adr} {X : MS} {Z : Addr → Prop} {a dx q l qm : Addr} {Qg : QG} {e : Int} {sl : List V}
theorem en_go (mc : MCl P W K mg base CE fa) (fi : PySem.W.fnIn K g = true) (FT : FnR P W K mg base CX0 4 g (spEnTake CE g)) (hth : th < t) (s : MSt C M CE H m t w r B A X Z a dx q l (.ref qm) [] (enrest (1 + (th : Int)) .non)) (hq : H q = some (.tup [.str "read", .int 0])) (hm : H qm = some (.met g a)) (hps : X.ps = .int e :: sl)
    (fin : ∀ H2 A' X' Z', A'.a = A.a → MemAt C M H2 m t w r A' X' → SOk X' t (t + w + r) (B + 2 + 2 + 2) → X'.ps = .int e :: sl.set th (.int e) → X'.count = X.count + 3 → (∀ b, Foot m A' (t + w + r) b → Z' b) → Zst Z H Z' H2 → (∀ b, Z b → Z' b) → KF m A A' (t + w + r) (fun b => b = a ∨ b = l) H H2 → Qg (.int e) H2 A' X' (B + 2 + 2 + 2) Z') :
    Go P W K mg base 6 C M a CE dx m t w r th Qg 3 H A X B Z := by
  have h0 : X.ps[0]? = some (.int e) := by rw [hps]; rfl
  refine go_then (rq := .read 0) s mc enrs hq (by show 0 < 1 + t + (t + w + r); omega) trivial trivial hm fi FT fun v x p A1 X1 H1 ea1 R1 hp so1 D1 st1 M1 Q' hQ' => ?_
  obtain ⟨rfl, ps1, c1⟩ := res_read (x := x) R1 (by omega) h0
  refine ⟨a, dx, p, l, _, _, [], _, e, _, .non, rfl, M1, hp, .inr ⟨rfl, fun H2 q1 q2 l' qm' n1 n2 nl' nm' e1 e2 em D2 kp => ?_⟩⟩
  obtain ⟨s2, z2⟩ := s.next st1 ea1 D1 so1 (fun b => b = a) (fun b => b = l') (fun b o q n => kp b o q n) (fun b y => y ▸ s.za) (fun b y => y ▸ (s.acc st1).2.1) (fun b y => y ▸ nl') D2 (.inr rfl)
  refine hQ' H2 _ z2 (.inl ?_)
  have kf2 : KF m A A1 (t + w + r) (fun b => b = a ∨ b = l) H H2 := fun b o q y nf => ⟨kp b o (st1.chg b o q nf) fun z => y (.inl z), (st1.out q nf).2⟩
  have e1' : H2 q1 = some (.tup (Rq.write (1 + th) (.int e)).vs) := by rw [e1]; rfl
  refine go_pop (rq := .write (1 + th) (.int e)) (rq' := .read 0) s2 mc enrs e1' (by show 1 + th < 1 + t + (t + w + r); omega) ⟨_, Dvl.int e⟩ trivial fun v3 x3 A3 X3 H3 H4 Z4 R3 s4 z4 zz4 ea3 kp4 => ?_
  obtain ⟨rfl, ps3, c3⟩ := res_write R3 (by omega)
  have q2_4 : H4 q2 = some (.tup [.str "read", .int 0]) := (kp4 _ _ e2 (ne_of e2 D2.ob (by intro z; cases z)) (ne_of e2 D2.lf (by intro z; cases z)) (tup_out s2.DM e2)).1
  have qm_4 : H4 qm' = some (.met g a) := (kp4 _ _ em (ne_of em D2.ob (by intro z; cases z)) (ne_of em D2.lf (by intro z; cases z)) (met_out s2.DM em)).1
  have ps3' : X3.ps = .int e :: sl.set th (.int e) := by rw [ps3, ps1, hps, show 1 + th = th + 1 by omega]; rfl
  have h0' : X3.ps[0]? = some (.int e) := by rw [ps3']; rfl
  refine go_then (rq := .read 0) s4 mc enrs q2_4 (by show 0 < 1 + t + (t + w + r); omega) trivial trivial qm_4 fi FT fun v5 x5 p5 A5 X5 H5 ea5 R5 hp5 so5 D5 st5 M5 Q5 hQ5 => ?_
  obtain ⟨rfl, ps5, c5⟩ := res_read (x := x5) R5 (by omega) h0'
  refine ⟨a, dx, p5, l', _, _, [], _, e, _, .int e, rfl, M5, hp5, .inl ⟨rfl, fun H6 q6 n6 e6 D6 kp6 => ?_⟩⟩
  obtain ⟨s6, z6⟩ := s4.next st5 ea5 D5 so5 (fun b => b = a) (fun b => False) (fun b o q n => kp6 b o q n) (fun b y => y ▸ s4.za) (fun b y => y ▸ (s4.acc st5).2.1) (fun b y => y.elim) D6 (.inl rfl)
  refine hQ5 H6 _ z6 (.inr ?_)
  refine ⟨q6, l', _, [], _, .int e, enrs, s6, e6, fin H6 A5 X5 _ (ea5.trans (ea3.trans ea1)) s6.DM s6.so (ps5.trans ps3') (by rw [c5, c3, c1]; omega) s6.zf ((z2.trans z4).trans z6) (fun b h => .inr (.inl (zz4 b (.inr (.inl h))))) fun b o q y nf => ?_⟩
  have f1 := (st1.out q nf).2
  have q2' := (kf2 b o q y nf).1
  have bl : b ≠ l' := fun z => by
    have := st1.chg b o q nf
    rw [z, nl'] at this; cases this
  obtain ⟨q4, f4⟩ := kp4 b o q2' (fun z => y (.inl z)) bl f1
  exact ⟨kp6 b o (st5.chg b o q4 f4) fun z => y (.inl z), (st5.out q4 f4).2⟩
end
end Dk

set_option maxHeartbeats 4000000
/-! leaving a call: its methods -/
namespace Dk
open PySem PySem.Spec PyProof.Rows L2 StX
abbrev sLvInit : Stmt := inClass (top 16) 0
abbrev sLvReq : Stmt := inClass (top 16) 1
abbrev sLvAcc : Stmt := inClass (top 16) 2
abbrev sLvSt : Stmt := inClass (top 16) 3
abbrev sLvLv : Stmt := inClass (top 16) 4
abbrev sLvHere : Stmt := inClass (top 16) 5
abbrev sLvEp : Stmt := inClass (top 16) 6
abbrev sLvLook : Stmt := inClass (top 16) 7
abbrev sLvSlot : Stmt := inClass (top 16) 8
abbrev sLvSwap : Stmt := inClass (top 16) 9
abbrev sLvFree : Stmt := inClass (top 16) 10
abbrev sOther : Stmt := top 17
abbrev lvrest (st : Addr) (sl : Addr) (ep : Int) : List (Str × V) := [("_store", .ref st), ("_epoch_cell", .int 0), ("_slots", .ref sl), ("_epoch", .int ep)]
theorem StAt.kept {S : Addr} {H H' : Hp} {st la : Addr} {t : Int} {fa wa oa : Addr} {fr out : List Int} {rows : List Rw} (R : StAt S H st la t fa wa oa fr out rows) {a CE dx : Addr} {fs : List (Str × V)} (ha : H a = some (.ins CE dx fs)) (n : a ≠ st) (k : Kept a H H') : StAt S H' st la t fa wa oa fr out rows :=
  ⟨let ⟨x, h⟩ := R.ob; ⟨x, k _ _ h n.symm⟩, k _ _ R.f (ne_of R.f ha (by intro z; cases z)), k _ _ R.w (ne_of R.w ha (by intro z; cases z)), k _ _ R.o (ne_of R.o ha (by intro z; cases z)), fun r hr => ⟨k _ _ (R.r r hr).1 (ne_of (R.r r hr).1 ha (by intro z; cases z)), k _ _ (R.r r hr).2 (ne_of (R.r r hr).2 ha (by intro z; cases z))⟩, R.d⟩
structure VTx (K : PySem.W.Frag) (CE : Addr) : Prop where
  m : MTx K CE
  nS : NoAttr K CE "_store"
  nE : NoAttr K CE "_epoch_cell"
  nL : NoAttr K CE "_slots"
  nP : NoAttr K CE "_epoch"
def spLvEnd (CE : Addr) : Sp := fun vs H Q _ => ∃ (a dx l st sl : Addr) (ep : Int) (w th r : V) (left : List V), vs = [.ref a, r] ∧ MaAt CE H a dx w l th left (lvrest st sl ep) ∧
  ∀ (H' : Hp) (q : Addr), H q = none → H' q = some (.tup [.str "end", .non]) → MaAt CE H' a dx (.ref q) l th left (lvrest st sl ep) → Kept a H H' → Q .non H'
def spLvFree (S CE : Addr) : Sp := fun vs H Q _ => ∃ (a dx l st sl la : Addr) (w th : V) (left : List V) (ep known t : Int) (fa wa oa : Addr) (fr out : List Int) (rows : List Rw), vs = [.ref a, .int known] ∧ MaAt CE H a dx w l th left (lvrest st sl ep) ∧ st ≠ a ∧ StAt S H st la t fa wa oa fr out rows ∧ rows.length < 1000 ∧ fr.length + (upTo (known - 3) rows).length < 1000 ∧
  ∀ (H' : Hp) (q fa' wa' : Addr) (fr' : List Int), fr'.Perm (fr ++ upTo (known - 3) rows) → Asc fr' → H q = none → H fa' = none → H wa' = none → H' q = some (.tup [.str "end", .non]) → MaAt CE H' a dx (.ref q) l th left (lvrest st sl ep) → StAt S H' st la t fa' wa' oa fr' out (rows.filter fun r => decide (known - 3 < r.e)) → Kept2 a st H H' → Q .non H'
def spLvLook (CE gSl gSw : Addr) : Sp := fun vs H Q _ => ∃ (a dx l st sl : Addr) (w th : V) (left : List V) (ep : Int) (os : List Int), vs = [.ref a] ∧ MaAt CE H a dx w l th left (lvrest st sl ep) ∧ H sl = some (.lst (os.map V.int)) ∧ sl ≠ l ∧
  ((∃ o os', os = o :: os' ∧ ∀ (H' : Hp) (q l' qm : Addr), H q = none → H l' = none → H qm = none → H' q = some (.tup [.str "read", .int o]) → H' qm = some (.met gSl a) → MaAt CE H' a dx (.ref q) l' (.ref qm) [] (lvrest st sl ep) → H' sl = some (.lst (os'.map V.int)) → Kept2 a sl H H' → Q .non H') ∨
   (os = [] ∧ ∀ (H' : Hp) (q l' qm : Addr), H q = none → H l' = none → H qm = none → H' q = some (.tup [.str "swap", .int 0, .int ep, .int (ep + 1)]) → H' qm = some (.met gSw a) → MaAt CE H' a dx (.ref q) l' (.ref qm) [] (lvrest st sl ep) → Kept a H H' → Q .non H'))
def spLvSlot (CE S gSl gSw : Addr) : Sp := fun vs H Q E => ∃ (a dx l st sl p : Addr) (w th : V) (left : List V) (ep c : Int) (held : V), vs = [.ref a, .ref p] ∧ MaAt CE H a dx w l th left (lvrest st sl ep) ∧ H p = some (.tup [held, .int c]) ∧
  ((held = .non ∧ spLvLook CE gSl gSw [.ref a] H Q E0) ∨ ∃ h : Int, held = .int h ∧ ((h = ep ∧ ∀ H', Same H H' → spLvLook CE gSl gSw [.ref a] H' Q E0) ∨ (h ≠ ep ∧ ∀ H', Same H H' → spLvFree S CE [.ref a, .int ep] H' Q E0)))
def spLvSwap (CE S : Addr) : Sp := fun vs H Q E => ∃ (a dx l st sl p : Addr) (w th : V) (left : List V) (ep c : Int) (b : Bool), vs = [.ref a, .ref p] ∧ MaAt CE H a dx w l th left (lvrest st sl ep) ∧ H p = some (.tup [.bl b, .int c]) ∧ spLvFree S CE [.ref a, .int (if b = true then ep + 1 else ep)] H Q E0
def spLvEp (CE gSl gSw : Addr) : Sp := fun vs H Q E => ∃ (a dx l st sl p : Addr) (w th : V) (left : List V) (ep e c : Int), vs = [.ref a, .ref p] ∧ MaAt CE H a dx w l th left (lvrest st sl ep) ∧ H p = some (.tup [.int e, .int c]) ∧ ∀ H', MaAt CE H' a dx w l th left (lvrest st sl e) → Kept a H H' → spLvLook CE gSl gSw [.ref a] H' Q E0
def spLvLeave (C S CE gEp gHe : Addr) : Sp := fun vs H Q _ => ∃ (a dx l st sl la : Addr) (w th : V) (left : List V) (ep : Int) (t wd r : Int) (thr : Nat) (fa wa oa : Addr) (fr out : List Int) (rows : List Rw), vs = [.ref a] ∧ MaAt CE H a dx w l th left (lvrest st sl ep) ∧ StAt S H st la (thr : Int) fa wa oa fr out rows ∧ LayAt C H la t wd r ∧
  ((rows ≠ [] ∧ ∀ (H' : Hp) (q1 q2 l' qm : Addr), H q1 = none → H q2 = none → H l' = none → H qm = none → H' q1 = some (.tup [.str "write", .int (1 + (thr : Int)), .non]) → H' q2 = some (.tup [.str "read", .int 0]) → H' qm = some (.met gEp a) → MaAt CE H' a dx (.ref q1) l' (.ref qm) [.ref q2] (lvrest st sl ep) → Kept a H H' → Q .non H') ∨
   (rows = [] ∧ ∀ (H' : Hp) (q1 l' qm : Addr), H q1 = none → H l' = none → H qm = none → H' q1 = some (.tup [.str "write", .int (1 + (thr : Int)), .non]) → H' qm = some (.met gHe a) → MaAt CE H' a dx (.ref q1) l' (.ref qm) [] (lvrest st sl ep) → Kept a H H' → Q .non H'))
def spLvStamp (C S CE gEp gHe : Addr) : Sp := fun vs H Q _ => ∃ (a dx l st sl la p : Addr) (w th : V) (left : List V) (ep e c : Int) (t : Int) (fa wa oa : Addr) (fr out : List Int) (rows : List Rw), vs = [.ref a, .ref p] ∧ MaAt CE H a dx w l th left (lvrest st sl ep) ∧ st ≠ a ∧ StAt S H st la t fa wa oa fr out rows ∧ rows.length < 1000 ∧ H p = some (.tup [.int e, .int c]) ∧
  ∀ (H' : Hp) (p' oa' : Addr), H p' = none → H oa' = none → StAt S H' st la t fa wa oa' fr [] (rows ++ [⟨p', oa, e, out⟩]) → Kept2 st wa H H' → spLvLeave C S CE gEp gHe [.ref a] H' Q E0
def others (thr t : Nat) : List Int := ((List.range t).filter fun i => decide (i ≠ thr)).map fun (i : Nat) => 1 + (i : Int)
def spOther (C S : Addr) : Sp := fun vs H Q _ => ∃ (st la : Addr) (t thr : Nat) (wd r : Int) (fa wa oa : Addr) (fr out : List Int) (rows : List Rw), vs = [.ref st] ∧ StAt S H st la (thr : Int) fa wa oa fr out rows ∧ LayAt C H la (t : Int) wd r ∧ t < 1000 ∧ ∀ H' p, H p = none → H' p = some (.lst ((others thr t).map V.int)) → Same H H' → Q (.ref p) H'
def spLvInit (C S CE gSt gEp gHe : Addr) : Sp := fun vs H Q _ => ∃ (a dx st la : Addr) (t thr : Nat) (wd r : Int) (fa wa oa : Addr) (fr out : List Int) (rows : List Rw), vs = [.ref a, .ref st] ∧ H a = some (.ins CE dx []) ∧ StAt S H st la (thr : Int) fa wa oa fr out rows ∧ LayAt C H la (t : Int) wd r ∧ t < 1000 ∧
  ((out ≠ [] ∧ ∀ (H' : Hp) (q l' qm sl : Addr), H q = none → H l' = none → H qm = none → H sl = none → sl ≠ l' → H' q = some (.tup [.str "read", .int 0]) → H' qm = some (.met gSt a) → MaAt CE H' a dx (.ref q) l' (.ref qm) [] (lvrest st sl 0) → H' sl = some (.lst ((others thr t).map V.int)) → Kept a H H' → Q .non H') ∨
   (out = [] ∧ ∀ (H' : Hp) (wv th : V) (left : List V) (l sl : Addr), H l = none → H sl = none → sl ≠ l → MaAt CE H' a dx wv l th left (lvrest st sl 0) → H' sl = some (.lst ((others thr t).map V.int)) → Kept a H H' → spLvLeave C S CE gEp gHe [.ref a] H' Q E0))
section
variable {P : Program} {w : World} {K : PySem.W.Frag} {mg : Str → Option Value} {base : Heap} {C M S CE gSl gSw gEp gHe gSt : Addr}
theorem scLvReq : FnScope ["self"] ["self"] (defScope sLvReq) := ⟨rfl, rfl, rfl, by decide +kernel, rfl, by decide +kernel, by decide +kernel⟩
theorem mo_lvreq (F : MT K CE "request" "Leaving.request" sLvReq ["self"]) (TC : MTx K CE) : MO P w K mg base CX0 CE 1 "request" ["self"] (spReq CE) := by
  obtain ⟨f, fd, F, hm, hb⟩ := F
  refine ⟨f, fd, ?_, hm, hb⟩
  refine F.ok scLvReq (fun vs H Q E h => ?_) (fun cdv A outer s H vs Q E hr h => ?_)
  · obtain ⟨a, dx, l, w, th, left, rest, rfl, _⟩ := h
    rfl
  · obtain ⟨a, dx, l, w, th, left, rest, rfl, D, k⟩ := h
    refine ⟨_, (pss_one (ps_ret (pe_fld (pv 0) rfl))), ?_⟩
    exact ⟨_, rfl, a, CE, dx, _, _, rfl, D.ob, TC.cl, TC.nW, rfl, k⟩
theorem scLvAcc : FnScope ["self", "result"] ["self", "result"] (defScope sLvAcc) := ⟨rfl, rfl, rfl, by decide +kernel, rfl, by decide +kernel, by decide +kernel⟩
theorem mo_lvacc {k : Nat} (F : MT K CE "accept" "Leaving.accept" sLvAcc ["self", "result"]) (TC : MTx K CE) (GGo : MO P w K mg base CX0 CE (k + 1) "_go_on" ["self", "result"] (spGo P w K mg base k CE)) : MO P w K mg base CX0 CE (k + 2) "accept" ["self", "result"] (spAcc P w K mg base k CE) := by
  obtain ⟨f, fd, F, hm, hb⟩ := F
  refine ⟨f, fd, ?_, hm, hb⟩
  refine F.ok scLvAcc (fun vs H Q E h => ?_) (fun cdv A outer s H vs Q E hr h => ?_)
  · obtain ⟨_, a, dx, l, w, th, res, left, rest, rfl, _⟩ := h
    rfl
  · obtain ⟨hl, h'⟩ := h
    obtain ⟨a, dx, l, w, th, res, left, rest, rfl, D, hz, hc⟩ := id h'
    have hrG : Room (k + 1) _ := hr
    refine ⟨_, (pss_one (ps_expr (pm_ GGo TC.cl hrG (pv 0) (pa_cons (pv 1) pa_nil)))), ?_⟩
    exact ⟨_, rfl, a, dx, _, rfl, D.ob, hl a dx _ rfl D.ob, _, rfl, h'⟩
theorem scLvHere : FnScope ["self", "result"] ["self", "result"] (defScope sLvHere) := ⟨rfl, rfl, rfl, by decide +kernel, rfl, by decide +kernel, by decide +kernel⟩
theorem mo_lvhere (F : MT K CE "_end_here" "Leaving._end_here" sLvHere ["self", "result"]) (TC : MTx K CE) (GEd : MO P w K mg base CX0 CE 1 "_end" ["self", "value"] (spMaEnd CE)) : MO P w K mg base CX0 CE 4 "_end_here" ["self", "result"] (spLvEnd CE) := by
  obtain ⟨f, fd, F, hm, hb⟩ := F
  refine ⟨f, fd, ?_, hm, hb⟩
  refine F.ok scLvHere (fun vs H Q E h => ?_) (fun cdv A outer s H vs Q E hr h => ?_)
  · obtain ⟨a, dx, l, st, sl, ep, wv, th, r, left, rfl, _⟩ := h
    rfl
  · obtain ⟨a, dx, l, st, sl, ep, wv, th, r, left, rfl, D, k⟩ := h
    have hrA : Room 1 _ := hr.mono (by decide)
    refine ⟨_, (pss_one (ps_expr (pm_ GEd TC.cl hrA (pv 0) (pa_cons pe_non pa_nil)))), ?_⟩
    exact ⟨_, rfl, a, dx, _, rfl, D.ob, rfl, a, dx, l, wv, th, .non, left, _, rfl, D, (by show 4 < 900; decide), fun H' q hq e D' kp => k H' q hq e D' kp⟩
theorem scLvFree : FnScope ["self", "known"] ["self", "known"] (defScope sLvFree) := ⟨rfl, rfl, rfl, by decide +kernel, rfl, by decide +kernel, by decide +kernel⟩
theorem mo_lvfree (F : MT K CE "_free_waiting" "Leaving._free_waiting" sLvFree ["self", "known"]) (TV : VTx K CE) (T : STxt K mg S) (GEd : MO P w K mg base CX0 CE 1 "_end" ["self", "value"] (spMaEnd CE)) (GFu : MO P w K mg base CX0 S 2 "free_up_to" ["self", "last"] (spFreeUp S)) : MO P w K mg base CX0 CE 3 "_free_waiting" ["self", "known"] (spLvFree S CE) := by
  obtain ⟨f, fd, F, hm, hb⟩ := F
  refine ⟨f, fd, ?_, hm, hb⟩
  refine F.ok scLvFree (fun vs H Q E h => ?_) (fun cdv A outer s H vs Q E hr h => ?_)
  · obtain ⟨a, dx, l, st, sl, la, wv, th, left, ep, known, t, fa, wa, oa, fr, out, rows, rfl, _⟩ := h
    rfl
  · obtain ⟨a, dx, l, st, sl, la, wv, th, left, ep, known, t, fa, wa, oa, fr, out, rows, rfl, D, n1, R, z1, z2, k⟩ := h
    have hrA : Room 1 _ := hr.mono (by decide)
    have hr2 : Room 2 _ := hr
    have TC := TV.m
    refine ⟨_, (pss_cons (ps_expr (pm_ GFu T.cl hr2 (pe_fld (pv 0) rfl) (pa_cons (pe_op op_sub (pv 1) pe_int) pa_nil)))
  (pss_one (ps_expr (pm_ GEd TC.cl hrA (pv 0) (pa_cons pe_non pa_nil))))), ?_⟩
    obtain ⟨ds, hst⟩ := R.ob
    refine ⟨_, rfl, a, CE, dx, _, _, rfl, D.ob, TC.cl, TV.nS, rfl, st, ds, _, rfl, hst, rfl, _, rfl, _, _, rfl, rfl, st, la, t, fa, wa, oa, fr, out, rows, _, rfl, R, z1, z2, fun H1 fa' wa' fr' pm asc nfa nwa R1 kp => ?_⟩
    have a1 := kp _ _ D.ob n1.symm
    have l1 := kp _ _ D.lf (ne_of D.lf hst (by intro z; cases z))
    refine ⟨_, rfl, a, dx, _, rfl, a1, rfl, a, dx, l, wv, th, .non, left, _, rfl, ⟨a1, l1⟩, (by show 4 < 900; decide), fun H2 q hq e2 D2 kp2 => ?_⟩
    exact k H2 q fa' wa' fr' pm asc (kp.free hq (let ⟨x, h⟩ := R1.ob; ⟨_, h⟩)) nfa nwa e2 D2 (R1.kept a1 n1.symm kp2) fun b o e n2 n3 => kp2 b o (kp b o e n3) n2
theorem scLvLook : FnScope ["self"] ["self"] (defScope sLvLook) := ⟨rfl, rfl, rfl, by decide +kernel, rfl, by decide +kernel, by decide +kernel⟩
theorem mo_lvlook (F : MT K CE "_look" "Leaving._look" sLvLook ["self"]) (TV : VTx K CE) (b1 : BMeth K CE "_take_slot" gSl) (b2 : BMeth K CE "_take_swap" gSw) (GAs : MO P w K mg base CX0 CE 1 "_ask" ["self", "requests", "then"] (spMaAsk CE)) : MO P w K mg base CX0 CE 2 "_look" ["self"] (spLvLook CE gSl gSw) := by
  obtain ⟨f, fd, F, hm, hb⟩ := F
  refine ⟨f, fd, ?_, hm, hb⟩
  refine F.ok scLvLook (fun vs H Q E h => ?_) (fun cdv A outer s H vs Q E hr h => ?_)
  · obtain ⟨a, dx, l, st, sl, wv, th, left, ep, os, rfl, _⟩ := h
    rfl
  · obtain ⟨a, dx, l, st, sl, wv, th, left, ep, os, rfl, D, hsl, nsl, hc⟩ := h
    have hrA : Room 1 _ := hr
    have TC := TV.m
    refine ⟨_, (pss_one (ps_if (pt_truth (pe_fld (pv 0) rfl) (by intro _; rfl))
  (pss_one (ps_expr (pm_ GAs TC.cl hrA (pv 0) (pa_cons (pe_lst (pa_cons (pe_tup (pa_cons pe_str (pa_cons (pe_bm PySem.F.plainAttrs_list PySem.F.slot_list_pop PySem.F.type_list_pop mt_popAt (pe_fld (pv 0) rfl) (pa_cons pe_int pa_nil)) pa_nil))) pa_nil)) (pa_cons (Mr.pe_bm_ (pv 0)) pa_nil)))))
  (pss_one (ps_expr (pm_ GAs TC.cl hrA (pv 0) (pa_cons (pe_lst (pa_cons (pe_tup (pa_cons pe_str (pa_cons (pe_fld (pv 0) rfl) (pa_cons (pe_fld (pv 0) rfl) (pa_cons (pe_op op_add (pe_fld (pv 0) rfl) pe_int) pa_nil))))) pa_nil)) (pa_cons (Mr.pe_bm_ (pv 0)) pa_nil))))))), ?_⟩
    rcases hc with ⟨o, os', rfl, k⟩ | ⟨rfl, k⟩
    · refine ⟨_, rfl, a, CE, dx, _, _, rfl, D.ob, TC.cl, TV.nL, rfl, true, .inl ⟨_, SqL.of hsl, rfl⟩, iteT ?_⟩
      refine ⟨_, rfl, a, dx, _, rfl, D.ob, rfl, _, rfl, a, CE, dx, _, _, rfl, D.ob, TC.cl, TV.nL, rfl, .inl ⟨rfl, _, SqL.of hsl⟩, sl, _, 0, 0, .int o, rfl, rfl, hsl, by decide, by decide, seq_head, rfl, ?_⟩
      have sl_a : sl ≠ a := ne_of hsl D.ob (by intro z; cases z)
      have k1 : ∀ b o, H b = some o → b ≠ sl → upd H sl (.lst (os'.map V.int)) b = some o := fun b o q n => by rw [upd_ne n]; exact q
      have sl1 : upd H sl (.lst (os'.map V.int)) sl = some (.lst (os'.map V.int)) := upd_same
      have eE : (V.int o :: os'.map V.int).eraseIdx 0 = os'.map V.int := rfl
      show tNil _ (upd H sl (.lst (os'.map V.int))) _
      generalize upd H sl (.lst (os'.map V.int)) = H1 at k1 sl1 ⊢
      have fr1 : ∀ {p}, H1 p = none → H p = none := fun {p} hp => by
        cases e : H p with
        | none => rfl
        | some o =>
          have := k1 p o e (fun z => by rw [z, sl1] at hp; cases hp)
          rw [hp] at this; cases this
      have a1 := k1 _ _ D.ob sl_a.symm
      have l1 := k1 _ _ D.lf nsl.symm
      refine ⟨(by show 2 ≤ sizeLine; decide), fun q hq => ⟨(by show 1 ≤ sizeLine; decide), fun rq hrq => ?_⟩⟩
      have s3 := up1 (o := HO.tup [V.str "read", V.int o]) hq
      have e3 : upd H1 q (HO.tup [V.str "read", V.int o]) q = _ := upd_same
      generalize upd H1 q (HO.tup [V.str "read", V.int o]) = H3 at s3 e3 hrq ⊢
      have s4 := up1 (o := HO.lst [V.ref q]) hrq
      have e4 : upd H3 rq (HO.lst [V.ref q]) rq = _ := upd_same
      generalize upd H3 rq (HO.lst [V.ref q]) = H4 at s4 e4 ⊢
      refine ⟨_, rfl, a, CE, dx, _, gSl, rfl, s4 _ _ (s3 _ _ a1), TC.cl, b1, rfl, fun qm hqm => ?_⟩
      have s5 := up1 (o := HO.met gSl a) hqm
      have e5 : upd H4 qm (HO.met gSl a) qm = _ := upd_same
      generalize upd H4 qm (HO.met gSl a) = H5 at s5 e5 ⊢
      have s15 := s3.trans (s4.trans s5)
      have a5 := s15 _ _ a1
      refine ⟨a, dx, l, rq, _, _, .ref qm, left, lvrest st sl ep, .ref q, [], rfl, ⟨a5, s15 _ _ l1⟩, (by show 4 < 900; decide), s5 _ _ e4, fun H6 l' hl' D6 kp6 => ?_⟩
      have q5 := s5 _ _ (s4 _ _ e3)
      exact k H6 q l' qm (fr1 hq) (fr1 (s15.free hl')) (fr1 ((s3.trans s4).free hqm)) (kp6 _ _ q5 (ne_of q5 a5 (by intro z; cases z))) (kp6 _ _ e5 (ne_of e5 a5 (by intro z; cases z))) D6 (kp6 _ _ (s15 _ _ sl1) sl_a) fun b o e n2 n3 => kp6 b o (s15 _ _ (k1 b o e n3)) n2
    · refine ⟨_, rfl, a, CE, dx, _, _, rfl, D.ob, TC.cl, TV.nL, rfl, false, .inl ⟨_, SqL.of hsl, rfl⟩, iteF ?_⟩
      refine ⟨_, rfl, a, dx, _, rfl, D.ob, rfl, _, rfl, a, CE, dx, _, _, rfl, D.ob, TC.cl, TV.nE, rfl, _, rfl, a, CE, dx, _, _, rfl, D.ob, TC.cl, TV.nP, rfl, _, rfl, a, CE, dx, _, _, rfl, D.ob, TC.cl, TV.nP, rfl, _, _, rfl, rfl, (by show 4 ≤ sizeLine; decide), fun q hq => ⟨(by show 1 ≤ sizeLine; decide), fun rq hrq => ?_⟩⟩
      have s3 := up1 (o := HO.tup [V.str "swap", V.int 0, V.int ep, V.int (ep + 1)]) hq
      have e3 : upd H q (HO.tup [V.str "swap", V.int 0, V.int ep, V.int (ep + 1)]) q = _ := upd_same
      generalize upd H q (HO.tup [V.str "swap", V.int 0, V.int ep, V.int (ep + 1)]) = H3 at s3 e3 hrq ⊢
      have s4 := up1 (o := HO.lst [V.ref q]) hrq
      have e4 : upd H3 rq (HO.lst [V.ref q]) rq = _ := upd_same
      generalize upd H3 rq (HO.lst [V.ref q]) = H4 at s4 e4 ⊢
      refine ⟨_, rfl, a, CE, dx, _, gSw, rfl, s4 _ _ (s3 _ _ D.ob), TC.cl, b2, rfl, fun qm hqm => ?_⟩
      have s5 := up1 (o := HO.met gSw a) hqm
      have e5 : upd H4 qm (HO.met gSw a) qm = _ := upd_same
      generalize upd H4 qm (HO.met gSw a) = H5 at s5 e5 ⊢
      have s15 := s3.trans (s4.trans s5)
      have a5 := s15 _ _ D.ob
      refine ⟨a, dx, l, rq, _, _, .ref qm, left, lvrest st sl ep, .ref q, [], rfl, ⟨a5, s15 _ _ D.lf⟩, (by show 4 < 900; decide), s5 _ _ e4, fun H6 l' hl' D6 kp6 => ?_⟩
      have q5 := s5 _ _ (s4 _ _ e3)
      exact k H6 q l' qm hq (s15.free hl') ((s3.trans s4).free hqm) (kp6 _ _ q5 (ne_of q5 a5 (by intro z; cases z))) (kp6 _ _ e5 (ne_of e5 a5 (by intro z; cases z))) D6 fun b o e n2 => kp6 b o (s15 _ _ e) n2
theorem scLvSlot : FnScope ["self", "result", "held"] ["self", "result"] (defScope sLvSlot) := ⟨rfl, rfl, rfl, by decide +kernel, rfl, by decide +kernel, by decide +kernel⟩
theorem mo_lvslot (F : MT K CE "_take_slot" "Leaving._take_slot" sLvSlot ["self", "result"]) (TV : VTx K CE) (GIs : GO P w K mg base CX0 1 "is_same" ["one", "other"] (spIsSameD K)) (GLk : MO P w K mg base CX0 CE 2 "_look" ["self"] (spLvLook CE gSl gSw)) (GFw : MO P w K mg base CX0 CE 3 "_free_waiting" ["self", "known"] (spLvFree S CE)) : MO P w K mg base CX0 CE 4 "_take_slot" ["self", "result"] (spLvSlot CE S gSl gSw) := by
  obtain ⟨f, fd, F, hm, hb⟩ := F
  refine ⟨f, fd, ?_, hm, hb⟩
  refine F.ok scLvSlot (fun vs H Q E h => ?_) (fun cdv A outer s H vs Q E hr h => ?_)
  · obtain ⟨a, dx, l, st, sl, p, wv, th, left, ep, c, held, rfl, _⟩ := h
    rfl
  · obtain ⟨a, dx, l, st, sl, p, wv, th, left, ep, c, held, rfl, D, hp, hc⟩ := h
    have nd := scLvSlot.nd
    have hr1 : Room 1 _ := hr.mono (by decide)
    have hr2 : Room 2 _ := hr.mono (by decide)
    have hr3 : Room 3 _ := hr
    have TC := TV.m
    refine ⟨_, (pss_cons (ps_set (i := 2) nd rfl (Or.inl rfl) (pe_ix ix_tup (pv 1) pe_int (fun _ _ => rfl)))
  (pss_one (ps_if (PW.pt (pw_or (pt_cmpR op_isN (pv 2) pe_non (nomark _)) (pw_or1 (pt_val (pc_ GIs hr1 (pa_cons (pv 2) (pa_cons (pe_fld (pv 0) rfl) pa_nil)))))))
  (pss_one (ps_expr (pm0_ GLk TC.cl hr2 (pv 0))))
  (pss_one (ps_expr (pm_ GFw TC.cl hr3 (pv 0) (pa_cons (pe_fld (pv 0) rfl) pa_nil))))))), ?_⟩
    refine ⟨_, rfl, p, _, 0, _, rfl, rfl, SqT.of hp, at_head, ?_⟩
    rcases hc with ⟨rfl, k⟩ | ⟨h, rfl, hc⟩
    · refine ⟨_, rfl, rfl, _, rfl, iteT ?_⟩
      exact ⟨_, rfl, a, dx, _, rfl, D.ob, rfl, k⟩
    · refine ⟨_, rfl, rfl, _, rfl, iteF ?_⟩
      have hd : DV K H (.int h) (.sc (.int h)) := (Dvl.int h).d
      refine ⟨_, rfl, _, rfl, a, CE, dx, _, _, rfl, D.ob, TC.cl, TV.nP, rfl, .int h, .int ep, .sc (.int h), .sc (.int ep), rfl, hd, (Dvl.int ep).d, (Dvl.int (K := K) (H := H) h).o, (Dvl.int (K := K) (H := H) ep).o, (by show 1 < sizeLine; decide), fun b H1 s1 hb => ⟨_, rfl, ?_⟩⟩
      rcases hc with ⟨rfl, k⟩ | ⟨ne, k⟩
      · rw [hb.mpr rfl]
        exact iteT ⟨_, rfl, a, dx, _, rfl, s1 _ _ D.ob, rfl, k H1 s1⟩
      · have eb : b = false := by
          cases b with
          | false => rfl
          | true =>
            have := hb.mp rfl
            injection this with z
            injection z with z
            exact absurd z ne
        rw [eb]
        exact iteF ⟨_, rfl, a, dx, _, rfl, s1 _ _ D.ob, rfl, _, rfl, a, CE, dx, _, _, rfl, s1 _ _ D.ob, TC.cl, TV.nP, rfl, k H1 s1⟩
theorem scLvSwap : FnScope ["self", "result"] ["self", "result"] (defScope sLvSwap) := ⟨rfl, rfl, rfl, by decide +kernel, rfl, by decide +kernel, by decide +kernel⟩
theorem mo_lvswap (F : MT K CE "_take_swap" "Leaving._take_swap" sLvSwap ["self", "result"]) (TV : VTx K CE) (GFw : MO P w K mg base CX0 CE 3 "_free_waiting" ["self", "known"] (spLvFree S CE)) : MO P w K mg base CX0 CE 4 "_take_swap" ["self", "result"] (spLvSwap CE S) := by
  obtain ⟨f, fd, F, hm, hb⟩ := F
  refine ⟨f, fd, ?_, hm, hb⟩
  refine F.ok scLvSwap (fun vs H Q E h => ?_) (fun cdv A outer s H vs Q E hr h => ?_)
  · obtain ⟨a, dx, l, st, sl, p, wv, th, left, ep, c, b, rfl, _⟩ := h
    rfl
  · obtain ⟨a, dx, l, st, sl, p, wv, th, left, ep, c, b, rfl, D, hp, k⟩ := h
    have hr3 : Room 3 _ := hr
    have TC := TV.m
    refine ⟨_, (pss_one (ps_expr (pm_ GFw TC.cl hr3 (pv 0) (pa_cons (pe_ifExp (pt_truth (pe_ix ix_tup (pv 1) pe_int (fun _ _ => rfl)) (by intro _; rfl)) (pe_op op_add (pe_fld (pv 0) rfl) pe_int) (pe_fld (pv 0) rfl)) pa_nil)))), ?_⟩
    refine ⟨_, rfl, a, dx, _, rfl, D.ob, rfl, _, rfl, p, _, 0, _, rfl, rfl, SqT.of hp, at_head, b, rfl, ?_⟩
    cases b with
    | true => exact iteT ⟨_, rfl, a, CE, dx, _, _, rfl, D.ob, TC.cl, TV.nP, rfl, _, _, rfl, rfl, k⟩
    | false => exact iteF ⟨_, rfl, a, CE, dx, _, _, rfl, D.ob, TC.cl, TV.nP, rfl, k⟩
theorem scLvEp : FnScope ["self", "result"] ["self", "result"] (defScope sLvEp) := ⟨rfl, rfl, rfl, by decide +kernel, rfl, by decide +kernel, by decide +kernel⟩
theorem mo_lvep (F : MT K CE "_take_epoch" "Leaving._take_epoch" sLvEp ["self", "result"]) (TV : VTx K CE) (GLk : MO P w K mg base CX0 CE 2 "_look" ["self"] (spLvLook CE gSl gSw)) : MO P w K mg base CX0 CE 4 "_take_epoch" ["self", "result"] (spLvEp CE gSl gSw) := by
  obtain ⟨f, fd, F, hm, hb⟩ := F
  refine ⟨f, fd, ?_, hm, hb⟩
  refine F.ok scLvEp (fun vs H Q E h => ?_) (fun cdv A outer s H vs Q E hr h => ?_)
  · obtain ⟨a, dx, l, st, sl, p, wv, th, left, ep, e, c, rfl, _⟩ := h
    rfl
  · obtain ⟨a, dx, l, st, sl, p, wv, th, left, ep, e, c, rfl, D, hp, k⟩ := h
    have hr2 : Room 2 _ := hr.mono (by decide)
    have TC := TV.m
    refine ⟨_, (pss_cons (ps_fld (pv 0) (pe_ix ix_tup (pv 1) pe_int (fun _ _ => rfl)) rfl)
  (pss_one (ps_expr (pm0_ GLk TC.cl hr2 (pv 0))))), ?_⟩
    refine ⟨_, rfl, p, _, 0, _, rfl, rfl, SqT.of hp, at_head, _, rfl, a, CE, dx, _, rfl, D.ob, TC.cl, TV.nP, (by show 7 < 1000; decide), ?_⟩
    have l_a : l ≠ a := ne_of D.lf D.ob (by intro z; cases z)
    exact ⟨_, rfl, a, dx, _, rfl, upd_same, rfl, k _ ⟨upd_same, by rw [upd_ne l_a]; exact D.lf⟩ fun b o q n => by rw [upd_ne n]; exact q⟩
theorem scLvLv : FnScope ["self", "slot", "requests"] ["self"] (defScope sLvLv) := ⟨rfl, rfl, rfl, by decide +kernel, rfl, by decide +kernel, by decide +kernel⟩
theorem mo_lvleave (F : MT K CE "_leave" "Leaving._leave" sLvLv ["self"]) (TV : VTx K CE) (TL : LTxt K mg C) (T : STxt K mg S) (b1 : BMeth K CE "_take_epoch" gEp) (b2 : BMeth K CE "_end_here" gHe) (GAs : MO P w K mg base CX0 CE 1 "_ask" ["self", "requests", "then"] (spMaAsk CE))
    (GEs : MO P w K mg base CX0 C 1 "epoch_slot" ["self", "thread"] (spL1 C fun _ _ _ i => .int (1 + i))) (GHw : MO P w K mg base CX0 S 1 "has_waiting" ["self"] (spHasWait S)) : MO P w K mg base CX0 CE 2 "_leave" ["self"] (spLvLeave C S CE gEp gHe) := by
  obtain ⟨f, fd, F, hm, hb⟩ := F
  refine ⟨f, fd, ?_, hm, hb⟩
  refine F.ok scLvLv (fun vs H Q E h => ?_) (fun cdv A outer s H vs Q E hr h => ?_)
  · obtain ⟨a, dx, l, st, sl, la, wv, th, left, ep, t, wd, r, thr, fa, wa, oa, fr, out, rows, rfl, _⟩ := h
    rfl
  · obtain ⟨a, dx, l, st, sl, la, wv, th, left, ep, t, wd, r, thr, fa, wa, oa, fr, out, rows, rfl, D, R, ⟨da, hla⟩, hc⟩ := h
    have nd := scLvLv.nd
    have hr1 : Room 1 _ := hr
    have hrA : Room 1 _ := hr
    have TC := TV.m
    obtain ⟨ds, hst⟩ := id R.ob
    refine ⟨_, (pss_cons (ps_set (i := 1) nd rfl (Or.inl rfl) (pm_ GEs TL.cl hr1 (pe_fld (pe_fld (pv 0) rfl) rfl) (pa_cons (pe_fld (pe_fld (pv 0) rfl) rfl) pa_nil)))
  (pss_cons (ps_set (i := 2) nd rfl (Or.inl rfl) (pe_lst (pa_cons (pe_tup (pa_cons pe_str (pa_cons (pv 1) (pa_cons pe_non pa_nil)))) pa_nil)))
  (pss_one (ps_if (pt_val (pm0_ GHw T.cl hr1 (pe_fld (pv 0) rfl)))
  (pss_one (ps_expr (pm_ GAs TC.cl hrA (pv 0) (pa_cons (pe_lst (pa_star (pv 2) (pa_cons (pe_tup (pa_cons pe_str (pa_cons (pe_fld (pv 0) rfl) pa_nil))) pa_nil))) (pa_cons (Mr.pe_bm_ (pv 0)) pa_nil)))))
  (pss_one (ps_expr (pm_ GAs TC.cl hrA (pv 0) (pa_cons (pv 2) (pa_cons (Mr.pe_bm_ (pv 0)) pa_nil))))))))), ?_⟩
    refine ⟨_, rfl, a, CE, dx, _, _, rfl, D.ob, TC.cl, TV.nS, rfl, st, S, ds, _, _, rfl, hst, T.cl, T.nL, rfl, la, da, _, rfl, hla, rfl, _, rfl, a, CE, dx, _, _, rfl, D.ob, TC.cl, TV.nS, rfl, st, S, ds, _, _, rfl, hst, T.cl, T.nT, rfl, la, _, _, _, _, rfl, ⟨da, hla⟩, ?_⟩
    refine ⟨_, rfl, (by show 3 ≤ sizeLine; decide), fun q1 hq1 => ⟨(by show 1 ≤ sizeLine; decide), fun l1 hl1 => ?_⟩⟩
    have s1 := up1 (o := HO.tup [V.str "write", V.int (1 + (thr : Int)), V.non]) hq1
    have e1 : upd H q1 (HO.tup [V.str "write", V.int (1 + (thr : Int)), V.non]) q1 = _ := upd_same
    generalize upd H q1 (HO.tup [V.str "write", V.int (1 + (thr : Int)), V.non]) = H1 at s1 e1 hl1 ⊢
    have s2 := up1 (o := HO.lst [V.ref q1]) hl1
    have e2 : upd H1 l1 (HO.lst [V.ref q1]) l1 = _ := upd_same
    generalize upd H1 l1 (HO.lst [V.ref q1]) = H2 at s2 e2 ⊢
    have s02 := s1.trans s2
    have D2 : MaAt CE H2 a dx wv l th left (lvrest st sl ep) := D.same s02
    refine ⟨_, rfl, a, CE, dx, _, _, rfl, D2.ob, TC.cl, TV.nS, rfl, st, ds, _, rfl, s02 _ _ hst, rfl, st, la, _, fa, wa, oa, fr, out, rows, rfl, R.same s02, _, rfl, ?_⟩
    rcases hc with ⟨ne, k⟩ | ⟨rfl, k⟩
    · have eb : (!rows.isEmpty) = true := by cases rows with
        | nil => exact absurd rfl ne
        | cons _ _ => rfl
      rw [eb]
      refine iteT ⟨_, rfl, a, dx, _, rfl, D2.ob, rfl, _, rfl, l1, _, rfl, .inr (SqL.of e2), ?_⟩
      refine ⟨_, rfl, a, CE, dx, _, _, rfl, D2.ob, TC.cl, TV.nE, rfl, (by show 2 ≤ sizeLine; decide), fun q2 hq2 => ⟨(by show 2 ≤ sizeLine; decide), fun rq hrq => ?_⟩⟩
      have s3 := up1 (o := HO.tup [V.str "read", V.int 0]) hq2
      have e3 : upd H2 q2 (HO.tup [V.str "read", V.int 0]) q2 = _ := upd_same
      generalize upd H2 q2 (HO.tup [V.str "read", V.int 0]) = H3 at s3 e3 hrq ⊢
      have s4 := up1 (o := HO.lst [V.ref q1, V.ref q2]) hrq
      have e4 : upd H3 rq (HO.lst [V.ref q1, V.ref q2]) rq = some (HO.lst [V.ref q1, V.ref q2]) := upd_same
      obtain ⟨H4, hH4⟩ : ∃ H4, H4 = upd H3 rq (HO.lst [V.ref q1, V.ref q2]) := ⟨_, rfl⟩
      rw [← hH4] at s4 e4
      have s24 := s3.trans s4
      have D4 := D2.same s24
      refine ⟨_, rfl, a, CE, dx, _, gEp, rfl, (by rw [hH4] at D4; exact D4.ob), TC.cl, b1, rfl, fun qm hqm => ?_⟩
      have hqm' : H4 qm = none := by rw [hH4]; exact hqm
      have s5 := up1 (o := HO.met gEp a) hqm'
      have e5 : upd H4 qm (HO.met gEp a) qm = _ := upd_same
      have D5 := D4.same s5
      have s05 := s02.trans (s24.trans s5)
      subst hH4
      refine ⟨a, dx, l, rq, _, _, .ref qm, left, lvrest st sl ep, .ref q1, [.ref q2], rfl, D5, (by show 4 < 900; decide), s5 _ _ e4, fun H6 l' hl' D6 kp6 => ?_⟩
      have q1_5 := s5 _ _ (s24 _ _ (s2 _ _ e1))
      have q2_5 := s5 _ _ (s4 _ _ e3)
      exact k H6 q1 q2 l' qm hq1 (s02.free hq2) (s05.free hl') ((s02.trans s24).free hqm') (kp6 _ _ q1_5 (ne_of q1_5 D5.ob (by intro z; cases z))) (kp6 _ _ q2_5 (ne_of q2_5 D5.ob (by intro z; cases z))) (kp6 _ _ e5 (ne_of e5 D5.ob (by intro z; cases z))) D6 fun b o e n2 => kp6 b o (s05 _ _ e) n2
    · refine iteF ⟨_, rfl, a, dx, _, rfl, D2.ob, rfl, _, rfl, ?_⟩
      refine ⟨_, rfl, a, CE, dx, _, gHe, rfl, D2.ob, TC.cl, b2, rfl, fun qm hqm => ?_⟩
      have s5 := up1 (o := HO.met gHe a) hqm
      have e5 : upd H2 qm (HO.met gHe a) qm = _ := upd_same
      generalize upd H2 qm (HO.met gHe a) = H5 at s5 e5 ⊢
      have D5 := D2.same s5
      refine ⟨a, dx, l, l1, _, _, .ref qm, left, lvrest st sl ep, .ref q1, [], rfl, D5, (by show 4 < 900; decide), s5 _ _ e2, fun H6 l' hl' D6 kp6 => ?_⟩
      have q5 := s5 _ _ (s2 _ _ e1)
      exact k H6 q1 l' qm hq1 ((s02.trans s5).free hl') (s02.free hqm) (kp6 _ _ q5 (ne_of q5 D5.ob (by intro z; cases z))) (kp6 _ _ e5 (ne_of e5 D5.ob (by intro z; cases z))) D6 fun b o e n2 => kp6 b o ((s02.trans s5) _ _ e) n2
theorem scLvSt : FnScope ["self", "result"] ["self", "result"] (defScope sLvSt) := ⟨rfl, rfl, rfl, by decide +kernel, rfl, by decide +kernel, by decide +kernel⟩
theorem mo_lvstamp (F : MT K CE "_take_stamp" "Leaving._take_stamp" sLvSt ["self", "result"]) (TV : VTx K CE) (T : STxt K mg S) (GSm : MO P w K mg base CX0 S 1 "stamp" ["self", "epoch"] (spStamp S)) (GLv : MO P w K mg base CX0 CE 2 "_leave" ["self"] (spLvLeave C S CE gEp gHe)) : MO P w K mg base CX0 CE 4 "_take_stamp" ["self", "result"] (spLvStamp C S CE gEp gHe) := by
  obtain ⟨f, fd, F, hm, hb⟩ := F
  refine ⟨f, fd, ?_, hm, hb⟩
  refine F.ok scLvSt (fun vs H Q E h => ?_) (fun cdv A outer s H vs Q E hr h => ?_)
  · obtain ⟨a, dx, l, st, sl, la, p, wv, th, left, ep, e, c, t, fa, wa, oa, fr, out, rows, rfl, _⟩ := h
    rfl
  · obtain ⟨a, dx, l, st, sl, la, p, wv, th, left, ep, e, c, t, fa, wa, oa, fr, out, rows, rfl, D, n1, R, hz, hp, k⟩ := h
    have hr1 : Room 1 _ := hr.mono (by decide)
    have hr2 : Room 2 _ := hr.mono (by decide)
    have TC := TV.m
    obtain ⟨ds, hst⟩ := id R.ob
    refine ⟨_, (pss_cons (ps_expr (pm_ GSm T.cl hr1 (pe_fld (pv 0) rfl) (pa_cons (pe_ix ix_tup (pv 1) pe_int (fun _ _ => rfl)) pa_nil)))
  (pss_one (ps_expr (pm0_ GLv TC.cl hr2 (pv 0))))), ?_⟩
    refine ⟨_, rfl, a, CE, dx, _, _, rfl, D.ob, TC.cl, TV.nS, rfl, st, ds, _, rfl, hst, rfl, _, rfl, p, _, 0, _, rfl, rfl, SqT.of hp, at_head, st, la, t, fa, wa, oa, fr, out, rows, e, rfl, R, hz, fun H1 p' oa' np no R1 kp => ?_⟩
    exact ⟨_, rfl, a, dx, _, rfl, kp _ _ D.ob n1.symm (fun z => by have h := D.ob; rw [z, R.w] at h; cases h), rfl, k H1 p' oa' np no R1 kp⟩
theorem scOther : FnScope ["store", "layout", "thread"] ["store"] (defScope sOther) := ⟨rfl, rfl, rfl, by decide +kernel, rfl, by decide +kernel, by decide +kernel⟩
theorem go_other (F : GT K mg "other_slots" sOther ["store"]) (B0 : Bn mg) (TL : LTxt K mg C) (T : STxt K mg S) (GEs : MO P w K mg base CX0 C 1 "epoch_slot" ["self", "thread"] (spL1 C fun _ _ _ i => .int (1 + i))) : GO P w K mg base CX0 2 "other_slots" ["store"] (spOther C S) := by
  obtain ⟨f, fd, F, hm, hb⟩ := F
  refine ⟨f, fd, ?_, hm, F.kp, hb⟩
  refine F.ok scOther (fun vs H Q E h => ?_) (fun cdv A outer s H vs Q E hr h => ?_)
  · obtain ⟨st, la, t, thr, wd, r, fa, wa, oa, fr, out, rows, rfl, _⟩ := h
    rfl
  · obtain ⟨st, la, t, thr, wd, r, fa, wa, oa, fr, out, rows, rfl, R, ⟨da, hla⟩, hz, k⟩ := h
    have nd := scOther.nd
    have hr1 : Room 1 _ := hr
    have hsl : sizeLine = 16777216 := sizeLine_eq
    obtain ⟨ds, hst⟩ := R.ob
    refine ⟨_, (pss_cons (ps_set (i := 1) nd rfl (Or.inr rfl) (pe_fld (pv 0) rfl))
  (pss_one (ps_ret (pe_lc (own := [("thread", 2)]) (g := (gName 2)) (tt := tTest (tOp rNe (tVar 2) (tFld K (tVar 0) "thread"))) rfl nd (pi_range1 (by rfl) B0.range (pa_cons (pe_fld (pv 1) rfl) pa_nil)) (blkOk_by (N := ["store", "layout", "thread"]) (sc := defScope sOther) (by decide +kernel)) (fun _ _ _ _ _ => (pg_name (i := 2) nd rfl (Or.inl rfl))) (fun _ _ _ _ _ => pts_one (pt_cmpR op_ne (pv 2) (pe_fld (pv 0) rfl) (nomark _))) (fun _ _ _ _ _ => (pm_ GEs TL.cl hr1 (pv 1) (pa_cons (pv 2) pa_nil))))))), ?_⟩
    refine ⟨_, rfl, st, S, ds, _, _, rfl, hst, T.cl, T.nL, rfl, ?_⟩
    refine ⟨_, rfl, la, C, da, _, _, rfl, hla, TL.cl, TL.nT, rfl, _, rfl, (by omega), (by omega), fun D hD => lc_range (lo := 0) (n := (t : Int).toNat) (fun i H' => H' D = some (.lst ((others thr i).map V.int)) ∧ Same H H') ⟨upd_same, up1 hD⟩ ?_ ?_⟩
    · rintro i H' hi ⟨hD', s1⟩
      have eo : others thr (i + 1) = others thr i ++ (if i ≠ thr then [1 + (i : Int)] else []) := by
        unfold others
        rw [List.range_succ, List.filter_append, List.map_append, List.filter_cons]
        by_cases c : i = thr
        · rw [if_neg (by simpa using c), if_neg (by simpa using c)]; rfl
        · rw [if_pos (by simpa using c), if_pos c]; rfl
      refine ⟨rfl, _, rfl, _, rfl, st, S, ds, _, _, rfl, s1 _ _ hst, T.cl, T.nT, rfl, rfl, _, rfl, ?_⟩
      by_cases c : i = thr
      · rw [decide_eq_true (show V.int (0 + (i : Int)) = V.int (thr : Int) from congrArg V.int (by omega))]
        refine iteF ⟨?_, s1⟩
        rw [eo, if_neg (by simpa using c), List.append_nil]
        exact hD'
      · rw [decide_eq_false (show ¬ (V.int (0 + (i : Int)) = V.int (thr : Int)) from fun z => c (by have := V.int.inj z; omega))]
        refine iteT ⟨_, rfl, la, da, _, rfl, s1 _ _ hla, rfl, _, rfl, la, _, _, _, _, rfl, ⟨da, s1 _ _ hla⟩, _, hD', ?_, ?_, fun b o e => by rw [upd_ne (ne_of_none e hD)]; exact s1 b o e⟩
        · rw [List.length_map]
          unfold others
          rw [List.length_map]
          have := List.length_filter_le (fun i => decide (i ≠ thr)) (List.range i)
          rw [List.length_range] at this
          have : i < (t : Int).toNat := hi
          omega
        · rw [upd_same, eo, if_pos c, List.map_append, show (0 : Int) + (i : Int) = (i : Int) by omega]
          rfl
    · rintro H' ⟨hD', s1⟩
      exact k H' D hD hD' s1
theorem scLvInit : FnScope ["self", "store"] ["self", "store"] (defScope sLvInit) := ⟨rfl, rfl, rfl, by decide +kernel, rfl, by decide +kernel, by decide +kernel⟩
theorem ok_lvinit {f fMi Ma : Addr} {fd : FuncData} (F : Fun K "__init__" "Leaving.__init__" sLvInit f fd) (TV : VTx K CE) (TL : LTxt K mg C) (T : STxt K mg S) (gMa : mg "Machine" = some (.ref Ma)) (cMi : Mr.CFn K Ma "__init__" fMi) (FMi : FnR P w K mg base CX0 1 fMi (spMaInit CE)) (bs : BMeth K CE "_take_stamp" gSt)
    (GEp : MO P w K mg base CX0 C 1 "epoch" ["self"] (spL0 C fun _ _ _ => .int 0)) (GOs : GO P w K mg base CX0 2 "other_slots" ["store"] (spOther C S)) (GHo : MO P w K mg base CX0 S 1 "has_taken_out" ["self"] (spHasOut S)) (GLv : MO P w K mg base CX0 CE 2 "_leave" ["self"] (spLvLeave C S CE gEp gHe)) (GAs : MO P w K mg base CX0 CE 1 "_ask" ["self", "requests", "then"] (spMaAsk CE)) :
    FnOk P w K mg base CX0 3 f fd ["self", "store"] (spLvInit C S CE gSt gEp gHe) := by
  refine F.ok scLvInit (fun vs H Q E h => ?_) (fun cdv A outer s H vs Q E hr h => ?_)
  · obtain ⟨a, dx, st, la, t, thr, wd, r, fa, wa, oa, fr, out, rows, rfl, _⟩ := h
    rfl
  · obtain ⟨a, dx, st, la, t, thr, wd, r, fa, wa, oa, fr, out, rows, rfl, ha, R, ⟨da, hla⟩, hz, hc⟩ := h
    have hr1 : Room 1 _ := hr.mono (by decide)
    have hr2 : Room 2 _ := hr
    have TC := TV.m
    have hrA : Room 1 _ := hr.mono (by decide)
    refine ⟨_, (pss_cons (ps_expr (Mr.pe_cls rfl gMa cMi FMi hr1 (pa_cons (pv 0) pa_nil)))
  (pss_cons (ps_fld (pv 0) (pv 1) rfl)
  (pss_cons (ps_fld (pv 0) (pm0_ GEp TL.cl hr1 (pe_fld (pv 1) rfl)) rfl)
  (pss_cons (ps_fld (pv 0) (pc_ GOs hr2 (pa_cons (pv 1) pa_nil)) rfl)
  (pss_cons (ps_fld (pv 0) pe_int rfl)
  (pss_one (ps_if (pt_val (pm0_ GHo T.cl hr1 (pv 1)))
  (pss_one (ps_expr (pm_ GAs TC.cl hrA (pv 0) (pa_cons (pe_lst (pa_cons (pe_tup (pa_cons pe_str (pa_cons (pe_fld (pv 0) rfl) pa_nil))) pa_nil)) (pa_cons (Mr.pe_bm_ (pv 0)) pa_nil)))))
  (pss_one (ps_expr (pm0_ GLv TC.cl hr2 (pv 0))))))))))), ?_⟩
    obtain ⟨ds, hst⟩ := id R.ob
    have st_a : st ≠ a := ne_of hst ha (by intro z; cases z)
    refine ⟨_, rfl, a, dx, rfl, ha, fun H1 e l he hl h1 D1 kp1 => ?_⟩
    have la_a : la ≠ a := ne_of hla ha (by intro z; cases z)
    have hst1 := kp1 _ _ hst st_a
    have hla1 := kp1 _ _ hla la_a
    have R1 := R.kept ha st_a.symm kp1
    have hk : ∀ {b : Addr} {o o' : HO}, H1 b = some o → b ≠ a → upd H1 a o' b = some o := fun {b o o'} q n => by rw [upd_ne n]; exact q
    have l_a : l ≠ a := ne_of D1.lf D1.ob (by intro z; cases z)
    refine ⟨_, rfl, _, rfl, a, CE, dx, _, rfl, D1.ob, TC.cl, TV.nS, (by show 3 < 1000; decide), ?_⟩
    refine ⟨_, rfl, st, S, ds, _, _, rfl, hk hst1 st_a, T.cl, T.nL, rfl, la, da, _, rfl, hk hla1 la_a, rfl, la, _, _, _, rfl, ⟨da, hk hla1 la_a⟩, _, rfl, a, CE, dx, _, rfl, upd_same, TC.cl, TV.nE, (by show 4 < 1000; decide), ?_⟩
    generalize hH2 : upd (upd H1 a _) a _ = H2
    have kp2 : Kept a H1 H2 := fun b o q n => by rw [← hH2, upd_ne n, upd_ne n]; exact q
    have a2 : H2 a = some (.ins CE dx (mfs (.ref e) l .non [("_store", .ref st), ("_epoch_cell", .int 0)])) := by rw [← hH2]; exact upd_same
    have R2 := R1.kept D1.ob st_a.symm kp2
    have hla2 := kp2 _ _ hla1 la_a
    refine ⟨_, rfl, st, la, t, thr, wd, r, fa, wa, oa, fr, out, rows, rfl, R2, ⟨da, hla2⟩, hz, fun H3 sl nsl esl s3 => ⟨_, rfl, a, CE, dx, _, rfl, s3 _ _ a2, TC.cl, TV.nL, (by show 5 < 1000; decide), ?_⟩⟩
    refine ⟨_, rfl, a, CE, dx, _, rfl, upd_same, TC.cl, TV.nP, (by show 6 < 1000; decide), ?_⟩
    generalize hH4 : upd (upd H3 a _) a _ = H4
    have kp4 : Kept a H3 H4 := fun b o q n => by rw [← hH4, upd_ne n, upd_ne n]; exact q
    have a4 : H4 a = some (.ins CE dx (mfs (.ref e) l .non (lvrest st sl 0))) := by rw [← hH4]; exact upd_same
    have R4 := (R2.same s3).kept (s3 _ _ a2) st_a.symm kp4
    have l4 := kp4 _ _ (s3 _ _ (kp2 _ _ D1.lf l_a)) l_a
    have sl_a : sl ≠ a := ne_of esl (s3 _ _ a2) (by intro z; cases z)
    have sl4 := kp4 _ _ esl sl_a
    have k04 : Kept a H H4 := ((kp1.trans kp2).trans (Kept.of s3)).trans kp4
    have nsl0 : H sl = none := (kp1.trans kp2).free nsl ⟨_, a2⟩
    have sl_l : sl ≠ l := fun z => by
      have h := kp2 _ _ D1.lf l_a
      rw [z, h] at nsl; cases nsl
    obtain ⟨ds4, hst4⟩ := id R4.ob
    refine ⟨_, rfl, st, ds4, _, rfl, hst4, rfl, st, la, _, fa, wa, oa, fr, out, rows, rfl, R4, _, rfl, ?_⟩
    rcases hc with ⟨ne, k⟩ | ⟨rfl, k⟩
    · have eb : (!out.isEmpty) = true := by cases out with
        | nil => exact absurd rfl ne
        | cons _ _ => rfl
      rw [eb]
      refine iteT ⟨_, rfl, a, dx, _, rfl, a4, rfl, _, rfl, a, CE, dx, _, _, rfl, a4, TC.cl, TV.nE, rfl, (by show 2 ≤ sizeLine; decide), fun q hq => ⟨(by show 1 ≤ sizeLine; decide), fun rq hrq => ?_⟩⟩
      have s5 := up1 (o := HO.tup [V.str "read", V.int 0]) hq
      have e5 : upd H4 q (HO.tup [V.str "read", V.int 0]) q = _ := upd_same
      generalize upd H4 q (HO.tup [V.str "read", V.int 0]) = H5 at s5 e5 hrq ⊢
      have s6 := up1 (o := HO.lst [V.ref q]) hrq
      have e6 : upd H5 rq (HO.lst [V.ref q]) rq = _ := upd_same
      generalize upd H5 rq (HO.lst [V.ref q]) = H6 at s6 e6 ⊢
      refine ⟨_, rfl, a, CE, dx, _, gSt, rfl, s6 _ _ (s5 _ _ a4), TC.cl, bs, rfl, fun qm hqm => ?_⟩
      have s7 := up1 (o := HO.met gSt a) hqm
      have e7 : upd H6 qm (HO.met gSt a) qm = _ := upd_same
      generalize upd H6 qm (HO.met gSt a) = H7 at s7 e7 ⊢
      have s47 := s5.trans (s6.trans s7)
      have a7 := s47 _ _ a4
      refine ⟨a, dx, l, rq, _, _, .ref qm, [], lvrest st sl 0, .ref q, [], rfl, ⟨a7, s47 _ _ l4⟩, (by show 4 < 900; decide), s7 _ _ e6, fun H8 l' hl' D8 kp8 => ?_⟩
      have q7 := s7 _ _ (s6 _ _ e5)
      have k07 : Kept a H H7 := k04.trans (Kept.of s47)
      exact k H8 q l' qm sl (k04.free hq ⟨_, a4⟩) (k07.free hl' ⟨_, a7⟩) ((k04.trans (Kept.of (s5.trans s6))).free hqm ⟨_, (s5.trans s6) _ _ a4⟩) nsl0 (ne_of_none (s47 _ _ sl4) hl') (kp8 _ _ q7 (ne_of q7 a7 (by intro z; cases z))) (kp8 _ _ e7 (ne_of e7 a7 (by intro z; cases z))) D8 (kp8 _ _ (s47 _ _ sl4) sl_a) (k07.trans kp8)
    · refine iteF ⟨_, rfl, a, dx, _, rfl, a4, rfl, k H4 _ _ _ l sl (hl) nsl0 sl_l ⟨a4, l4⟩ sl4 k04⟩
end
end Dk

set_option maxHeartbeats 4000000
/-! leaving: its accesses -/
namespace Dk
open PySem PySem.Spec PyProof.Rows L2
abbrev Ow (st fa wa oa : Addr) (rows : List Rw) : Addr → Prop := fun b => b = st ∨ b = fa ∨ b = wa ∨ b = oa ∨ ∃ r, r ∈ rows ∧ (b = r.p ∨ b = r.q)
theorem StAt.on {S : Addr} {H H' : Hp} {st la : Addr} {t : Int} {fa wa oa : Addr} {fr out : List Int} {rows : List Rw} (R : StAt S H st la t fa wa oa fr out rows) (k : ∀ b o, Ow st fa wa oa rows b → H b = some o → H' b = some o) : StAt S H' st la t fa wa oa fr out rows :=
  ⟨let ⟨x, h⟩ := R.ob; ⟨x, k _ _ (.inl rfl) h⟩, k _ _ (.inr (.inl rfl)) R.f, k _ _ (.inr (.inr (.inl rfl))) R.w, k _ _ (.inr (.inr (.inr (.inl rfl)))) R.o, fun r hr => ⟨k _ _ (.inr (.inr (.inr (.inr ⟨r, hr, .inl rfl⟩)))) (R.r r hr).1, k _ _ (.inr (.inr (.inr (.inr ⟨r, hr, .inr rfl⟩)))) (R.r r hr).2⟩, R.d⟩
/-- what the epoch becomes known to be, and the accesses it takes -/
def lvR (ps : List V) (ep : Int) : List Nat → Int × Nat
  | [] => (ep + 1, 1)
  | i :: os => if (ps[i]?).getD .non = .non ∨ (ps[i]?).getD .non = .int ep then ((lvR ps ep os).1, (lvR ps ep os).2 + 1) else (ep, 1)
structure LvS (C M S CE : Addr) (H : Hp) (m : Addr) (t w r B : Nat) (A : Adr) (X : MS) (Z : Addr → Prop) (a dx q l : Addr) (th : V) (left : List V) (st sl : Addr) (ep : Int) (la : Addr) (thr : Int) (fa wa oa : Addr) (fr out : List Int) (rows : List Rw) (os : List Nat) : Prop where
  s : MSt C M CE H m t w r B A X Z a dx q l th left (lvrest st sl ep)
  R : StAt S H st la thr fa wa oa fr out rows
  oz : ∀ b, Ow st fa wa oa rows b → Z b ∧ ¬ Foot m A (t + w + r) b ∧ b ≠ a ∧ b ≠ l ∧ b ≠ sl
  hs : H sl = some (.lst (os.map fun (i : Nat) => V.int (i : Int)))
  zs : Z sl
  fs : ¬ Foot m A (t + w + r) sl
  nl : sl ≠ l
/-- what is to be shown behind leaving -/
def FinP (C M S m : Addr) (t w r Bm : Nat) (st la : Addr) (thr : Int) (oa : Addr) (out fr : List Int) (rows : List Rw) (ps : List V) (cnt : Int) (known : Int) (k : Nat) (Qg : QG) (Z : Addr → Prop) (H : Hp) : Prop :=
  ∀ (H2 : Hp) (A' : Adr) (X' : MS) (B' : Nat) (Z' : Addr → Prop) (fa' wa' : Addr) (fr' : List Int), A'.a = la → MemAt C M H2 m t w r A' X' → SOk X' t (t + w + r) B' → B' ≤ Bm → X'.ps = ps.set 0 (.int known) → X'.count = cnt + (k : Int) → (∀ b, Foot m A' (t + w + r) b → Z' b) → Zst Z H Z' H2 →
    StAt S H2 st la thr fa' wa' oa fr' out (rows.filter fun r => decide (known - 3 < r.e)) → fr'.Perm (fr ++ upTo (known - 3) rows) → Asc fr' → (∀ b, Ow st fa' wa' oa (rows.filter fun r => decide (known - 3 < r.e)) b → Z' b ∧ ¬ Foot m A' (t + w + r) b) → Qg .non H2 A' X' B' Z'
theorem FinP.next {C M S m : Addr} {t w r Bm : Nat} {st la : Addr} {thr : Int} {oa : Addr} {out fr : List Int} {rows : List Rw} {ps : List V} {cnt : Int} {known : Int} {k : Nat} {Qg : QG} {Z Z1 : Addr → Prop} {H H1 : Hp} (f : FinP C M S m t w r Bm st la thr oa out fr rows ps cnt known (k + 1) Qg Z H) (z : Zst Z H Z1 H1) : FinP C M S m t w r Bm st la thr oa out fr rows ps (cnt + 1) known k Qg Z1 H1 :=
  fun H2 A' X' B' Z' fa' wa' fr' h1 h2 h3 h4 h5 h6 h7 h8 => f H2 A' X' B' Z' fa' wa' fr' h1 h2 h3 h4 h5 (by rw [h6]; omega) h7 (z.trans h8)
theorem lvrs {st sl : Addr} {ep : Int} : RsOk (lvrest st sl ep) := ⟨rfl, rfl, rfl, by show 4 < 900; decide⟩
section
variable {P : Program} {W : World} {K : PySem.W.Frag} {mg : Str → Option Value} {base : Heap} {C M S CE fac gSl gSw : Addr} {m : Addr} {t w r Bm th0 : Nat} {a dx : Addr} {st sl la : Addr} {ep : Int} {thr : Int} {oa : Addr} {fr out : List Int} {rows : List Rw} {Qg : QG}
/-- freeing what waits, and the end -/
theorem free_step {H H1 H1' : Hp} {B : Nat} {A A1 : Adr} {X X1 : MS} {Z : Addr → Prop} {q l : Addr} {th : V} {left : List V} {fa wa : Addr} {os : List Nat} {known cnt : Int} {ps : List V} {n : Nat} {ep0 : Int} (L : LvS C M S CE H m t w r B A X Z a dx q l th left st sl ep0 la thr fa wa oa fr out rows os) (ea : A1.a = A.a) (hla : A.a = la) (D1 : MemAt C M H1 m t w r A1 X1) (so1 : SOk X1 t (t + w + r) (B + 2)) (st1 : Step m (t + w + r) A H A1 H1)
    (kp1 : Same H1 H1') (hBm : B + 2 ≤ Bm) (hr : rows.length < 1000) (hf : fr.length + (upTo (known - 3) rows).length < 1000) (hps : X1.ps = ps.set 0 (.int known)) (hc : X1.count = cnt + 1) (fin : FinP C M S m t w r Bm st la thr oa out fr rows ps cnt known 1 Qg Z H)
    (Q' : Hp → Prop) (hQ' : ∀ H2 Z', Zst Z H Z' H2 → (Go P W K mg base 6 C M a CE dx m t w r th0 Qg n H2 A1 X1 (B + 2) Z' ∨ ∃ (q2 l2 : Addr) (th2 : V) (left2 : List V) (rest2 : List (Str × V)) (y : V), RsOk rest2 ∧ MSt C M CE H2 m t w r (B + 2) A1 X1 Z' a dx q2 l2 th2 left2 rest2 ∧ H2 q2 = some (.tup [.str "end", y]) ∧ Qg y H2 A1 X1 (B + 2) Z') → Q' H2) :
    spLvFree S CE [.ref a, .int known] H1' (fun _ H' => Q' H') E0 := by
  obtain ⟨M1, f1, f2⟩ := L.s.acc st1
  have own : ∀ b o, Ow st fa wa oa rows b → H b = some o → H1' b = some o := fun b o hb e => kp1 _ _ (st1.chg b o e (L.oz b hb).2.1)
  have R1 := L.R.on own
  have oal : ∀ b, Ow st fa wa oa rows b → ∃ o, H b = some o := fun b hb => by
    rcases hb with e | e | e | e | ⟨r, hr, e | e⟩
    · obtain ⟨x, h⟩ := L.R.ob; exact ⟨_, e ▸ h⟩
    · exact ⟨_, e ▸ L.R.f⟩
    · exact ⟨_, e ▸ L.R.w⟩
    · exact ⟨_, e ▸ L.R.o⟩
    · exact ⟨_, e ▸ (L.R.r r hr).1⟩
    · exact ⟨_, e ▸ (L.R.r r hr).2⟩
  have o1 : ∀ b, Ow st fa wa oa rows b → ¬ Foot m A1 (t + w + r) b := fun b hb => let ⟨o, e⟩ := oal b hb; (st1.out e (L.oz b hb).2.1).2
  refine ⟨a, dx, l, st, sl, la, _, th, left, ep0, known, thr, fa, wa, oa, fr, out, rows, rfl, M1.same kp1, (L.oz st (.inl rfl)).2.2.1, R1, hr, hf, fun H2 q' fa' wa' fr' pm asc nq nfa nwa e2 D2 R2 kp2 => ?_⟩
  obtain ⟨s2, z2⟩ := L.s.next (H2 := H2) st1 ea D1 so1 (fun b => b = a ∨ b = st) (fun b => b = fa' ∨ b = wa') (fun b o e y => kp2 b o (kp1 _ _ e) (fun z => y (.inl z)) fun z => y (.inr z)) (fun b y => y.elim (fun e => e ▸ L.s.za) fun e => e ▸ (L.oz st (.inl rfl)).1) (fun b y => y.elim (fun e => e ▸ f1) fun e => e ▸ o1 st (.inl rfl))
    (fun b y => y.elim (fun e => e ▸ kp1.free nfa) fun e => e ▸ kp1.free nwa) D2 (.inl rfl)
  have nf : ∀ b, H1 b = none → ¬ Foot m A1 (t + w + r) b := fun b hb hf => by
    obtain ⟨u, hu⟩ := foot_some D1 hf
    rw [hb] at hu; cases hu
  refine hQ' H2 _ z2 (.inr ⟨q', l, th, left, _, .non, lvrs, s2, e2, fin H2 A1 X1 _ _ fa' wa' fr' (ea.trans hla) s2.DM s2.so hBm hps hc s2.zf z2 R2 pm asc fun b hb => ?_⟩)
  rcases hb with e | e | e | e | ⟨r', hr', e⟩
  · rw [e]; exact ⟨.inr (.inl (L.oz st (.inl rfl)).1), o1 _ (.inl rfl)⟩
  · rw [e]; exact ⟨.inr (.inr (.inl rfl)), nf _ (kp1.free nfa)⟩
  · rw [e]; exact ⟨.inr (.inr (.inr rfl)), nf _ (kp1.free nwa)⟩
  · rw [e]; exact ⟨.inr (.inl (L.oz oa (.inr (.inr (.inr (.inl rfl))))).1), o1 _ (.inr (.inr (.inr (.inl rfl))))⟩
  · have hm := (List.mem_filter.mp hr').1
    have ho : Ow st fa wa oa rows b := .inr (.inr (.inr (.inr ⟨r', hm, e⟩)))
    exact ⟨.inr (.inl (L.oz b ho).1), o1 b ho⟩
/-- what stays through leaving -/
structure Lc (P : Program) (W : World) (K : PySem.W.Frag) (mg : Str → Option Value) (base : Heap) (S CE fac gSl gSw : Addr) : Prop where
  mc : MCl P W K mg base CE fac
  i1 : PySem.W.fnIn K gSl = true
  i2 : PySem.W.fnIn K gSw = true
  F1 : FnR P W K mg base CX0 4 gSl (spLvSlot CE S gSl gSw)
  F2 : FnR P W K mg base CX0 4 gSw (spLvSwap CE S)
/-- the values of the slots -/
def SlOk (t : Nat) (ps : List V) (os : List Nat) : Prop := ∀ i, i ∈ os → i < 1 + t ∧ (ps[i]? = some .non ∨ ∃ h : Int, ps[i]? = some (.int h))
theorem dvl_int {K : PySem.W.Frag} {H : Hp} {i : Int} {u : Tr} (d : Dvl K H (.int i) u) : u = .sc (.int i) := by
  have d := d.d
  cases d; rfl
theorem ow_some {S : Addr} {H : Hp} {st la : Addr} {t : Int} {fa wa oa : Addr} {fr out : List Int} {rows : List Rw} (R : StAt S H st la t fa wa oa fr out rows) : ∀ b, Ow st fa wa oa rows b → ∃ o, H b = some o := fun b hb => by
  rcases hb with e | e | e | e | ⟨r, hr, e | e⟩
  · obtain ⟨x, h⟩ := R.ob; exact ⟨_, e ▸ h⟩
  · exact ⟨_, e ▸ R.f⟩
  · exact ⟨_, e ▸ R.w⟩
  · exact ⟨_, e ▸ R.o⟩
  · exact ⟨_, e ▸ (R.r r hr).1⟩
  · exact ⟨_, e ▸ (R.r r hr).2⟩
def upOk (fr : List Int) (rows : List Rw) : Prop := rows.length < 1000 ∧ ∀ k, fr.length + (upTo k rows).length < 1000
theorem swap_go {H : Hp} {B : Nat} {A : Adr} {X : MS} {Z : Addr → Prop} {q l qm : Addr} {fa wa : Addr} {tl : List V} (lc : Lc P W K mg base S CE fac gSl gSw) (L : LvS C M S CE H m t w r B A X Z a dx q l (.ref qm) [] st sl ep la thr fa wa oa fr out rows []) (hla : A.a = la) (hBm : B + 2 ≤ Bm) (uk : upOk fr rows)
    (hq : H q = some (.tup [.str "swap", .int 0, .int ep, .int (ep + 1)])) (hm : H qm = some (.met gSw a)) (hps : X.ps = .int ep :: tl) (fin : FinP C M S m t w r Bm st la thr oa out fr rows X.ps X.count (ep + 1) 1 Qg Z H) : Go P W K mg base 6 C M a CE dx m t w r th0 Qg 1 H A X B Z := by
  have h0 : cellV X t 0 = some (.int ep) := by
    unfold cellV
    rw [if_pos (by omega), hps]
    rfl
  refine go_then (rq := .swap 0 (.int ep) (.int (ep + 1))) L.s lc.mc lvrs hq (by show 0 < 1 + t + (t + w + r); omega) ⟨⟨_, Dvl.int ep⟩, _, Dvl.int (ep + 1)⟩ ⟨.int ep, _, h0, Dvl.int ep⟩ hm lc.i2 lc.F2 fun v x p A1 X1 H1 ea1 R1 hp so1 D1 st1 M1 Q' hQ' => ?_
  obtain ⟨p0, tp, to, g0, d1, d2, g⟩ := R1
  have g0 : cellV X t 0 = some p0 := g0
  rw [h0] at g0
  have g0 := Option.some.inj g0
  subst g0
  have e1 := dvl_int d1
  have e2 := dvl_int d2
  rcases g with ⟨_, rfl, rfl⟩ | ⟨ne, _, _⟩
  · refine ⟨a, dx, l, st, sl, p, _, _, [], ep, _, true, rfl, M1, hp, ?_⟩
    refine free_step L ea1 hla D1 so1 st1 (Same.refl H1) hBm uk.1 (uk.2 _) (ps := X.ps) (cnt := X.count) ?_ ?_ fin Q' hQ'
    · unfold MS.give
      rw [if_pos (by omega)]
      rfl
    · unfold MS.give
      rw [if_pos (by omega)]
      rfl
  · exact absurd (e1.trans e2.symm) ne
/-- a slot is read -/
def SGo (P : Program) (W : World) (K : PySem.W.Frag) (mg : Str → Option Value) (base : Heap) (C M S CE gSl : Addr) (m : Addr) (t w r Bm th0 : Nat) (a dx st sl la : Addr) (ep thr : Int) (oa : Addr) (fr out : List Int) (rows : List Rw) (Qg : QG) (os : List Nat) : Prop :=
  ∀ (H : Hp) (B : Nat) (A : Adr) (X : MS) (Z : Addr → Prop) (q l qm fa wa : Addr) (i : Nat) (tl : List V), LvS C M S CE H m t w r B A X Z a dx q l (.ref qm) [] st sl ep la thr fa wa oa fr out rows os → A.a = la → B + 2 * (os.length + 2) ≤ Bm → H q = some (.tup [.str "read", .int (i : Int)]) → H qm = some (.met gSl a) → X.ps = .int ep :: tl → SlOk t X.ps (i :: os) →
    FinP C M S m t w r Bm st la thr oa out fr rows X.ps X.count (lvR X.ps ep (i :: os)).1 (lvR X.ps ep (i :: os)).2 Qg Z H → Go P W K mg base 6 C M a CE dx m t w r th0 Qg (os.length + 2) H A X B Z
theorem look_step {os : List Nat} {H H1 H1' : Hp} {B : Nat} {A A1 : Adr} {X X1 : MS} {Z : Addr → Prop} {q l : Addr} {th : V} {left : List V} {fa wa : Addr} {wv : V} {ep0 : Int} {tl : List V} {cnt : Int} (lc : Lc P W K mg base S CE fac gSl gSw) (uk : upOk fr rows) (IH : ∀ os', os'.length < os.length → SGo P W K mg base C M S CE gSl m t w r Bm th0 a dx st sl la ep thr oa fr out rows Qg os')
    (L : LvS C M S CE H m t w r B A X Z a dx q l th left st sl ep0 la thr fa wa oa fr out rows os) (ea : A1.a = A.a) (hla : A.a = la) (D1 : MemAt C M H1 m t w r A1 X1) (so1 : SOk X1 t (t + w + r) (B + 2)) (st1 : Step m (t + w + r) A H A1 H1) (kp1 : ∀ b o, H1 b = some o → b ≠ a → H1' b = some o) (M1' : MaAt CE H1' a dx wv l th left (lvrest st sl ep))
    (hBm : B + 2 * (os.length + 2) ≤ Bm) (hps : X1.ps = .int ep :: tl) (hc : X1.count = cnt + 1) (so : SlOk t X1.ps os) (fin : FinP C M S m t w r Bm st la thr oa out fr rows X1.ps cnt (lvR X1.ps ep os).1 ((lvR X1.ps ep os).2 + 1) Qg Z H)
    (Q' : Hp → Prop) (hQ' : ∀ H2 Z', Zst Z H Z' H2 → (Go P W K mg base 6 C M a CE dx m t w r th0 Qg (os.length + 1) H2 A1 X1 (B + 2) Z' ∨ ∃ (q2 l2 : Addr) (th2 : V) (left2 : List V) (rest2 : List (Str × V)) (y : V), RsOk rest2 ∧ MSt C M CE H2 m t w r (B + 2) A1 X1 Z' a dx q2 l2 th2 left2 rest2 ∧ H2 q2 = some (.tup [.str "end", y]) ∧ Qg y H2 A1 X1 (B + 2) Z') → Q' H2) :
    spLvLook CE gSl gSw [.ref a] H1' (fun _ H' => Q' H') E0 := by
  obtain ⟨M1, f1, f2⟩ := L.s.acc st1
  have sl1 := (st1.out L.hs L.fs).1
  have sl_a : sl ≠ a := ne_of L.hs L.s.D.ob (by intro z; cases z)
  have sl1' := kp1 _ _ sl1 sl_a
  have slf := (st1.out L.hs L.fs).2
  have oal := ow_some L.R
  have own : ∀ b o, Ow st fa wa oa rows b → H b = some o → H1 b = some o ∧ ¬ Foot m A1 (t + w + r) b := fun b o hb e => st1.out e (L.oz b hb).2.1
  have al : ∀ {p : Addr}, H1' p = none → H1 p = none := fun {p} hp => by
    cases e : H1 p with
    | none => rfl
    | some o =>
      have h := M1'.ob
      have := kp1 p o e (fun z => by rw [z, h] at hp; cases hp)
      rw [hp] at this; cases this
  have bnew : ∀ {l' : Addr}, H1 l' = none → ∀ b, Ow st fa wa oa rows b → b ≠ l' := fun {l'} h b hb z => by
    obtain ⟨o, e⟩ := oal b hb
    have := (own b o hb e).1
    rw [z, h] at this; cases this
  refine ⟨a, dx, l, st, sl, wv, th, left, ep, os.map fun (i : Nat) => (i : Int), rfl, M1', by rw [List.map_map]; exact sl1', L.nl, ?_⟩
  cases os with
  | nil =>
    refine .inr ⟨rfl, fun H2 q' l' qm' nq nl' nm eq em D2 kp => ?_⟩
    obtain ⟨s2, z2⟩ := L.s.next (H2 := H2) st1 ea D1 so1 (fun b => b = a) (fun b => b = l') (fun b o e y => kp b o (kp1 b o e y) y) (fun b y => y ▸ L.s.za) (fun b y => y ▸ f1) (fun b y => y ▸ al nl') D2 (.inr rfl)
    refine hQ' H2 _ z2 (.inl (swap_go (tl := tl) lc ⟨s2, L.R.on fun b o hb e => kp b o (kp1 b o (own b o hb e).1 (L.oz b hb).2.2.1) (L.oz b hb).2.2.1, fun b hb => ?_, kp _ _ sl1' sl_a, .inr (.inl L.zs), slf, ?_⟩ (ea.trans hla) (by simp at hBm; omega) uk eq em hps ?_))
    · obtain ⟨o, e⟩ := oal b hb
      obtain ⟨h1, h2, h3, h4, h5⟩ := L.oz b hb
      exact ⟨.inr (.inl h1), (own b o hb e).2, h3, bnew (al nl') b hb, h5⟩
    · intro z
      rw [z, nl'] at sl1'; cases sl1'
    · have f3 := fin.next z2
      rw [← hc] at f3
      exact f3
  | cons i os' =>
    refine .inl ⟨(i : Int), os'.map fun (i : Nat) => (i : Int), rfl, fun H2 q' l' qm' nq nl' nm eq em D2 es kp => ?_⟩
    obtain ⟨s2, z2⟩ := L.s.next (H2 := H2) st1 ea D1 so1 (fun b => b = a ∨ b = sl) (fun b => b = l') (fun b o e y => kp b o (kp1 b o e fun z => y (.inl z)) (fun z => y (.inl z)) fun z => y (.inr z)) (fun b y => y.elim (fun e => e ▸ L.s.za) fun e => e ▸ L.zs) (fun b y => y.elim (fun e => e ▸ f1) fun e => e ▸ slf) (fun b y => y ▸ al nl') D2 (.inr rfl)
    rw [List.map_map] at es
    refine hQ' H2 _ z2 (.inl (IH os' (by simp) H2 (B + 2) A1 X1 _ q' l' qm' fa wa i tl ⟨s2, L.R.on fun b o hb e => kp b o (kp1 b o (own b o hb e).1 (L.oz b hb).2.2.1) (L.oz b hb).2.2.1 (L.oz b hb).2.2.2.2, fun b hb => ?_, es, .inr (.inl L.zs), slf, ?_⟩ (ea.trans hla) (by simp at hBm; omega) eq em hps so ?_))
    · obtain ⟨o, e⟩ := oal b hb
      obtain ⟨h1, h2, h3, h4, h5⟩ := L.oz b hb
      exact ⟨.inr (.inl h1), (own b o hb e).2, h3, bnew (al nl') b hb, h5⟩
    · intro z
      rw [z, nl'] at sl1'; cases sl1'
    · have f3 := fin.next z2
      rw [← hc] at f3
      exact f3
end
end Dk

set_option maxHeartbeats 4000000
/-! leaving: from its first access to its end -/
namespace Dk
open PySem PySem.Spec PyProof.Rows L2
section
variable {P : Program} {W : World} {K : PySem.W.Frag} {mg : Str → Option Value} {base : Heap} {C M S CE fac gSl gSw gEp gHe gSt : Addr} {m : Addr} {t w r Bm th0 : Nat} {a dx : Addr} {st sl la : Addr} {ep : Int} {thr : Int} {oa : Addr} {fr out : List Int} {rows : List Rw} {Qg : QG}
theorem slot_go (lc : Lc P W K mg base S CE fac gSl gSw) (uk : upOk fr rows) : ∀ (n : Nat) (os : List Nat), os.length < n → SGo P W K mg base C M S CE gSl m t w r Bm th0 a dx st sl la ep thr oa fr out rows Qg os
  | 0, os, h => by omega
  | n + 1, os, hn => by
    intro H B A X Z q l qm fa wa i tl L hla hBm hq hm hps so fin
    obtain ⟨hi, hv⟩ := so i List.mem_cons_self
    have so' : SlOk t X.ps os := fun j hj => so j (List.mem_cons_of_mem _ hj)
    refine go_then (n := os.length + 1) (rq := .read i) L.s lc.mc lvrs hq (by show i < 1 + t + (t + w + r); omega) trivial trivial hm lc.i1 lc.F1 fun v x p A1 X1 H1 ea1 R1 hp so1 D1 st1 M1 Q' hQ' => ?_
    have IH := fun os' (h' : os'.length < os.length) => slot_go lc uk n os' (by omega)
    rcases hv with h0 | ⟨h, h0⟩
    · obtain ⟨rfl, ps1, c1⟩ := res_read (x := x) R1 hi h0
      have el : lvR X.ps ep (i :: os) = ((lvR X.ps ep os).1, (lvR X.ps ep os).2 + 1) := by
        show (if (X.ps[i]?).getD .non = .non ∨ (X.ps[i]?).getD .non = .int ep then ((lvR X.ps ep os).1, (lvR X.ps ep os).2 + 1) else (ep, 1)) = _
        rw [h0, if_pos (.inl rfl)]
      rw [el, ← ps1] at fin
      exact ⟨a, dx, l, st, sl, p, _, _, [], ep, _, .non, rfl, M1, hp, .inl ⟨rfl, look_step (cnt := X.count) lc uk IH L ea1 hla D1 so1 st1 (fun b o e _ => e) M1 hBm (ps1.trans hps) c1 (by rw [ps1]; exact so') fin Q' hQ'⟩⟩
    · obtain ⟨rfl, ps1, c1⟩ := res_read (x := x) R1 hi h0
      by_cases c : h = ep
      · have el : lvR X.ps ep (i :: os) = ((lvR X.ps ep os).1, (lvR X.ps ep os).2 + 1) := by
          show (if (X.ps[i]?).getD .non = .non ∨ (X.ps[i]?).getD .non = .int ep then ((lvR X.ps ep os).1, (lvR X.ps ep os).2 + 1) else (ep, 1)) = _
          rw [h0, if_pos (.inr (congrArg V.int c))]
        rw [el, ← ps1] at fin
        exact ⟨a, dx, l, st, sl, p, _, _, [], ep, _, .int h, rfl, M1, hp, .inr ⟨h, rfl, .inl ⟨c, fun H' s => look_step (cnt := X.count) lc uk IH L ea1 hla D1 so1 st1 (fun b o e _ => s b o e) (M1.same s) hBm (ps1.trans hps) c1 (by rw [ps1]; exact so') fin Q' hQ'⟩⟩⟩
      · have el : lvR X.ps ep (i :: os) = (ep, 1) := by
          show (if (X.ps[i]?).getD .non = .non ∨ (X.ps[i]?).getD .non = .int ep then ((lvR X.ps ep os).1, (lvR X.ps ep os).2 + 1) else (ep, 1)) = _
          rw [h0, if_neg]
          rintro (z | z)
          · cases z
          · exact c (V.int.inj z)
        rw [el] at fin
        have e0 : X1.ps = X.ps.set 0 (.int ep) := by rw [ps1, hps]; rfl
        exact ⟨a, dx, l, st, sl, p, _, _, [], ep, _, .int h, rfl, M1, hp, .inr ⟨h, rfl, .inr ⟨c, fun H' s => free_step L ea1 hla D1 so1 st1 s (by omega) uk.1 (uk.2 _) e0 c1 fin Q' hQ'⟩⟩⟩
/-- the epoch is read -/
theorem ep_go {os : List Nat} {H : Hp} {B : Nat} {A : Adr} {X : MS} {Z : Addr → Prop} {q l qm fa wa : Addr} {e : Int} {tl : List V} (lc : Lc P W K mg base S CE fac gSl gSw) (uk : upOk fr rows) (fi : PySem.W.fnIn K gEp = true) (FE : FnR P W K mg base CX0 4 gEp (spLvEp CE gSl gSw)) (L : LvS C M S CE H m t w r B A X Z a dx q l (.ref qm) [] st sl ep la thr fa wa oa fr out rows os) (hla : A.a = la) (hBm : B + 2 * (os.length + 2) ≤ Bm)
    (hq : H q = some (.tup [.str "read", .int 0])) (hm : H qm = some (.met gEp a)) (hps : X.ps = .int e :: tl) (so : SlOk t X.ps os) (fin : FinP C M S m t w r Bm st la thr oa out fr rows X.ps X.count (lvR X.ps e os).1 ((lvR X.ps e os).2 + 1) Qg Z H) : Go P W K mg base 6 C M a CE dx m t w r th0 Qg (os.length + 2) H A X B Z := by
  have h0 : X.ps[0]? = some (.int e) := by rw [hps]; rfl
  refine go_then (n := os.length + 1) (rq := .read 0) L.s lc.mc lvrs hq (by show 0 < 1 + t + (t + w + r); omega) trivial trivial hm fi FE fun v x p A1 X1 H1 ea1 R1 hp so1 D1 st1 M1 Q' hQ' => ?_
  obtain ⟨rfl, ps1, c1⟩ := res_read (x := x) R1 (by omega) h0
  rw [← ps1] at fin
  exact ⟨a, dx, l, st, sl, p, _, _, [], ep, e, _, rfl, M1, hp, fun H' M' kp => look_step (cnt := X.count) lc uk (fun os' h' => slot_go lc uk os.length os' h') L ea1 hla D1 so1 st1 kp M' hBm (ps1.trans hps) c1 (by rw [ps1]; exact so) fin Q' hQ'⟩
/-- the accesses and the epoch of leaving behind its own slot's write -/
def lvRes (ps : List V) (e : Int) (os : List Nat) (rows : List Rw) : Int × Nat := if rows = [] then (e, 1) else ((lvR ps e os).1, (lvR ps e os).2 + 2)
theorem leave_go {os : List Nat} {H : Hp} {B thN : Nat} {A : Adr} {X : MS} {Z : Addr → Prop} {q1 l qm fa wa : Addr} {e : Int} {tl : List V} {left : List V} (lc : Lc P W K mg base S CE fac gSl gSw) (uk : upOk fr rows) (fi : PySem.W.fnIn K gEp = true) (FE : FnR P W K mg base CX0 4 gEp (spLvEp CE gSl gSw)) (fi2 : PySem.W.fnIn K gHe = true) (FH : FnR P W K mg base CX0 4 gHe (spLvEnd CE))
    (L : LvS C M S CE H m t w r B A X Z a dx q1 l (.ref qm) left st sl ep la thr fa wa oa fr out rows os) (hla : A.a = la) (hBm : B + 2 * (os.length + 3) ≤ Bm) (hq : H q1 = some (.tup [.str "write", .int (1 + (thN : Int)), .non])) (hth : thN < t) (hps : X.ps = .int e :: tl) (so : SlOk t (X.ps.set (1 + thN) .non) os) (asc : Asc fr)
    (cs : (rows ≠ [] ∧ ∃ q2, left = [.ref q2] ∧ H q2 = some (.tup [.str "read", .int 0]) ∧ H qm = some (.met gEp a)) ∨ (rows = [] ∧ left = [] ∧ H qm = some (.met gHe a)))
    (fin : FinP C M S m t w r Bm st la thr oa out fr rows (X.ps.set (1 + thN) .non) X.count (lvRes (X.ps.set (1 + thN) .non) e os rows).1 (lvRes (X.ps.set (1 + thN) .non) e os rows).2 Qg Z H) : Go P W K mg base 6 C M a CE dx m t w r th0 Qg (os.length + 3) H A X B Z := by
  have hq' : H q1 = some (.tup (Rq.write (1 + thN) .non).vs) := by
    rw [hq, show (1 : Int) + (thN : Int) = ((1 + thN : Nat) : Int) by omega]
    rfl
  have ok : (Rq.write (1 + thN) .non).ok t w r := by show 1 + thN < 1 + t + (t + w + r); omega
  have hps' : X.ps.set (1 + thN) .non = .int e :: tl.set thN .non := by rw [hps, show 1 + thN = thN + 1 by omega]; rfl
  rcases cs with ⟨ne, q2, rfl, e2, em⟩ | ⟨rfl, rfl, em⟩
  · unfold lvRes at fin
    rw [if_neg ne] at fin
    refine go_pop (n := os.length + 2) (rq := .write (1 + thN) .non) (rq' := .read 0) L.s lc.mc lvrs hq' ok ⟨_, Dvl.non⟩ trivial fun v x A1 X1 H1 H2 Z1 R1 s2 z2 zz ea1 kp => ?_
    obtain ⟨rfl, ps1, c1⟩ := res_write R1 (by omega)
    have own : ∀ b o, Ow st fa wa oa rows b → H b = some o → H2 b = some o ∧ ¬ Foot m A1 (t + w + r) b := fun b o hb e' => kp b o e' (L.oz b hb).2.2.1 (L.oz b hb).2.2.2.1 (L.oz b hb).2.1
    have sl_a : sl ≠ a := ne_of L.hs L.s.D.ob (by intro z; cases z)
    have sk := kp _ _ L.hs sl_a L.nl L.fs
    refine ep_go (Bm := Bm) (os := os) (B := B + 2) (tl := tl.set thN .non) lc uk fi FE ⟨s2, L.R.on fun b o hb e' => (own b o hb e').1, fun b hb => ?_, sk.1, zz _ L.zs, sk.2, L.nl⟩ (ea1.trans hla) (by omega) (kp _ _ e2 (ne_of e2 L.s.D.ob (by intro z; cases z)) (ne_of e2 L.s.D.lf (by intro z; cases z)) (tup_out L.s.DM e2)).1 (kp _ _ em (ne_of em L.s.D.ob (by intro z; cases z)) (ne_of em L.s.D.lf (by intro z; cases z)) (met_out L.s.DM em)).1 (ps1.trans hps') (by rw [ps1]; exact so) ?_
    · obtain ⟨o, e'⟩ := ow_some L.R b hb
      obtain ⟨h1, h2, h3, h4, h5⟩ := L.oz b hb
      exact ⟨zz _ h1, (own b o hb e').2, h3, h4, h5⟩
    · have f3 := fin.next z2
      rw [ps1, c1]
      exact f3
  · unfold lvRes at fin
    rw [if_pos rfl] at fin
    refine go_then (n := os.length + 2) (rq := .write (1 + thN) .non) L.s lc.mc lvrs hq' ok ⟨_, Dvl.non⟩ trivial em fi2 FH fun v x p A1 X1 H1 ea1 R1 hp so1 D1 st1 M1 Q' hQ' => ?_
    obtain ⟨rfl, ps1, c1⟩ := res_write R1 (by omega)
    refine ⟨a, dx, l, st, sl, ep, _, _, _, [], rfl, M1, fun H2 q' nq e2 D2 kp => ?_⟩
    have own : ∀ b o, Ow st fa wa oa [] b → H b = some o → H2 b = some o ∧ ¬ Foot m A1 (t + w + r) b := fun b o hb e' => ⟨kp b o (st1.out e' (L.oz b hb).2.1).1 (L.oz b hb).2.2.1, (st1.out e' (L.oz b hb).2.1).2⟩
    obtain ⟨s2, z2⟩ := L.s.next (H2 := H2) st1 ea1 D1 so1 (fun b => b = a) (fun b => False) (fun b o e y => kp b o e y) (fun b y => y ▸ L.s.za) (fun b y => y ▸ (L.s.acc st1).2.1) (fun b y => y.elim) D2 (.inl rfl)
    refine hQ' H2 _ z2 (.inr ⟨q', l, _, [], _, .non, lvrs, s2, e2, fin H2 A1 X1 (B + 2) _ fa wa fr (ea1.trans hla) s2.DM s2.so (by omega) (by rw [ps1, hps']; rfl) c1 s2.zf z2 (L.R.on fun b o hb e' => (own b o hb e').1) (by show fr.Perm (fr ++ []); rw [List.append_nil]) asc fun b hb => ?_⟩)
    obtain ⟨o, e'⟩ := ow_some L.R b hb
    exact ⟨.inr (.inl (L.oz b hb).1), (own b o hb e').2⟩
/-- what was taken out gets its stamp -/
theorem stamp_go {os : List Nat} {H : Hp} {B thN : Nat} {A : Adr} {X : MS} {Z : Addr → Prop} {q l qm fa wa : Addr} {e : Int} {tl : List V} (lc : Lc P W K mg base S CE fac gSl gSw) (fi : PySem.W.fnIn K gEp = true) (FE : FnR P W K mg base CX0 4 gEp (spLvEp CE gSl gSw)) (fi2 : PySem.W.fnIn K gHe = true) (FH : FnR P W K mg base CX0 4 gHe (spLvEnd CE))
    (fi3 : PySem.W.fnIn K gSt = true) (FS : FnR P W K mg base CX0 4 gSt (spLvStamp C S CE gEp gHe))
    (L : LvS C M S CE H m t w r B A X Z a dx q l (.ref qm) [] st sl ep la (thN : Int) fa wa oa fr out rows os) (hla : A.a = la) (hBm : B + 2 * (os.length + 4) ≤ Bm) (hq : H q = some (.tup [.str "read", .int 0])) (hm : H qm = some (.met gSt a)) (hth : thN < t) (hps : X.ps = .int e :: tl) (so : SlOk t (X.ps.set (1 + thN) .non) os) (asc : Asc fr) (hz : rows.length < 1000)
    (uk : ∀ p' oa' : Addr, upOk fr (rows ++ [⟨p', oa, e, out⟩]))
    (fin : ∀ p' oa' : Addr, FinP C M S m t w r Bm st la (thN : Int) oa' [] fr (rows ++ [⟨p', oa, e, out⟩]) (X.ps.set (1 + thN) .non) X.count (lvRes (X.ps.set (1 + thN) .non) e os (rows ++ [⟨p', oa, e, out⟩])).1 ((lvRes (X.ps.set (1 + thN) .non) e os (rows ++ [⟨p', oa, e, out⟩])).2 + 1) Qg Z H) : Go P W K mg base 6 C M a CE dx m t w r th0 Qg (os.length + 4) H A X B Z := by
  have h0 : X.ps[0]? = some (.int e) := by rw [hps]; rfl
  refine go_then (n := os.length + 3) (rq := .read 0) L.s lc.mc lvrs hq (by show 0 < 1 + t + (t + w + r); omega) trivial trivial hm fi3 FS fun v x p A1 X1 H1 ea1 R1 hp so1 D1 st1 M1 Q' hQ' => ?_
  obtain ⟨rfl, ps1, c1⟩ := res_read (x := x) R1 (by omega) h0
  have own : ∀ b o, Ow st fa wa oa rows b → H b = some o → H1 b = some o ∧ ¬ Foot m A1 (t + w + r) b := fun b o hb e' => st1.out e' (L.oz b hb).2.1
  have oal := ow_some L.R
  have st_a := (L.oz st (.inl rfl)).2.2.1
  have wa_a := (L.oz wa (.inr (.inr (.inl rfl)))).2.2.1
  refine ⟨a, dx, l, st, sl, la, p, _, _, [], ep, e, _, (thN : Int), fa, wa, oa, fr, out, rows, rfl, M1, st_a, L.R.on fun b o hb e' => (own b o hb e').1, hz, hp, fun H2 p' oa' np no R2 kp => ?_⟩
  obtain ⟨da, hly⟩ := id D1.lay
  have zla' : ¬ Z A1.a := by rw [ea1]; exact L.s.zla
  have hl2 := kp _ _ hly (fun z => zla' (by rw [z]; exact (L.oz st (.inl rfl)).1)) (fun z => zla' (by rw [z]; exact (L.oz wa (.inr (.inr (.inl rfl)))).1))
  rw [ea1, hla] at hl2
  have M2 : MaAt CE H2 a dx (.ref q) l (.ref qm) [] (lvrest st sl ep) := ⟨kp _ _ M1.ob st_a.symm wa_a.symm, kp _ _ M1.lf (L.oz st (.inl rfl)).2.2.2.1.symm (L.oz wa (.inr (.inr (.inl rfl)))).2.2.2.1.symm⟩
  have al : ∀ {b : Addr}, H2 b = none → H1 b = none := fun {b} hb => by
    cases e' : H1 b with
    | none => rfl
    | some o =>
      by_cases c1 : b = st
      · obtain ⟨x, h⟩ := R2.ob
        rw [c1, h] at hb; cases hb
      · by_cases c2 : b = wa
        · rw [c2, R2.w] at hb; cases hb
        · have := kp b o e' c1 c2
          rw [hb] at this; cases this
  refine ⟨a, dx, l, st, sl, la, _, _, [], ep, _, _, _, thN, fa, wa, oa', fr, [], rows ++ [⟨p', oa, e, out⟩], rfl, M2, R2, ⟨da, hl2⟩, .inl ⟨by simp, fun H3 q1 q2 l' qm' n1 n2 nl' nm e1 e2 em D3 kp3 => ?_⟩⟩
  obtain ⟨s3, z3⟩ := L.s.next (H2 := H3) st1 ea1 D1 so1 (fun b => b = a ∨ b = st ∨ b = wa) (fun b => b = l' ∨ b = p' ∨ b = oa') (fun b o e' y => kp3 b o (kp b o e' (fun z => y (.inr (.inl z))) fun z => y (.inr (.inr z))) fun z => y (.inl z))
    (fun b y => by
      rcases y with y | y | y
      · exact y ▸ L.s.za
      · exact y ▸ (L.oz st (.inl rfl)).1
      · exact y ▸ (L.oz wa (.inr (.inr (.inl rfl)))).1)
    (fun b y => by
      rcases y with y | y | y
      · exact y ▸ (L.s.acc st1).2.1
      · obtain ⟨o, e'⟩ := oal st (.inl rfl)
        exact y ▸ (own st o (.inl rfl) e').2
      · obtain ⟨o, e'⟩ := oal wa (.inr (.inr (.inl rfl)))
        exact y ▸ (own wa o (.inr (.inr (.inl rfl))) e').2)
    (fun b y => by
      rcases y with y | y | y
      · exact y ▸ al nl'
      · exact y ▸ np
      · exact y ▸ no) D3 (.inr (.inl rfl))
  have nf : ∀ b, H1 b = none → ¬ Foot m A1 (t + w + r) b := fun b hb hf => by
    obtain ⟨u, hu⟩ := foot_some D1 hf
    rw [hb] at hu; cases hu
  have sl_a : sl ≠ a := ne_of L.hs L.s.D.ob (by intro z; cases z)
  have sl1 := st1.out L.hs L.fs
  have st_sl := (L.oz st (.inl rfl)).2.2.2.2
  have wa_sl := (L.oz wa (.inr (.inr (.inl rfl)))).2.2.2.2
  have sl2 := kp _ _ sl1.1 st_sl.symm wa_sl.symm
  have sl3 := kp3 _ _ sl2 sl_a
  have a1al := M1.ob
  have l1al := M1.lf
  have ne1 : ∀ {b c : Addr} {o : HO}, H1 b = none → H1 c = some o → b ≠ c := fun {b c o} hb hc z => by rw [z, hc] at hb; cases hb
  have old : ∀ b, Ow st fa wa oa rows b → Zn m A1 (t + w + r) Z (fun b => b = l' ∨ b = p' ∨ b = oa') b ∧ ¬ Foot m A1 (t + w + r) b ∧ b ≠ a ∧ b ≠ l' ∧ b ≠ sl := fun b hb => by
    obtain ⟨o, e'⟩ := oal b hb
    obtain ⟨h1, h2, h3, h4, h5⟩ := L.oz b hb
    exact ⟨.inr (.inl h1), (own b o hb e').2, h3, (ne1 (al nl') (own b o hb e').1).symm, h5⟩
  have R3 : StAt S H3 st la (thN : Int) fa wa oa' fr [] (rows ++ [⟨p', oa, e, out⟩]) := R2.kept M2.ob st_a.symm kp3
  have ps1' : X1.ps.set (1 + thN) .non = X.ps.set (1 + thN) .non := by rw [ps1]
  refine hQ' H3 _ z3 (.inl (leave_go (Bm := Bm) (os := os) (B := B + 2) (tl := tl) (e := e) lc (uk p' oa') fi FE fi2 FH ⟨s3, R3, fun b hb => ?_, sl3, .inr (.inl L.zs), sl1.2, ?_⟩ (ea1.trans hla) (by omega) e1 hth (ps1.trans hps) (by rw [ps1']; exact so) asc (.inl ⟨by simp, q2, rfl, e2, em⟩) ?_))
  · have newb : ∀ c : Addr, H1 c = none → H2 c ≠ none → (c = p' ∨ c = oa') → Zn m A1 (t + w + r) Z (fun b => b = l' ∨ b = p' ∨ b = oa') c ∧ ¬ Foot m A1 (t + w + r) c ∧ c ≠ a ∧ c ≠ l' ∧ c ≠ sl := fun c hc h2c hcc =>
      ⟨.inr (.inr (.inr hcc)), nf c hc, ne1 hc a1al, fun z => h2c (by rw [z]; exact nl'), ne1 hc sl1.1⟩
    have pal : H2 p' ≠ none := by
      have := (R2.r ⟨p', oa, e, out⟩ (by simp)).1
      intro z
      rw [show H2 p' = _ from this] at z; cases z
    have oal2 : H2 oa' ≠ none := by rw [R2.o]; simp
    rcases hb with h | h | h | h | ⟨r', hr', h⟩
    · exact old b (.inl h)
    · exact old b (.inr (.inl h))
    · exact old b (.inr (.inr (.inl h)))
    · rw [h]; exact newb oa' no oal2 (.inr rfl)
    · rcases List.mem_append.mp hr' with g | g
      · exact old b (.inr (.inr (.inr (.inr ⟨r', g, h⟩))))
      · have g := List.mem_singleton.mp g
        subst g
        rcases h with h | h
        · rw [h]; exact newb p' np pal (.inl rfl)
        · exact old b (.inr (.inr (.inr (.inl h))))
  · intro z
    rw [z, nl'] at sl2; cases sl2
  · have f3 := (fin p' oa').next z3
    rw [ps1', c1]
    exact f3
end
end Dk

set_option maxHeartbeats 4000000
/-! the law k08: its helpers -/
namespace Dk
open PySem PySem.Spec PyProof.Rows L2 StX
abbrev sLeft : Stmt := top 30
abbrev sSlots : Stmt := top 31
/-- the slots of the others from i on -/
def osF (thr t i : Nat) : List Nat := ((List.range' i (t - i)).filter fun j => decide (j ≠ thr)).map fun j => 1 + j
theorem osF_step {thr t i : Nat} (h : i < t) : osF thr t i = (if i ≠ thr then [1 + i] else []) ++ osF thr t (i + 1) := by
  unfold osF
  rw [show t - i = (t - (i + 1)) + 1 by omega, List.range'_succ, List.filter_cons]
  by_cases c : i = thr
  · rw [if_neg (by simpa using c), if_neg (by simpa using c)]; rfl
  · rw [if_pos (by simpa using c), if_pos c]; rfl
theorem osF_end {thr t : Nat} : osF thr t t = [] := by unfold osF; rw [Nat.sub_self]; rfl
theorem osF_others {thr t : Nat} : others thr t = (osF thr t 0).map fun (i : Nat) => (i : Int) := by
  unfold others osF
  rw [List.map_map, Nat.sub_zero, List.range_eq_range']
  refine List.map_congr_left fun i _ => ?_
  show 1 + (i : Int) = ((1 + i : Nat) : Int)
  omega
def VOk (vals : List V) : Prop := ∀ v, v ∈ vals → v = .non ∨ ∃ h : Int, v = .int h
def spLeft (K : PySem.W.Frag) : Sp := fun vs H Q _ => ∃ (sa : Addr) (e : Int) (thr : Nat) (wt sm : Bool) (vals : List V), vs = [.int e, .ref sa, .int (thr : Int), .bl wt, .bl sm] ∧ H sa = some (.lst vals) ∧ VOk vals ∧ vals.length < 1000 ∧
  ∀ H' p, H p = none → H' p = some (.tup [.int (if wt = true then (lvR (.int e :: vals) e (osF thr vals.length 0)).1 else e), .int ((1 + if sm = true then 1 else 0) + if wt = true then ((lvR (.int e :: vals) e (osF thr vals.length 0)).2 : Int) + 1 else 0)]) → Same H H' → Q (.ref p) H'
def spSlots (K : PySem.W.Frag) (C M : Addr) : Sp := fun vs H Q _ => ∃ (m tp : Addr) (ms : List Int) (k thr t w r B : Nat) (e : Int) (A : Adr) (X : MS) (old : List V), vs = [.ref m, .ref tp, .int (k : Int), .int (thr : Int), .int e, .int (t : Int)] ∧ H tp = some (.lst (ms.map V.int)) ∧ ¬ Foot m A (t + w + r) tp ∧ Small ms ∧ NOk t w r ∧ MemAt C M H m t w r A X ∧ SOk X t (t + w + r) B ∧ B < 1000 ∧ X.ps = .int e :: old ∧ old.length = t ∧ old[thr]? = some .non ∧ thr < t ∧
  ∀ (H' : Hp) (A' : Adr) (X' : MS) (p : Addr) (vals : List V), H p = none → A'.a = A.a → MemAt C M H' m t w r A' X' → SOk X' t (t + w + r) (B + 6) → X'.ps = .int e :: vals → vals.length = t → vals[thr]? = some .non → VOk vals → H' p = some (.lst vals) → ¬ Foot m A' (t + w + r) p → Step m (t + w + r) A H A' H' → Q (.ref p) H'
def SlI (C M m tp sa : Addr) (t wd r B pl thr : Nat) (e : Int) (A0 : Adr) (H : Hp) (ms : List Int) (old : List V) (i : Nat) (σ : L2.St) (H' : Hp) : Prop := ∃ (A1 : Adr) (X1 : MS) (vals : List V) (s7 s8 s9 : Option V), σ = [some (.ref m), some (.ref tp), some (.int (pl : Int)), some (.int (thr : Int)), some (.int e), some (.int (t : Int)), some (.ref sa), s7, s8, s9] ∧
      A1.a = A0.a ∧ MemAt C M H' m t wd r A1 X1 ∧ SOk X1 t (t + wd + r) (B + 2 * i) ∧ X1.ps = .int e :: (vals ++ old.drop i) ∧ vals.length = i ∧ VOk vals ∧ (thr < i → vals[thr]? = some .non) ∧ H' sa = some (.lst vals) ∧ ¬ Foot m A1 (t + wd + r) sa ∧ H' tp = some (.lst (ms.map V.int)) ∧ ¬ Foot m A1 (t + wd + r) tp ∧ Step m (t + wd + r) A0 H A1 H'
section
variable {P : Program} {w : World} {K : PySem.W.Frag} {mg : Str → Option Value} {base : Heap} {C M S : Addr}
abbrev NLe : List Str := ["epoch", "slots", "thread", "waits", "stamped", "accesses", "other"]
theorem scLeft : FnScope NLe ["epoch", "slots", "thread", "waits", "stamped"] (defScope sLeft) := ⟨rfl, rfl, rfl, by decide +kernel, rfl, by decide +kernel, by decide +kernel⟩
theorem go_left (F : GT K mg "_law_left" sLeft ["epoch", "slots", "thread", "waits", "stamped"]) (B0 : Bn mg) (T : STxt K mg S) : GO P w K mg base CX0 1 "_law_left" ["epoch", "slots", "thread", "waits", "stamped"] (spLeft K) := by
  obtain ⟨f, fd, F, hm, hb⟩ := F
  refine ⟨f, fd, ?_, hm, F.kp, hb⟩
  refine F.ok scLeft (fun vs H Q E h => ?_) (fun cdv A outer s H vs Q E hr h => ?_)
  · obtain ⟨sa, e, thr, wt, sm, vals, rfl, _⟩ := h
    rfl
  · obtain ⟨sa, e, thr, wt, sm, vals, rfl, hs, vo, hz, k⟩ := h
    have nd := scLeft.nd
    refine ⟨_, (pss_cons (ps_set (i := 5) nd rfl (Or.inl rfl) (pe_op op_add pe_int (pe_callTy call_int1 (by rfl) B0.int (by decide +kernel) (pa_cons (pv 4) pa_nil))))
  (pss_cons (ps_if (pt_not (pt_truth (pv 3) (by intro _; rfl)))
  (pss_one (ps_ret (pe_tup (pa_cons (pv 0) (pa_cons (pv 5) pa_nil)))))
  pss_nil)
  (pss_cons (ps_set (i := 5) nd rfl (Or.inl rfl) (pe_op op_add (pv 5) pe_int))
  (pss_cons (ps_for PassesOwn.never rfl (pi_range1 (by rfl) B0.range (pa_cons (pe_callB call_len_seq (by rfl) T.len PySem.boot_len (pa_cons (pv 1) pa_nil)) pa_nil)) (pg_name (i := 6) nd rfl (Or.inl rfl))
  (pss_one (ps_if (pt_cmpR op_ne (pv 6) (pv 2) (nomark _))
  (pss_cons (ps_set (i := 5) nd rfl (Or.inl rfl) (pe_op op_add (pv 5) pe_int))
  (pss_one (ps_if (PW.pt (pw_and (pt_cmpR op_notN (pe_ix ix_list (pv 1) (pv 6) (fun _ _ => rfl)) pe_non (nomark _)) (pw_and1 (pt_cmpR op_ne (pe_ix ix_list (pv 1) (pv 6) (fun _ _ => rfl)) (pv 0) (nomark _)))))
  (pss_one (ps_ret (pe_tup (pa_cons (pv 0) (pa_cons (pv 5) pa_nil)))))
  pss_nil)))
  pss_nil)))
  (pss_one (ps_ret (pe_tup (pa_cons (pe_op op_add (pv 0) pe_int) (pa_cons (pe_op op_add (pv 5) pe_int) pa_nil))))))))), ?_⟩
    have hsl : sizeLine = 16777216 := sizeLine_eq
    have k0 : ∀ (H' : Hp) (p : Addr) (kn ac : Int), H p = none → H' p = some (.tup [.int kn, .int ac]) → kn = (if wt = true then (lvR (.int e :: vals) e (osF thr vals.length 0)).1 else e) → ac = ((1 + if sm = true then 1 else 0) + if wt = true then ((lvR (.int e :: vals) e (osF thr vals.length 0)).2 : Int) + 1 else 0) → Same H H' → Q (.ref p) H' := fun H' p kn ac h1 h2 h3 h4 h5 => by
      subst h3 h4
      exact k H' p h1 h2 h5
    refine ⟨_, rfl, .inr ⟨sm, rfl, _, _, rfl, rfl, ?_⟩⟩
    obtain ⟨sI, hsI⟩ : ∃ sI : Int, (1 : Int) + (if sm = true then (1 : Int) else 0) = sI := ⟨_, rfl⟩
    rw [hsI] at k0
    refine ⟨_, rfl, wt, rfl, ?_⟩
    cases wt with
    | false => exact iteT ⟨_, rfl, _, rfl, (by show 2 ≤ sizeLine; decide), fun p hp => k0 _ p e sI hp (by rw [← hsI]; exact upd_same) rfl (by simp) (up1 hp)⟩
    | true =>
      refine iteF ⟨_, rfl, _, _, rfl, rfl, ?_⟩
      refine ⟨_, rfl, sa, _, rfl, .inl (SqL.of hs), _, rfl, by omega, by omega, for_range (lo := 0) (n := _) (fun i σ H' => H' = H ∧ ∃ (c : Nat) (s6 : Option V), σ = [some (.int e), some (.ref sa), some (.int (thr : Int)), some (.bl true), some (.bl sm), some (.int (sI + 1 + (c : Int))), s6] ∧
        (lvR (.int e :: vals) e (osF thr vals.length 0)).1 = (lvR (.int e :: vals) e (osF thr vals.length i)).1 ∧ (lvR (.int e :: vals) e (osF thr vals.length 0)).2 = (lvR (.int e :: vals) e (osF thr vals.length i)).2 + c) ⟨rfl, 0, _, by rw [show sI + 1 + ((0 : Nat) : Int) = sI + 1 by omega, ← hsI]; rfl, rfl, rfl⟩ ?_ ?_⟩
      · rintro i σ H' hi ⟨rfl, c, s6, rfl, g1, g2⟩
        have hi' : i < vals.length := by
          have : i < ((vals.length : Nat) : Int).toNat := hi
          omega
        have ez : (0 : Int) + (i : Int) = (i : Int) := by omega
        rw [ez]
        have es := osF_step (thr := thr) hi'
        refine ⟨_, rfl, _, rfl, rfl, _, rfl, ?_⟩
        by_cases ct : i = thr
        · rw [decide_eq_true (show V.int (i : Int) = V.int (thr : Int) from congrArg V.int (by omega))]
          refine iteF ⟨rfl, c, _, rfl, ?_⟩
          rw [if_neg (by simpa using ct), List.nil_append] at es
          rw [← es]
          exact ⟨g1, g2⟩
        · rw [decide_eq_false (show ¬ (V.int (i : Int) = V.int (thr : Int)) from fun z => ct (by have := V.int.inj z; omega))]
          rw [if_pos ct] at es
          have es : osF thr vals.length i = (1 + i) :: osF thr vals.length (i + 1) := es
          have gv : vals[i]? = some vals[i] := List.getElem?_eq_getElem hi'
          have gp : (V.int e :: vals)[1 + i]? = some vals[i] := by rw [show 1 + i = i + 1 by omega]; exact gv
          have el : lvR (.int e :: vals) e ((1 + i) :: osF thr vals.length (i + 1)) = if vals[i] = .non ∨ vals[i] = .int e then ((lvR (.int e :: vals) e (osF thr vals.length (i + 1))).1, (lvR (.int e :: vals) e (osF thr vals.length (i + 1))).2 + 1) else (e, 1) := by
            show (if ((V.int e :: vals)[1 + i]?).getD .non = .non ∨ ((V.int e :: vals)[1 + i]?).getD .non = .int e then _ else _) = _
            rw [gp]
            rfl
          rw [es, el] at g1 g2
          have pass : (vals[i] = .non ∨ vals[i] = .int e) → (lvR (.int e :: vals) e (osF thr vals.length 0)).1 = (lvR (.int e :: vals) e (osF thr vals.length (i + 1))).1 ∧ (lvR (.int e :: vals) e (osF thr vals.length 0)).2 = (lvR (.int e :: vals) e (osF thr vals.length (i + 1))).2 + (c + 1) := fun hp => by
            rw [if_pos hp] at g1 g2
            exact ⟨g1, by rw [g2]; show _ + 1 + c = _; omega⟩
          refine iteT ⟨_, rfl, _, _, rfl, rfl, ?_⟩
          have en : sI + 1 + (c : Int) + 1 = sI + 1 + ((c + 1 : Nat) : Int) := by omega
          refine ⟨_, rfl, _, rfl, sa, _, _, vals[i], rfl, rfl, SqL.of hs, atI_nat gv, rfl, _, rfl, ?_⟩
          rcases vo _ (List.getElem_mem hi') with hv | ⟨h, hv⟩
          · rw [hv, decide_eq_true (rfl : V.non = V.non)]
            exact iteF (iteF ⟨rfl, c + 1, _, by rw [← en]; rfl, pass (.inl hv)⟩)
          · rw [hv] at gv
            rw [hv, decide_eq_false (show ¬ (V.int h = V.non) by intro z; cases z)]
            refine iteT ⟨_, rfl, _, rfl, sa, _, _, .int h, rfl, rfl, SqL.of hs, atI_nat gv, _, rfl, rfl, _, rfl, ?_⟩
            by_cases c2 : h = e
            · rw [decide_eq_true (congrArg V.int c2)]
              exact iteF ⟨rfl, c + 1, _, by rw [← en]; rfl, pass (.inr (hv.trans (congrArg V.int c2)))⟩
            · rw [decide_eq_false (show ¬ (V.int h = V.int e) from fun z => c2 (V.int.inj z))]
              have np : ¬ (vals[i] = .non ∨ vals[i] = .int e) := by
                rw [hv]
                rintro (z | z)
                · cases z
                · exact c2 (V.int.inj z)
              rw [if_neg np] at g1 g2
              refine iteT ⟨_, rfl, _, rfl, (by show 2 ≤ sizeLine; decide), fun p hp => k0 _ p e _ hp upd_same ?_ ?_ (up1 hp)⟩
              · rw [if_pos rfl, g1]
              · rw [if_pos rfl, g2]
                show sI + 1 + (c : Int) + 1 = sI + (((1 + c : Nat) : Int) + 1)
                omega
      · rintro σ H' ⟨rfl, c, s6, rfl, g1, g2⟩
        rw [show ((vals.length : Nat) : Int).toNat = vals.length by omega, osF_end] at g1 g2
        refine ⟨_, rfl, _, _, rfl, rfl, _, rfl, _, _, rfl, rfl, (by show 2 ≤ sizeLine; decide), fun p hp => k0 _ p _ _ hp upd_same ?_ ?_ (up1 hp)⟩
        · rw [if_pos rfl, g1]; rfl
        · rw [if_pos rfl, g2]
          show sI + 1 + (c : Int) + 1 = sI + (((1 + c : Nat) : Int) + 1)
          omega
abbrev NSl : List Str := ["memory", "tape", "place", "thread", "epoch", "threads", "slots", "other", "number", "value"]
theorem scSlots : FnScope NSl ["memory", "tape", "place", "thread", "epoch", "threads"] (defScope sSlots) := ⟨rfl, rfl, rfl, by decide +kernel, rfl, by decide +kernel, by decide +kernel⟩
theorem go_slots (F : GT K mg "_law_slots" sSlots ["memory", "tape", "place", "thread", "epoch", "threads"]) (B0 : Bn mg) (T : STxt K mg S) (TM : MTxt K M) (GAt : GO P w K mg base CX0 1 "_law_at" ["tape", "k"] (spAt K)) (GAc : MO P w K mg base CX0 M 11 "access" ["self", "thread", "request"] (spAccess K C M)) : GO P w K mg base CX0 12 "_law_slots" ["memory", "tape", "place", "thread", "epoch", "threads"] (spSlots K C M) := by
  obtain ⟨f, fd, F, hm, hb⟩ := F
  refine ⟨f, fd, ?_, hm, F.kp, hb⟩
  refine F.ok scSlots (fun vs H Q E h => ?_) (fun cdv A outer s H vs Q E hr h => ?_)
  · obtain ⟨m, tp, ms, k, thr, t, w, r, B, e, A, X, old, rfl, _⟩ := h
    rfl
  · obtain ⟨m, tp, ms, pl, thr, t, wd, r, B, e, A0, X, old, rfl, htp, ftp, sm, nok, DM, so, hB, hps, hol, hthr, htt, kQ⟩ := h
    have nd := scSlots.nd
    have hr1 : Room 1 _ := hr.mono (by decide)
    have hrM : Room 11 _ := hr
    refine ⟨_, (pss_cons (ps_set (i := 6) nd rfl (Or.inl rfl) (pe_lst pa_nil))
  (pss_cons (ps_for PassesOwn.never rfl (pi_range1 (by rfl) B0.range (pa_cons (pv 5) pa_nil)) (pg_name (i := 7) nd rfl (Or.inl rfl))
  (pss_cons (ps_set (i := 8) nd rfl (Or.inl rfl) (pc_ GAt hr1 (pa_cons (pv 1) (pa_cons (pe_op op_add (pv 2) (pv 7)) pa_nil))))
  (pss_cons (ps_set (i := 9) nd rfl (Or.inl rfl) (pe_ix ix_list (pe_lst (pa_cons pe_non (pa_cons (pv 4) (pa_cons pe_non (pa_cons (pv 4) (pa_cons (pe_op op_add (pe_op op_mod (pv 8) pe_int) (pv 4)) (pa_cons (pe_callB (call_max2 rfl) (by rfl) T.max (by decide +kernel) (pa_cons pe_int (pa_cons (pe_op op_sub (pv 4) pe_int) pa_nil))) pa_nil))))))) (pe_op op_mod (pe_op op_fdiv (pv 8) pe_int) pe_int) (fun _ _ => rfl)))
  (pss_cons (ps_if (pt_cmpR op_eq (pv 7) (pv 3) (nomark _))
  (pss_one (ps_set (i := 9) nd rfl (Or.inl rfl) pe_non))
  (pss_one (ps_expr (pm_ GAc TM.cl hrM (pv 0) (pa_cons (pv 7) (pa_cons (pe_tup (pa_cons pe_str (pa_cons (pe_op op_add pe_int (pv 7)) (pa_cons (pv 9) pa_nil)))) pa_nil))))))
  (pss_one (ps_expr (pe_bm PySem.F.plainAttrs_list PySem.F.slot_list_append PySem.F.type_list_append mt_append (pv 6) (pa_cons (pv 9) pa_nil))))))))
  (pss_one (ps_ret (pv 6))))), ?_⟩
    have hsl : sizeLine = 16777216 := sizeLine_eq
    refine ⟨(by show 0 ≤ sizeLine; exact Nat.zero_le _), fun sa hsa => ?_⟩
    have s1 := up1 (o := HO.lst []) hsa
    have e1 : upd H sa (HO.lst []) sa = _ := upd_same
    generalize upd H sa (HO.lst []) = H1 at s1 e1 ⊢
    have t3 := nok.t3
    refine ⟨_, rfl, _, rfl, by omega, by omega, for_range (lo := 0) (n := _) (SlI C M m tp sa t wd r B pl thr e A0 H ms old)
      ⟨A0, X, [], _, _, _, rfl, rfl, DM.same s1, so, hps, rfl, (fun v hv => by cases hv), (fun h => by omega), e1, (fun hf => by obtain ⟨u, hu⟩ := foot_some DM hf; rw [hsa] at hu; cases hu), s1 _ _ htp, ftp, Step.same s1⟩ ?_ ?_⟩
    · rintro i σ H' hi ⟨A1, X1, vals, s7, s8, s9, rfl, ea, D1, so1, ps1, vl, vo, vth, hl, fsa, htp1, ftp1, st1⟩
      have hi' : i < t := by
        have : i < ((t : Nat) : Int).toNat := hi
        omega
      have ez : (0 : Int) + (i : Int) = (i : Int) := by omega
      rw [ez]
      refine ⟨_, rfl, _, rfl, _, rfl, _, _, rfl, rfl, tp, ms, pl + i, rfl, SqL.of htp1, ?_⟩
      have sm1 := atD_small (k := pl + i) sm
      generalize atD ms (pl + i) = nm at sm1 ⊢
      refine ⟨_, rfl, _, rfl, _, rfl, _, _, rfl, rfl, (by show (0 : Int) < 3; decide), _, rfl, _, _, rfl, rfl, _, rfl, _, _, rfl, rfl, _, _, rfl, (by show 6 ≤ sizeLine; decide), fun L hL => ?_⟩
      obtain ⟨j, hj, hj6⟩ : ∃ j : Nat, nm / 3 % 6 = (j : Int) ∧ j < 6 := ⟨(nm / 3 % 6).toNat, by omega, by omega⟩
      have hpick : ∀ (a b : Int), ∃ v, ([V.non, V.int e, V.non, V.int e, V.int a, V.int b] : List V)[j]? = some v ∧ (v = .non ∨ ∃ h : Int, v = .int h) := fun a b =>
        match j, hj6 with
        | 0, _ => ⟨_, rfl, .inl rfl⟩
        | 1, _ => ⟨_, rfl, .inr ⟨_, rfl⟩⟩
        | 2, _ => ⟨_, rfl, .inl rfl⟩
        | 3, _ => ⟨_, rfl, .inr ⟨_, rfl⟩⟩
        | 4, _ => ⟨_, rfl, .inr ⟨_, rfl⟩⟩
        | 5, _ => ⟨_, rfl, .inr ⟨_, rfl⟩⟩
        | n + 6, h => by omega
      obtain ⟨v, hv, hvo⟩ := hpick (nm % 3 + e) (if e - 1 > 0 then e - 1 else 0)
      have s2 : Same H' (upd H' L (HO.lst [V.non, V.int e, V.non, V.int e, V.int (nm % 3 + e), V.int (if e - 1 > 0 then e - 1 else 0)])) := up1 hL
      have hL2 := @upd_same H' L (HO.lst [V.non, V.int e, V.non, V.int e, V.int (nm % 3 + e), V.int (if e - 1 > 0 then e - 1 else 0)])
      refine ⟨_, rfl, _, _, rfl, rfl, (by show CDiv _ _; unfold CDiv; decide), _, _, rfl, rfl, (by show (0 : Int) < 6; decide), L, _, _, v, rfl, rfl, SqL.of hL2, (by rw [hj]; exact atI_nat hv), ?_⟩
      have sa_L : sa ≠ L := ne_of_none hl hL
      have D2 := D1.same s2
      have st2 := st1.trans (Step.same s2)
      have fin : ∀ (u : V) (A3 : Adr) (X3 : MS) (H3 : Hp), (u = .non ∨ ∃ h : Int, u = .int h) → (i = thr → u = .non) → A3.a = A0.a → MemAt C M H3 m t wd r A3 X3 → SOk X3 t (t + wd + r) (B + 2 * (i + 1)) → X3.ps = .int e :: (vals ++ u :: old.drop (i + 1)) → H3 sa = some (.lst vals) → ¬ Foot m A3 (t + wd + r) sa → H3 tp = some (.lst (ms.map V.int)) → ¬ Foot m A3 (t + wd + r) tp → Step m (t + wd + r) A0 H A3 H3 →
          tDrop (tBM K "list" rAppend (tVar 6) (tCons (tVar 9) tNil)) { nx := SlI C M m tp sa t wd r B pl thr e A0 H ms old (i + 1), rt := Q }
            [some (.ref m), some (.ref tp), some (.int (pl : Int)), some (.int (thr : Int)), some (.int e), some (.int (t : Int)), some (.ref sa), some (.int (i : Int)), some (.int nm), some u] H3 := fun u A3 X3 H3 hu hut ea3 D3 so3 ps3 hl3 fsa3 htp3 ftp3 st3 => by
        have tp_sa : tp ≠ sa := ne_of_none htp hsa
        have sa_a : sa ≠ A3.a := fun z => by
          obtain ⟨da, hla⟩ := D3.lay
          rw [← z, hl3] at hla; cases hla
        refine ⟨_, rfl, .inl ⟨rfl, _, SqL.of hl3⟩, _, rfl, sa, _, _, rfl, rfl, hl3, by omega, A3, X3, vals ++ [u], _, _, _, rfl, ea3, D3.outer (b := sa) (fun c o e h => by rw [upd_ne h]; exact e) fsa3 sa_a, so3, by rw [ps3, List.append_assoc]; rfl, by rw [List.length_append, vl]; rfl, fun x hx => ?_, fun h => ?_, upd_same, fsa3, by rw [upd_ne tp_sa]; exact htp3, ftp3, ⟨fun b o e n => by rw [upd_ne (ne_of_none e hsa)]; exact st3.chg b o e n, st3.foot⟩⟩
        · rcases List.mem_append.mp hx with h | h
          · exact vo x h
          · rw [List.mem_singleton.mp h]; exact hu
        · by_cases c : thr < i
          · rw [List.getElem?_append_left (by omega)]; exact vth c
          · have : thr = vals.length := by omega
            rw [this, List.getElem?_concat_length, hut (by omega)]
      have ed : old.drop i = old[i]'(by omega) :: old.drop (i + 1) := List.drop_eq_getElem_cons (by omega)
      refine ⟨_, rfl, _, rfl, rfl, _, rfl, ?_⟩
      by_cases ct : i = thr
      · rw [decide_eq_true (show V.int (i : Int) = V.int (thr : Int) from congrArg V.int (by omega))]
        refine iteT ?_
        refine fin .non A1 X1 _ (.inl rfl) (fun _ => rfl) ea D2 (so1.mono (by omega)) ?_ (s2 _ _ hl) fsa (s2 _ _ htp1) ftp1 st2
        have : old[i]'(by omega) = .non := by
          have h := hthr
          rw [← ct, List.getElem?_eq_getElem (by omega)] at h
          exact Option.some.inj h
        rw [ps1, ed, this]
      · rw [decide_eq_false (show ¬ (V.int (i : Int) = V.int (thr : Int)) from fun z => ct (by have := V.int.inj z; omega))]
        refine iteF ?_
        obtain ⟨dm, hm2⟩ := id D2.ob
        refine ⟨_, rfl, m, dm, _, rfl, hm2, rfl, _, rfl, _, rfl, _, _, rfl, rfl, _, rfl, (by show 3 ≤ sizeLine; decide), fun q hq => ?_⟩
        have s3 := up1 (o := HO.tup [V.str "write", V.int (1 + (i : Int)), v]) hq
        have e3' : ∀ {H : Hp}, upd H q (HO.tup [V.str "write", V.int (1 + (i : Int)), v]) q = some (.tup (Rq.write (1 + i) v).vs) := fun {H} => by
          rw [upd_same, show (1 : Int) + (i : Int) = ((1 + i : Nat) : Int) by omega]
          rfl
        have dv : ∀ {H : Hp}, ∃ u, Dvl K H v u := fun {H} => by
          rcases hvo with h | ⟨h, hh⟩
          · rw [h]; exact ⟨_, Dvl.non⟩
          · rw [hh]; exact ⟨_, Dvl.int h⟩
        refine ⟨m, t, wd, r, i, B + 2 * i, A1, X1, .write (1 + i) v, q, rfl, nok, D2.same s3, hi', e3', (by show 1 + i < 1 + t + (t + wd + r); omega), so1, by omega, dv, trivial, fun v4 x p A4 X4 H4 ea4 R4 hp4 so4 D4 st4 => ?_⟩
        obtain ⟨_, ps4, _⟩ := res_write R4 (by omega)
        have o1 := st4.out (s3 _ _ (s2 _ _ hl)) fsa
        have o2 := st4.out (s3 _ _ (s2 _ _ htp1)) ftp1
        refine fin v A4 X4 H4 hvo (fun h => absurd h ct) (ea4.trans ea) D4 (by rw [show B + 2 * (i + 1) = B + 2 * i + 2 by omega]; exact so4) ?_ o1.1 o1.2 o2.1 o2.2 ((st2.trans (Step.same s3)).trans st4)
        rw [ps4, ps1, ed, show 1 + i = i + 1 by omega, List.set_cons_succ, List.set_append_right _ _ (by omega), vl, Nat.sub_self]
        rfl
    · rintro σ H' ⟨A1, X1, vals, s7, s8, s9, rfl, ea, D1, so1, ps1, vl, vo, vth, hl, fsa, htp1, ftp1, st1⟩
      have et : ((t : Nat) : Int).toNat = t := by omega
      rw [et] at so1 ps1 vl vth
      refine ⟨_, rfl, kQ H' A1 X1 sa vals hsa ea D1 (so1.mono (by omega)) ?_ vl (vth htt) vo hl fsa st1⟩
      rw [ps1, List.drop_of_length_le (by omega), List.append_nil]
end
end Dk

set_option maxHeartbeats 4000000
/-! the law k08: a whole run of entering -/
namespace Dk
open PySem PySem.Spec PyProof.Rows L2
/-- the memory and the store of the law -/
structure WSt (C M S : Addr) (H : Hp) (m : Addr) (t w r B : Nat) (A : Adr) (X : MS) (st la : Addr) (thr : Int) (fa wa oa : Addr) (fr out : List Int) (rows : List Rw) : Prop where
  DM : MemAt C M H m t w r A X
  so : SOk X t (t + w + r) B
  R : StAt S H st la thr fa wa oa fr out rows
  of : ∀ b, Ow st fa wa oa rows b → ¬ Foot m A (t + w + r) b
  la : A.a = la
abbrev Zw (m : Addr) (A : Adr) (n : Nat) (st fa wa oa : Addr) (rows : List Rw) : Addr → Prop := fun b => Foot m A n b ∨ Ow st fa wa oa rows b
theorem ins_ne {H : Hp} {a b C D dx dy : Addr} {fs gs : List (Str × V)} (ha : H a = some (.ins C dx fs)) (hb : H b = some (.ins D dy gs)) (h : fs.length ≠ gs.length) : a ≠ b := fun z => by
  rw [z, hb] at ha
  have := Option.some.inj ha
  injection this with h1 h2 h3
  exact h (by rw [h3])
section
variable {C M S : Addr} {H H' : Hp} {m : Addr} {t w r B : Nat} {A : Adr} {X : MS} {st la : Addr} {thr : Int} {fa wa oa : Addr} {fr out : List Int} {rows : List Rw}
theorem WSt.same (W : WSt C M S H m t w r B A X st la thr fa wa oa fr out rows) (s : Same H H') : WSt C M S H' m t w r B A X st la thr fa wa oa fr out rows := ⟨W.DM.same s, W.so, W.R.same s, W.of, W.la⟩
theorem WSt.al (W : WSt C M S H m t w r B A X st la thr fa wa oa fr out rows) : ∀ b, Zw m A (t + w + r) st fa wa oa rows b → ∃ o, H b = some o := fun b hb => hb.elim (foot_some W.DM) (ow_some W.R b)
theorem WSt.nla (W : WSt C M S H m t w r B A X st la thr fa wa oa fr out rows) : ¬ Zw m A (t + w + r) st fa wa oa rows A.a := fun h => by
  rcases h with h | h
  · exact lay_out W.DM h
  · obtain ⟨da, hl⟩ := W.DM.lay
    rcases h with e | e | e | e | ⟨r', hr, e | e⟩
    · obtain ⟨ds, hs⟩ := W.R.ob
      exact ins_ne hl hs (by show 3 ≠ 5; decide) e
    · exact ne_of hl W.R.f (by intro z; cases z) e
    · exact ne_of hl W.R.w (by intro z; cases z) e
    · exact ne_of hl W.R.o (by intro z; cases z) e
    · exact ne_of hl (W.R.r r' hr).1 (by intro z; cases z) e
    · exact ne_of hl (W.R.r r' hr).2 (by intro z; cases z) e
end
theorem made_same {H : Hp} {x dx C : Addr} (nx : H x = none) (nd : H dx = none) : Same H (upd (upd H dx (.own x)) x (.ins C dx [])) := fun b o e => by rw [upd_ne (ne_of_none e nx), upd_ne (ne_of_none e nd)]; exact e
section
variable {P : Program} {W : World} {K : PySem.W.Frag} {mg : Str → Option Value} {base : Heap} {C M S CE fac g : Addr} {H : Hp} {m : Addr} {t w r B thr : Nat} {A : Adr} {X : MS} {st la : Addr} {fa wa oa : Addr} {fr out : List Int} {rows : List Rw} {Q : VK} {e : Int} {sl : List V}
theorem run_enter (mc : MCl P W K mg base CE fac) (fi : PySem.W.fnIn K g = true) (FT : FnR P W K mg base CX0 4 g (spEnTake CE g)) (nok : NOk t w r) (hth : thr < t) (hB : B < 1000) (w0 : WSt C M S H m t w r B A X st la (thr : Int) fa wa oa fr out rows) (hps : X.ps = .int e :: sl)
    (k : ∀ (p : Addr) (H3 : Hp) (A' : Adr) (X' : MS) , WSt C M S H3 m t w r (B + 2 + 2 + 2) A' X' st la (thr : Int) fa wa oa fr out rows → X'.ps = .int e :: sl.set thr (.int e) → H3 p = some (.tup [.bl true, .int e, .int 3]) →
      (∀ b o, H b = some o → ¬ Zw m A (t + w + r) st fa wa oa rows b → H3 b = some o ∧ ¬ Zw m A' (t + w + r) st fa wa oa rows b) → Q (.ref p) H3) {x dx : Addr} (nx : H x = none) (nd : H dx = none) (ne : dx ≠ x) :
    spEnInit C S CE g [.ref x, .ref st] (upd (upd H dx (.own x)) x (.ins CE dx [])) (fun v H2 => v = .non ∧ spRun P W K mg base 6 C M [.ref m, .ref x, .int (thr : Int)] H2 Q E0) E0 := by
  have s1 := made_same (C := CE) nx nd
  have hx1 : upd (upd H dx (.own x)) x (.ins CE dx []) x = some (.ins CE dx []) := upd_same
  generalize upd (upd H dx (.own x)) x (.ins CE dx []) = H1 at s1 hx1 ⊢
  have w1 := w0.same s1
  obtain ⟨da, hla⟩ := w1.DM.lay
  rw [w1.la] at hla
  refine ⟨x, dx, st, la, t, w, r, thr, fa, wa, oa, fr, out, rows, rfl, hx1, w1.R, ⟨da, hla⟩, fun H2 q l qm nq nl nm D2 eq em kp => ⟨rfl, ?_⟩⟩
  have al1 := w0.al
  have s2 : Same H H2 := fun b o h => kp b o (s1 b o h) (ne_of_none h nx)
  have w2 := w0.same s2
  have nfx : ¬ Foot m A (t + w + r) x := fun h => by obtain ⟨u, hu⟩ := foot_some w0.DM h; rw [nx] at hu; cases hu
  have nl0 : H l = none := s1.free nl
  have nfl : ¬ Foot m A (t + w + r) l := fun h => by obtain ⟨u, hu⟩ := foot_some w0.DM h; rw [nl0] at hu; cases hu
  have la0 : ∃ o, H A.a = some o := let ⟨d, h⟩ := w0.DM.lay; ⟨_, h⟩
  have nZla : ¬ (Zw m A (t + w + r) st fa wa oa rows A.a ∨ A.a = x ∨ A.a = l) := fun h => by
    obtain ⟨o, ho⟩ := la0
    rcases h with h | h | h
    · exact w0.nla h
    · rw [h, nx] at ho; cases ho
    · rw [h, nl0] at ho; cases ho
  refine ⟨m, x, CE, dx, t, w, r, thr, 3, B, A, X, fun b => Zw m A (t + w + r) st fa wa oa rows b ∨ b = x ∨ b = l, rfl, nok, hth, by omega, hB, fun b hb => ?_, w2.DM, fun H3 s3 => ?_⟩
  · rcases hb with h | h | h
    · obtain ⟨o, ho⟩ := al1 b h
      exact ⟨o, s2 _ _ ho⟩
    · exact ⟨_, h ▸ D2.ob⟩
    · exact ⟨_, h ▸ D2.lf⟩
  · have w3 := w2.same s3
    refine en_go mc fi FT hth ⟨D2.same s3, w3.DM, w3.so, fun b hb => .inl (.inl hb), .inr (.inl rfl), .inr (.inr rfl), nfx, nfl, nZla⟩ (s3 _ _ eq) (s3 _ _ em) hps fun H4 A' X' Z' ea DM4 so4 ps4 c4 zf4 z4 zz4 kf4 p H5 on5 out5 in5 hp5 => ?_
    have s23 := s2.trans s3
    have own : ∀ b o, Ow st fa wa oa rows b → H3 b = some o → H4 b = some o ∧ ¬ Foot m A' (t + w + r) b := fun b o hb h => kf4 b o h (fun y => by
      obtain ⟨u, hu⟩ := ow_some w0.R b hb
      rcases y with y | y
      · rw [y, nx] at hu; cases hu
      · rw [y, nl0] at hu; cases hu) (w0.of b hb)
    have R4 : StAt S H4 st la (thr : Int) fa wa oa fr out rows := w3.R.on fun b o hb h => (own b o hb h).1
    have R5 : StAt S H5 st la (thr : Int) fa wa oa fr out rows := R4.on fun b o hb h => on5 b o h (zz4 b (.inl (.inr hb)))
    have DM5 : MemAt C M H5 m t w r A' X' := DM4.on (fun c o h hf => on5 c o h (zf4 c hf)) fun o h => by
      have e1 : H2 A.a = H4 A'.a := by
        obtain ⟨o', ho'⟩ := la0
        have h3 := (z4.out (s23 _ _ ho') nZla).1
        rw [ea, h3, s2 _ _ ho']
      rw [ea]
      exact out5 _ _ (by rw [e1]; exact h) nZla
    refine k p H5 A' X' ⟨DM5, so4, R5, fun b hb => ?_, ea.trans w0.la⟩ ps4 (by rw [hp5, c4, show X.count + 3 - X.count = 3 by omega]) fun b o h nz => ?_
    · obtain ⟨u, hu⟩ := ow_some w3.R b hb
      exact (own b u hb hu).2
    · have nZ : ¬ (Zw m A (t + w + r) st fa wa oa rows b ∨ b = x ∨ b = l) := fun y => by
        rcases y with y | y | y
        · exact nz y
        · rw [y, nx] at h; cases h
        · rw [y, nl0] at h; cases h
      refine ⟨out5 b o (s2 _ _ h) nZ, fun y => ?_⟩
      rcases y with y | y
      · rcases in5 b (zf4 b y) with z | z
        · exact nZ z
        · rw [s2 _ _ h] at z; cases z
      · exact nz (.inr y)
end
end Dk

set_option maxHeartbeats 4000000
/-! the law k08: a whole run of leaving -/
namespace Dk
open PySem PySem.Spec PyProof.Rows L2
/-- what the run's end is to reach -/
abbrev QR (Q : VK) (Hc : Hp) (Z : Addr → Prop) (cnt : Int) : QG := fun y H2 A' X' B' Z' => ∀ p H3, (∀ b o, H2 b = some o → Z' b → H3 b = some o) → (∀ b o, Hc b = some o → ¬ Z b → H3 b = some o) → (∀ b, Z' b → Z b ∨ Hc b = none) → H3 p = some (.tup [.bl true, y, .int (X'.count - cnt)]) → Q (.ref p) H3
section
variable {P : Program} {W : World} {K : PySem.W.Frag} {mg : Str → Option Value} {base : Heap} {C M S CE fac gSl gSw gEp gHe gSt : Addr} {H : Hp} {m : Addr} {t w r B thr : Nat} {A : Adr} {X : MS} {st la : Addr} {fa wa oa : Addr} {fr out : List Int} {rows : List Rw} {Q : VK} {e : Int} {vals : List V}
theorem fin_of {Hc H3 : Hp} {x l sl oa' : Addr} {out' : List Int} {rows' : List Rw} {ps : List V} {known : Int} {k Bm : Nat} {thI : Int} (w0 : WSt C M S H m t w r B A X st la thI fa wa oa fr out rows) (s : Same H Hc) (nx : H x = none) (nl : H l = none) (nsl : H sl = none) (s3 : Same Hc H3)
    (kQ : ∀ (p : Addr) (H5 : Hp) (A' : Adr) (X' : MS) (fa' wa' : Addr) (fr' : List Int), WSt C M S H5 m t w r Bm A' X' st la thI fa' wa' oa' fr' out' (rows'.filter fun r => decide (known - 3 < r.e)) → fr'.Perm (fr ++ upTo (known - 3) rows') → Asc fr' → X'.ps = ps.set 0 (.int known) → H5 p = some (.tup [.bl true, .non, .int (k : Int)]) →
      (∀ b o, H b = some o → ¬ Zw m A (t + w + r) st fa wa oa rows b → H5 b = some o ∧ ¬ Zw m A' (t + w + r) st fa' wa' oa' (rows'.filter fun r => decide (known - 3 < r.e)) b) → Q (.ref p) H5) :
    FinP C M S m t w r Bm st la thI oa' out' fr rows' ps X.count known k (QR Q Hc (fun b => Zw m A (t + w + r) st fa wa oa rows b ∨ b = x ∨ b = l ∨ b = sl) X.count) (fun b => Zw m A (t + w + r) st fa wa oa rows b ∨ b = x ∨ b = l ∨ b = sl) H3 := by
  intro H4 A' X' B' Z' fa' wa' fr' ea DM4 so4 hB ps4 c4 zf4 z4 R4 pm asc ow p H5 on5 out5 in5 hp5
  have nZ : ∀ b o, H b = some o → ¬ Zw m A (t + w + r) st fa wa oa rows b → ¬ (Zw m A (t + w + r) st fa wa oa rows b ∨ b = x ∨ b = l ∨ b = sl) := fun b o h nz y => by
    rcases y with y | y | y | y
    · exact nz y
    · rw [y, nx] at h; cases h
    · rw [y, nl] at h; cases h
    · rw [y, nsl] at h; cases h
  obtain ⟨da, hla⟩ := id w0.DM.lay
  have nZla := nZ _ _ hla w0.nla
  have ea' : A'.a = A.a := ea.trans w0.la.symm
  have R5 := R4.on fun b o hb h => on5 b o h (ow b hb).1
  have DM5 : MemAt C M H5 m t w r A' X' := DM4.on (fun c o h hf => on5 c o h (zf4 c hf)) fun o h => by
    have h3 := (z4.out (s3 _ _ (s _ _ hla)) nZla).1
    rw [ea'] at h ⊢
    rw [h3] at h
    rw [← h]
    exact out5 _ _ (s _ _ hla) nZla
  refine kQ p H5 A' X' fa' wa' fr' ⟨DM5, so4.mono hB, R5, fun b hb => (ow b hb).2, ea⟩ pm asc ps4 (by rw [hp5, c4, show X.count + (k : Int) - X.count = (k : Int) by omega]) fun b o h nz => ?_
  have nzb := nZ b o h nz
  have nin : ¬ Z' b := fun y => by
    rcases in5 b y with z | z
    · exact nzb z
    · rw [s _ _ h] at z; cases z
  exact ⟨out5 b o (s _ _ h) nzb, fun y => nin (y.elim (zf4 b) fun y => (ow b y).1)⟩
theorem osF_len {thr t : Nat} (h : thr < t) : (osF thr t 0).length ≤ t := by
  unfold osF
  rw [List.length_map]
  refine Nat.le_trans (List.length_filter_le _ _) ?_
  rw [List.length_range']
  omega
theorem osF_mem {thr t i : Nat} (h : i ∈ osF thr t 0) : 1 ≤ i ∧ i < 1 + t := by
  unfold osF at h
  obtain ⟨j, hj, e⟩ := List.mem_map.mp h
  have := (List.mem_range'.mp (List.mem_filter.mp hj).1)
  omega
theorem slok {t thr : Nat} {e : Int} {vals : List V} (vo : VOk vals) (hl : vals.length = t) : SlOk t (.int e :: vals) (osF thr t 0) := fun i hi => by
  obtain ⟨h1, h2⟩ := osF_mem hi
  refine ⟨h2, ?_⟩
  obtain ⟨j, rfl⟩ : ∃ j, i = j + 1 := ⟨i - 1, by omega⟩
  have hj : j < vals.length := by omega
  rw [List.getElem?_cons_succ, List.getElem?_eq_getElem hj]
  rcases vo _ (List.getElem_mem hj) with h | ⟨h, hh⟩
  · exact .inl (congrArg some h)
  · exact .inr ⟨h, congrArg some hh⟩
structure LvT (P : Program) (W : World) (K : PySem.W.Frag) (mg : Str → Option Value) (base : Heap) (C S CE fac gSl gSw gEp gHe gSt : Addr) : Prop where
  lc : Lc P W K mg base S CE fac gSl gSw
  i1 : PySem.W.fnIn K gEp = true
  F1 : FnR P W K mg base CX0 4 gEp (spLvEp CE gSl gSw)
  i2 : PySem.W.fnIn K gHe = true
  F2 : FnR P W K mg base CX0 4 gHe (spLvEnd CE)
  i3 : PySem.W.fnIn K gSt = true
  F3 : FnR P W K mg base CX0 4 gSt (spLvStamp C S CE gEp gHe)
theorem run_leave0 (T : LvT P W K mg base C S CE fac gSl gSw gEp gHe gSt) (nok : NOk t w r) (hth : thr < t) (hB : B < 1000) (w0 : WSt C M S H m t w r B A X st la (thr : Int) fa wa oa fr [] rows) (asc : Asc fr) (uk : upOk fr rows) {vals0 : List V} (hps : X.ps = .int e :: vals0) (hset : vals0.set thr .non = vals) (vo : VOk vals) (hvl : vals.length = t)
    (kQ : ∀ (p : Addr) (H5 : Hp) (A' : Adr) (X' : MS) (fa' wa' : Addr) (fr' : List Int), WSt C M S H5 m t w r (B + 14) A' X' st la (thr : Int) fa' wa' oa fr' [] (rows.filter fun r => decide ((lvRes (.int e :: vals) e (osF thr t 0) rows).1 - 3 < r.e)) → fr'.Perm (fr ++ upTo ((lvRes (.int e :: vals) e (osF thr t 0) rows).1 - 3) rows) → Asc fr' → X'.ps = .int (lvRes (.int e :: vals) e (osF thr t 0) rows).1 :: vals → H5 p = some (.tup [.bl true, .non, .int ((lvRes (.int e :: vals) e (osF thr t 0) rows).2 : Int)]) →
      (∀ b o, H b = some o → ¬ Zw m A (t + w + r) st fa wa oa rows b → H5 b = some o ∧ ¬ Zw m A' (t + w + r) st fa' wa' oa (rows.filter fun r => decide ((lvRes (.int e :: vals) e (osF thr t 0) rows).1 - 3 < r.e)) b) → Q (.ref p) H5) {x dx : Addr} (nx : H x = none) (nd : H dx = none) (ne : dx ≠ x) :
    spLvInit C S CE gSt gEp gHe [.ref x, .ref st] (upd (upd H dx (.own x)) x (.ins CE dx [])) (fun v H2 => v = .non ∧ spRun P W K mg base 6 C M [.ref m, .ref x, .int (thr : Int)] H2 Q E0) E0 := by
  have s1 := made_same (C := CE) nx nd
  have hx1 : upd (upd H dx (.own x)) x (.ins CE dx []) x = some (.ins CE dx []) := upd_same
  generalize upd (upd H dx (.own x)) x (.ins CE dx []) = H1 at s1 hx1 ⊢
  have w1 := w0.same s1
  obtain ⟨da, hla⟩ := w1.DM.lay
  rw [w1.la] at hla
  have t3 := nok.t3
  refine ⟨x, dx, st, la, t, thr, w, r, fa, wa, oa, fr, [], rows, rfl, hx1, w1.R, ⟨da, hla⟩, by omega, .inr ⟨rfl, fun H2 wv th left l0 sl nl0 nsl sl_l0 D2 esl kp => ?_⟩⟩
  have s2 : Same H H2 := fun b o h => kp b o (s1 b o h) (ne_of_none h nx)
  have w2 := w0.same s2
  obtain ⟨da2, hla2⟩ := w2.DM.lay
  rw [w2.la] at hla2
  have nslH : H sl = none := s1.free nsl
  have sl_x : sl ≠ x := fun z => by
    rw [z, hx1] at nsl; cases nsl
  have hps' : X.ps.set (1 + thr) .non = .int e :: vals := by rw [hps, show 1 + thr = thr + 1 by omega, ← hset]; rfl
  have nf : ∀ b, H b = none → ¬ Foot m A (t + w + r) b := fun b h hf => by obtain ⟨u, hu⟩ := foot_some w0.DM hf; rw [h] at hu; cases hu
  -- the run, from the heap H3 of the call
  have run : ∀ (H3 : Hp) (q1 l' qm : Addr) (left' : List V), H2 l' = none → MaAt CE H3 x dx (.ref q1) l' (.ref qm) left' (lvrest st sl 0) → H3 q1 = some (.tup [.str "write", .int (1 + (thr : Int)), .non]) → Kept x H2 H3 → ((rows ≠ [] ∧ ∃ q2, left' = [.ref q2] ∧ H3 q2 = some (.tup [.str "read", .int 0]) ∧ H3 qm = some (.met gEp x)) ∨ (rows = [] ∧ left' = [] ∧ H3 qm = some (.met gHe x))) →
      spRun P W K mg base 6 C M [.ref m, .ref x, .int (thr : Int)] H3 Q E0 := fun H3 q1 l' qm left' nl' D3 e1 kp3 cs => by
    have s3 : Same H H3 := fun b o h => kp3 b o (s2 b o h) (ne_of_none h nx)
    have w3 := w0.same s3
    have nlH : H l' = none := s2.free nl'
    have sl3 := kp3 _ _ esl sl_x
    have sl_l : sl ≠ l' := fun z => by rw [z, nl'] at esl; cases esl
    have ol := osF_len hth
    refine ⟨m, x, CE, dx, t, w, r, thr, (osF thr t 0).length + 3, B, A, X, fun b => Zw m A (t + w + r) st fa wa oa rows b ∨ b = x ∨ b = l' ∨ b = sl, rfl, nok, hth, by omega, hB, fun b hb => ?_, w3.DM, fun H4 s4 => ?_⟩
    · rcases hb with h | h | h | h
      · obtain ⟨o, ho⟩ := w0.al b h
        exact ⟨o, s3 _ _ ho⟩
      · exact ⟨_, h ▸ D3.ob⟩
      · exact ⟨_, h ▸ D3.lf⟩
      · exact ⟨_, h ▸ sl3⟩
    · have w4 := w3.same s4
      have nZla : ¬ (Zw m A (t + w + r) st fa wa oa rows A.a ∨ A.a = x ∨ A.a = l' ∨ A.a = sl) := fun h => by
        obtain ⟨d, ho⟩ := w0.DM.lay
        rcases h with h | h | h | h
        · exact w0.nla h
        · rw [h, nx] at ho; cases ho
        · rw [h, nlH] at ho; cases ho
        · rw [h, nslH] at ho; cases ho
      have ff := fin_of (Bm := B + 14) (known := (lvRes (.int e :: vals) e (osF thr t 0) rows).1) (k := (lvRes (.int e :: vals) e (osF thr t 0) rows).2) (ps := .int e :: vals) (rows' := rows) (oa' := oa) (out' := []) w0 s3 nx nlH nslH s4 (fun p H5 A' X' fa' wa' fr' a1 a2 a3 a4 a5 a6 => kQ p H5 A' X' fa' wa' fr' a1 a2 a3 a4 a5 a6)
      refine leave_go (Bm := B + 14) (os := osF thr t 0) (e := e) (tl := vals0) T.lc uk T.i1 T.F1 T.i2 T.F2 ⟨⟨D3.same s4, w4.DM, w4.so, fun b hb => .inl (.inl hb), .inr (.inl rfl), .inr (.inr (.inl rfl)), nf x nx, nf l' nlH, nZla⟩, w4.R, fun b hb => ?_, by rw [s4 _ _ sl3, osF_others, List.map_map]; rfl, .inr (.inr (.inr rfl)), nf sl nslH, sl_l⟩ w0.la (by omega) (s4 _ _ e1) hth hps (by rw [hps']; exact slok vo hvl) asc ?_ (by rw [hps']; exact ff)
      · obtain ⟨u, hu⟩ := ow_some w0.R b hb
        exact ⟨.inl (.inr hb), w0.of b hb, (fun z => by rw [z, nx] at hu; cases hu), (fun z => by rw [z, nlH] at hu; cases hu), (fun z => by rw [z, nslH] at hu; cases hu)⟩
      · rcases cs with ⟨c1, q2, c2, c3, c4⟩ | ⟨c1, c2, c3⟩
        · exact .inl ⟨c1, q2, c2, s4 _ _ c3, s4 _ _ c4⟩
        · exact .inr ⟨c1, c2, s4 _ _ c3⟩
  refine ⟨x, dx, l0, st, sl, la, wv, th, left, 0, _, _, _, thr, fa, wa, oa, fr, [], rows, rfl, D2, w2.R, ⟨da2, hla2⟩, ?_⟩
  by_cases c : rows = []
  · exact .inr ⟨c, fun H3 q1 l' qm n1 nl' nm e1 em D3 kp3 => ⟨rfl, run H3 q1 l' qm [] nl' D3 e1 kp3 (.inr ⟨c, rfl, em⟩)⟩⟩
  · exact .inl ⟨c, fun H3 q1 q2 l' qm n1 n2 nl' nm e1 e2 em D3 kp3 => ⟨rfl, run H3 q1 l' qm [.ref q2] nl' D3 e1 kp3 (.inl ⟨c, q2, rfl, e2, em⟩)⟩⟩
set_option maxHeartbeats 400000 in
theorem run_leave1 (T : LvT P W K mg base C S CE fac gSl gSw gEp gHe gSt) (nok : NOk t w r) (hth : thr < t) (hB : B < 1000) (w0 : WSt C M S H m t w r B A X st la (thr : Int) fa wa oa fr out rows) (hout : out ≠ []) (asc : Asc fr) (hz : rows.length < 1000) (uk : ∀ p' oa' : Addr, upOk fr (rows ++ [Rw.mk p' oa e out])) {vals0 : List V} (hps : X.ps = .int e :: vals0) (hset : vals0.set thr .non = vals) (vo : VOk vals) (hvl : vals.length = t)
    (kQ : ∀ (p' oa' p : Addr) (H5 : Hp) (A' : Adr) (X' : MS) (fa' wa' : Addr) (fr' : List Int), WSt C M S H5 m t w r (B + 14) A' X' st la (thr : Int) fa' wa' oa' fr' [] ((rows ++ [Rw.mk p' oa e out]).filter fun r => decide ((lvRes (.int e :: vals) e (osF thr t 0) (rows ++ [Rw.mk p' oa e out])).1 - 3 < r.e)) → fr'.Perm (fr ++ upTo ((lvRes (.int e :: vals) e (osF thr t 0) (rows ++ [Rw.mk p' oa e out])).1 - 3) (rows ++ [Rw.mk p' oa e out])) → Asc fr' → X'.ps = .int (lvRes (.int e :: vals) e (osF thr t 0) (rows ++ [Rw.mk p' oa e out])).1 :: vals → H5 p = some (.tup [.bl true, .non, .int (((lvRes (.int e :: vals) e (osF thr t 0) (rows ++ [Rw.mk p' oa e out])).2 + 1 : Nat) : Int)]) →
      (∀ b o, H b = some o → ¬ Zw m A (t + w + r) st fa wa oa rows b → H5 b = some o ∧ ¬ Zw m A' (t + w + r) st fa' wa' oa' ((rows ++ [Rw.mk p' oa e out]).filter fun r => decide ((lvRes (.int e :: vals) e (osF thr t 0) (rows ++ [Rw.mk p' oa e out])).1 - 3 < r.e)) b) → Q (.ref p) H5) {x dx : Addr} (nx : H x = none) (nd : H dx = none) (ne : dx ≠ x) :
    spLvInit C S CE gSt gEp gHe [.ref x, .ref st] (upd (upd H dx (.own x)) x (.ins CE dx [])) (fun v H2 => v = .non ∧ spRun P W K mg base 6 C M [.ref m, .ref x, .int (thr : Int)] H2 Q E0) E0 := by
  have s1 := made_same (C := CE) nx nd
  have hx1 : upd (upd H dx (.own x)) x (.ins CE dx []) x = some (.ins CE dx []) := upd_same
  generalize upd (upd H dx (.own x)) x (.ins CE dx []) = H1 at s1 hx1 ⊢
  have w1 := w0.same s1
  obtain ⟨da, hla⟩ := w1.DM.lay
  rw [w1.la] at hla
  have t3 := nok.t3
  refine ⟨x, dx, st, la, t, thr, w, r, fa, wa, oa, fr, out, rows, rfl, hx1, w1.R, ⟨da, hla⟩, by omega, .inl ⟨hout, fun H3 q1 l' qm sl nq nl' nm nsl sl_l e1 em D3 sl3 kp3 => ⟨rfl, ?_⟩⟩⟩
  have s3 : Same H H3 := fun b o h => kp3 b o (s1 b o h) (ne_of_none h nx)
  have w3 := w0.same s3
  have nslH : H sl = none := s1.free nsl
  have nlH : H l' = none := s1.free nl'
  have hps' : X.ps.set (1 + thr) .non = .int e :: vals := by rw [hps, show 1 + thr = thr + 1 by omega, ← hset]; rfl
  have nf : ∀ b, H b = none → ¬ Foot m A (t + w + r) b := fun b h hf => by obtain ⟨u, hu⟩ := foot_some w0.DM hf; rw [h] at hu; cases hu
  have ol := osF_len hth
  refine ⟨m, x, CE, dx, t, w, r, thr, (osF thr t 0).length + 4, B, A, X, fun b => Zw m A (t + w + r) st fa wa oa rows b ∨ b = x ∨ b = l' ∨ b = sl, rfl, nok, hth, by omega, hB, fun b hb => ?_, w3.DM, fun H4 s4 => ?_⟩
  · rcases hb with h | h | h | h
    · obtain ⟨o, ho⟩ := w0.al b h
      exact ⟨o, s3 _ _ ho⟩
    · exact ⟨_, h ▸ D3.ob⟩
    · exact ⟨_, h ▸ D3.lf⟩
    · exact ⟨_, h ▸ sl3⟩
  · have w4 := w3.same s4
    have nZla : ¬ (Zw m A (t + w + r) st fa wa oa rows A.a ∨ A.a = x ∨ A.a = l' ∨ A.a = sl) := fun h => by
      obtain ⟨d, ho⟩ := w0.DM.lay
      rcases h with h | h | h | h
      · exact w0.nla h
      · rw [h, nx] at ho; cases ho
      · rw [h, nlH] at ho; cases ho
      · rw [h, nslH] at ho; cases ho
    have ff := fun p' oa' => fin_of (Bm := B + 14) (known := (lvRes (.int e :: vals) e (osF thr t 0) (rows ++ [Rw.mk p' oa e out])).1) (k := (lvRes (.int e :: vals) e (osF thr t 0) (rows ++ [Rw.mk p' oa e out])).2 + 1) (ps := .int e :: vals) (rows' := rows ++ [Rw.mk p' oa e out]) (oa' := oa') (out' := []) w0 s3 nx nlH nslH s4 (fun p H5 A' X' fa' wa' fr' a1 a2 a3 a4 a5 a6 => kQ p' oa' p H5 A' X' fa' wa' fr' a1 a2 a3 a4 a5 a6)
    refine stamp_go (Bm := B + 14) (os := osF thr t 0) (e := e) (tl := vals0) T.lc T.i1 T.F1 T.i2 T.F2 T.i3 T.F3 ⟨⟨D3.same s4, w4.DM, w4.so, fun b hb => .inl (.inl hb), .inr (.inl rfl), .inr (.inr (.inl rfl)), nf x nx, nf l' nlH, nZla⟩, w4.R, fun b hb => ?_, by rw [s4 _ _ sl3, osF_others, List.map_map]; rfl, .inr (.inr (.inr rfl)), nf sl nslH, sl_l⟩ w0.la (by omega) (s4 _ _ e1) (s4 _ _ em) hth hps (by rw [hps']; exact slok vo hvl) asc hz uk (by rw [hps']; exact ff)
    obtain ⟨u, hu⟩ := ow_some w0.R b hb
    exact ⟨.inl (.inr hb), w0.of b hb, (fun z => by rw [z, nx] at hu; cases hu), (fun z => by rw [z, nlH] at hu; cases hu), (fun z => by rw [z, nslH] at hu; cases hu)⟩
end
end Dk

set_option maxHeartbeats 4000000
/-! the law k08: the end of a turn -/
namespace Dk
open PySem PySem.Spec PyProof.Rows L2
abbrev sLaw : Stmt := top 32
def loopBody : Stmt → List Stmt
  | .For _ _ b _ _ => b
  | _ => []
abbrev NLw : List Str := ["script", "tape", "threads", "thread", "memory", "epoch", "layout", "store", "free", "waiting", "place", "turn", "slots", "many", "out", "cells", "known", "accesses", "row", "k"]
abbrev key (r : Rw) : Int × List Int := (r.e, r.cs)
/-- what is outside of a zone stays, outside -/
def Mv (Z : Addr → Prop) (H : Hp) (Z' : Addr → Prop) (H' : Hp) : Prop := ∀ b o, H b = some o → ¬ Z b → H' b = some o ∧ ¬ Z' b
theorem Mv.trans {Z Z1 Z2 : Addr → Prop} {H H1 H2 : Hp} (a : Mv Z H Z1 H1) (b : Mv Z1 H1 Z2 H2) : Mv Z H Z2 H2 := fun c o h n => let ⟨h1, n1⟩ := a c o h n; b c o h1 n1
theorem Mv.same {Z : Addr → Prop} {H H' : Hp} (s : Same H H') : Mv Z H Z H' := fun c o h n => ⟨s c o h, n⟩
structure LRows (H : Hp) (Z : Addr → Prop) (wl : Addr) (wr : List Rw) : Prop where
  w : H wl = some (.lst (wr.map fun (r : Rw) => V.ref r.p))
  r : RwOk H wr
  nw : ¬ Z wl
  nr : ∀ r ∈ wr, ¬ Z r.p ∧ ¬ Z r.q
theorem LRows.mv {H H' : Hp} {Z Z' : Addr → Prop} {wl : Addr} {wr : List Rw} (L : LRows H Z wl wr) (k : Mv Z H Z' H') : LRows H' Z' wl wr :=
  ⟨(k _ _ L.w L.nw).1, fun r hr => ⟨(k _ _ (L.r r hr).1 (L.nr r hr).1).1, (k _ _ (L.r r hr).2 (L.nr r hr).2).1⟩, (k _ _ L.w L.nw).2, fun r hr => ⟨(k _ _ (L.r r hr).1 (L.nr r hr).1).2, (k _ _ (L.r r hr).2 (L.nr r hr).2).2⟩⟩
def Ot (H : Hp) (Z : Addr → Prop) (b : Addr) (o : HO) : Prop := H b = some o ∧ ¬ Z b
theorem asc_uniq {a b : List Int} (hp : a.Perm b) (ha : Asc a) (hb : Asc b) : a = b := PySem.W.ksm_same hp ha hb
def dInts (ns : List Int) : PyData := .list (ns.map .int)
theorem dInts_lay : ∀ ns : List Int, PyData.canLayAll0 (ns.map PyData.int) = true
  | [] => by simp [PyData.canLayAll0]
  | n :: ns => by simp [PyData.canLayAll0, PyData.canLay0, dInts_lay ns]
theorem dInts_depth : ∀ ns : List Int, PyData.depthAll (ns.map PyData.int) ≤ 1
  | [] => by simp [PyData.depthAll]
  | n :: ns => by
    have := dInts_depth ns
    simp only [List.map_cons, PyData.depthAll, PyData.depth]
    omega
theorem dInts_shaped (ns : List Int) : SeqAt.shaped (dInts ns) = true := by
  have h := dInts_depth ns
  unfold dInts
  show (PyData.canLay0 (.list _) && decide (PyData.depth (.list _) ≤ 64)) = true
  rw [Bool.and_eq_true]
  refine ⟨by simp only [PyData.canLay0]; exact dInts_lay ns, decide_eq_true ?_⟩
  simp only [PyData.depth]
  omega
theorem dInts_all {K : PySem.W.Frag} {H : Hp} : ∀ ns : List Int, DpAll K H (ns.map V.int) (ns.map PyData.int)
  | [] => .nil
  | n :: ns => .cons (.int n) (dInts_all ns)
theorem dInts_dp {K : PySem.W.Frag} {H : Hp} {a : Addr} {ns : List Int} (h : SqL K H a (ns.map V.int)) : Dp K H (.ref a) (dInts ns) := .lst h (dInts_all ns)
abbrev kD (k : Int × List Int) : PyData := .tuple [.int k.1, dInts k.2]
def dRows (ks : List (Int × List Int)) : PyData := .list (ks.map kD)
theorem dRows_lay : ∀ ks : List (Int × List Int), PyData.canLayAll0 (ks.map kD) = true
  | [] => by simp [PyData.canLayAll0]
  | k :: ks => by
    have h := dInts_lay k.2
    simp [PyData.canLayAll0, PyData.canLay0, dRows_lay ks, kD, dInts, h]
theorem dRows_depth : ∀ ks : List (Int × List Int), PyData.depthAll (ks.map kD) ≤ 3
  | [] => by simp [PyData.depthAll]
  | k :: ks => by
    have := dRows_depth ks
    have h := dInts_depth k.2
    simp only [List.map_cons, PyData.depthAll, PyData.depth, kD, dInts]
    omega
theorem dRows_shaped (ks : List (Int × List Int)) : SeqAt.shaped (dRows ks) = true := by
  have h := dRows_depth ks
  unfold dRows
  show (PyData.canLay0 (.list _) && decide (PyData.depth (.list _) ≤ 64)) = true
  rw [Bool.and_eq_true]
  refine ⟨by simp only [PyData.canLay0]; exact dRows_lay ks, decide_eq_true ?_⟩
  simp only [PyData.depth]
  omega
theorem dRows_all {K : PySem.W.Frag} {H : Hp} : ∀ {wr : List Rw}, RwOk H wr → DpAll K H (wr.map fun (r : Rw) => V.ref r.p) ((wr.map key).map kD)
  | [], _ => .nil
  | r :: wr, h => by
    obtain ⟨h1, h2⟩ := h r List.mem_cons_self
    exact .cons (.tup (SqT.of h1) (.cons (.int _) (.cons (dInts_dp (SqL.of h2)) .nil))) (dRows_all fun r' hr => h r' (List.mem_cons_of_mem _ hr))
theorem rD_key (rows : List Rw) : (PyData.list (rows.map rD)) = dRows (rows.map key) := by
  unfold dRows
  rw [List.map_map]
  rfl
theorem eqv_sh {d : PyData} (h : SeqAt.shaped d = true) : PyData.eqv d d = true := SeqAt.eqv_refl _ (SeqAt.canLay_of_shaped h)
/-- all cells that wait -/
def allC (rows : List Rw) : List Int := rows.flatMap fun r => r.cs
theorem upTo_split {k : Int} : ∀ rows : List Rw, (upTo k rows).length + (allC (rows.filter fun r => decide (k < r.e))).length = (allC rows).length
  | [] => rfl
  | r :: rows => by
    have ih := upTo_split (k := k) rows
    unfold upTo allC at ih ⊢
    rw [List.filter_cons, List.filter_cons, List.flatMap_cons, List.length_append]
    by_cases c : r.e ≤ k
    · rw [if_pos (decide_eq_true c), if_neg (by simpa using c), List.flatMap_cons, List.length_append]
      omega
    · rw [if_neg (by simpa using c), if_pos (by simpa using (by omega : k < r.e)), List.flatMap_cons, List.length_append]
      omega
theorem upTo_key {k : Int} {a b : List Rw} (h : a.map key = b.map key) : upTo k a = upTo k b := by
  have e : ∀ rs : List Rw, upTo k rs = ((rs.map key).filter fun q => decide (q.1 ≤ k)).flatMap fun q => q.2 := fun rs => by
    unfold upTo
    rw [List.filter_map, List.flatMap_map]
    rfl
  rw [e, e, h]
theorem fil_key {k : Int} {a b : List Rw} (h : a.map key = b.map key) : (a.filter fun r => decide (k < r.e)).map key = (b.filter fun r => decide (k < r.e)).map key := by
  have e : ∀ rs : List Rw, (rs.filter fun r => decide (k < r.e)).map key = (rs.map key).filter fun q => decide (k < q.1) := fun rs => by
    rw [List.filter_map]
    rfl
  rw [e, e, h]
theorem cellV_e {S : MS} {t : Nat} {e : Int} {vals : List V} (h : S.ps = .int e :: vals) : cellV S t 0 = some (.int e) := by
  unfold cellV
  rw [if_pos (by omega), h]
  rfl
theorem cellV_s {S : MS} {t thr : Nat} {e : V} {vals : List V} (h : S.ps = e :: vals) (ht : thr < t) : cellV S t (1 + thr) = vals[thr]? := by
  unfold cellV
  rw [if_pos (by omega), h, show 1 + thr = thr + 1 by omega, List.getElem?_cons_succ]
/-- what the law holds between two turns -/
structure LI (K : PySem.W.Frag) (C M S : Addr) (H : Hp) (m st la tp fl wl : Addr) (ms : List Int) (t thr B n : Nat) (e : Int) : Prop where
  x : ∃ (A : Adr) (X : MS) (fa wa oa : Addr) (fr : List Int) (rows wr : List Rw) (vals : List V), WSt C M S H m t 3 50 B A X st la (thr : Int) fa wa oa fr [] rows ∧ X.ps = .int e :: vals ∧ vals.length = t ∧ vals[thr]? = some .non ∧ Asc fr ∧
    Ot H (Zw m A (t + 3 + 50) st fa wa oa rows) tp (.lst (ms.map V.int)) ∧ Ot H (Zw m A (t + 3 + 50) st fa wa oa rows) fl (.lst (fr.map V.int)) ∧ LRows H (Zw m A (t + 3 + 50) st fa wa oa rows) wl wr ∧ wr.map key = rows.map key ∧ fr.length + (allC rows).length ≤ 47 ∧ rows.length ≤ n
abbrev LG : Type := Unit
abbrev sl (a tp : Addr) (t thr : Nat) (m : Addr) (e : Int) (la st fl wl : Addr) (pl : Nat) (v11 v12 v13 v14 v15 v16 v17 v18 v19 : Option V) : L2.St :=
  [some (.ref a), some (.ref tp), some (.int (t : Int)), some (.int (thr : Int)), some (.ref m), some (.int e), some (.ref la), some (.ref st), some (.ref fl), some (.ref wl), some (.int (pl : Int)), v11, v12, v13, v14, v15, v16, v17, v18, v19]
section
variable {P : Program} {w : World} {K : PySem.W.Frag} {mg : Str → Option Value} {base : Heap} {C M S CE CV fac gSl gSw gEp gHe gSt gEn : Addr}
theorem scLaw : FnScope NLw ["script"] (defScope sLaw) := ⟨rfl, rfl, rfl, by decide +kernel, rfl, by decide +kernel, by decide +kernel⟩
theorem law_t4 {f : Addr} {cdv : Value} {A0 : Around} {outer : List Env} {s : Shared} {Hs : Hp} {E : XK} (hr : Room 19 (A0.deeper (envOfC "law" (defScope sLaw) s.heap.objs.size f cdv))) (B0 : Bn mg) (T : STxt K mg S) (TM : MTxt K M)
    (GPk : MO P w K mg base CX0 M 8 "peek" ["self", "cell"] (spPeek C M)) (GWt : MO P w K mg base CX0 S 1 "waiting" ["self"] (spWait K S)) (GFc : MO P w K mg base CX0 S 1 "free_cells" ["self"] (spFreeC S)) :
    ∃ t4, PSs (cxOf CX0 P w K mg base NLw "law" (defScope sLaw) f cdv A0 outer s Hs E).nox ((loopBody ((defBody sLaw).getD 11 (.Pass ⟨0, 0, 0, 0⟩))).drop 16) t4 ∧
      ∀ (De : Ends) (a tp m la st fl wl : Addr) (ms : List Int) (t thr B pl n : Nat) (kn : Int) (v11 v12 v13 v14 v15 v17 v18 v19 : Option V) (H : Hp) (A : Adr) (X : MS) (fa wa oa : Addr) (fr : List Int) (rows wr : List Rw) (vals : List V), 
        WSt C M S H m t 3 50 B A X st la (thr : Int) fa wa oa fr [] rows → X.ps = .int kn :: vals → vals.length = t → vals[thr]? = some .non → Asc fr →
        Ot H (Zw m A (t + 3 + 50) st fa wa oa rows) tp (.lst (ms.map V.int)) → Ot H (Zw m A (t + 3 + 50) st fa wa oa rows) fl (.lst (fr.map V.int)) → LRows H (Zw m A (t + 3 + 50) st fa wa oa rows) wl wr → wr.map key = rows.map key → fr.length + (allC rows).length ≤ 47 → rows.length ≤ n → n ≤ 8 →
        (∀ (H' : Hp), LI K C M S H' m st la tp fl wl ms t thr B n kn → De.nx (sl a tp t thr m kn la st fl wl pl v11 v12 v13 v14 v15 (some (.int kn)) v17 v18 v19) H') →
        t4 De (sl a tp t thr m kn la st fl wl pl v11 v12 v13 v14 v15 (some (.int kn)) v17 v18 v19) H := by
  have nd := scLaw.nd
  have hr1 : Room 1 _ := hr.mono (by decide)
  have hsl : sizeLine = 16777216 := sizeLine_eq
  refine ⟨_, (pss_one (ps_if (PW.pt (pw_or (pt_cmpR (op_neD hr.units) (pm0_ GWt T.cl hr1 (pv 7)) (pv 9) (nomark _)) (pw_or1 (pt_cmpR (op_neD hr.units) (pm0_ GFc T.cl hr1 (pv 7)) (pv 8) (nomark _)))))
  (pss_one (ps_ret pe_bl))
  pss_nil)), ?_⟩
  intro De a tp m la st fl wl ms t thr B pl n kn v11 v12 v13 v14 v15 v17 v18 v19 H A X fa wa oa fr rows wr vals W hps hvl hvt asc htp hfl LR hky hn1 hn2 hn8 kD
  obtain ⟨ds, hs⟩ := W.R.ob
  refine ⟨_, rfl, st, ds, _, rfl, hs, rfl, st, la, _, fa, wa, oa, fr, rows, rfl, W.R, by omega, fun H1 p np hp s1 => ?_⟩
  have LR1 := LR.mv (Mv.same s1)
  refine ⟨_, rfl, _, dRows (wr.map key), hp, .lst (SqL.of LR1.w) (dRows_all LR1.r), ?_, dRows_shaped _, _, rfl, ?_⟩
  · rw [rD_key]
    exact dRows_shaped _
  rw [rD_key, hky, eqv_sh (dRows_shaped _)]
  refine iteF ?_
  have hs1 := s1 _ _ hs
  refine ⟨_, rfl, st, ds, _, rfl, hs1, rfl, st, la, _, fa, wa, oa, fr, [], rows, rfl, W.R.same s1, fun H2 p2 np2 hp2 s2 => ?_⟩
  have s12 := s1.trans s2
  refine ⟨_, rfl, dInts fr, dInts fr, dInts_dp (SqL.of hp2), dInts_dp (SqL.of (s12 _ _ hfl.1)), dInts_shaped _, dInts_shaped _, _, rfl, iteC (by rw [eqv_sh (dInts_shaped _)]; rfl) ?_⟩
  exact kD H2 ⟨A, X, fa, wa, oa, fr, rows, wr, vals, W.same s12, hps, hvl, hvt, asc, ⟨s12 _ _ htp.1, htp.2⟩, ⟨s12 _ _ hfl.1, hfl.2⟩, LR.mv (Mv.same s12), hky, hn1, hn2⟩
theorem law_t3 {f : Addr} {cdv : Value} {A0 : Around} {outer : List Env} {s : Shared} {Hs : Hp} {E : XK} (hr : Room 19 (A0.deeper (envOfC "law" (defScope sLaw) s.heap.objs.size f cdv))) (B0 : Bn mg) (T : STxt K mg S) (TM : MTxt K M)
    (GPk : MO P w K mg base CX0 M 8 "peek" ["self", "cell"] (spPeek C M)) (GWt : MO P w K mg base CX0 S 1 "waiting" ["self"] (spWait K S)) (GFc : MO P w K mg base CX0 S 1 "free_cells" ["self"] (spFreeC S)) :
    ∃ t3, PSs (cxOf CX0 P w K mg base NLw "law" (defScope sLaw) f cdv A0 outer s Hs E).nox ((loopBody ((defBody sLaw).getD 11 (.Pass ⟨0, 0, 0, 0⟩))).drop 13) t3 ∧
      ∀ (De : Ends) (a tp m la st fl wl : Addr) (ms : List Int) (t thr B pl n : Nat) (e kn : Int) (v11 v12 v13 v14 v15 v17 v18 v19 : Option V) (H : Hp) (A : Adr) (X : MS) (fa wa oa : Addr) (fr1 fr : List Int) (rows1 wr : List Rw) (vals : List V), thr < t →
        WSt C M S H m t 3 50 B A X st la (thr : Int) fa wa oa fr [] (rows1.filter fun r => decide (kn - 3 < r.e)) → X.ps = .int kn :: vals → vals.length = t → vals[thr]? = some .non → Asc fr → fr.Perm (fr1 ++ upTo (kn - 3) rows1) → Asc fr1 →
        Ot H (Zw m A (t + 3 + 50) st fa wa oa (rows1.filter fun r => decide (kn - 3 < r.e))) tp (.lst (ms.map V.int)) → Ot H (Zw m A (t + 3 + 50) st fa wa oa (rows1.filter fun r => decide (kn - 3 < r.e))) fl (.lst (fr1.map V.int)) →
        LRows H (Zw m A (t + 3 + 50) st fa wa oa (rows1.filter fun r => decide (kn - 3 < r.e))) wl wr → wr.map key = rows1.map key → fr1.length + (allC rows1).length ≤ 47 → rows1.length ≤ n → n ≤ 8 →
        (∀ (fl' wl' : Addr) (v18 : Option V) (H' : Hp), LI K C M S H' m st la tp fl' wl' ms t thr B n kn → De.nx (sl a tp t thr m kn la st fl' wl' pl v11 v12 v13 v14 v15 (some (.int kn)) v17 v18 v19) H') →
        t3 De (sl a tp t thr m e la st fl wl pl v11 v12 v13 v14 v15 (some (.int kn)) v17 v18 v19) H := by
  have nd := scLaw.nd
  have hr1 : Room 1 _ := hr.mono (by decide)
  have hr8 : Room 8 _ := hr.mono (by decide)
  have hsl : sizeLine = 16777216 := sizeLine_eq
  obtain ⟨t4, hp4, r4⟩ := law_t4 (C := C) (w := w) (f := f) (cdv := cdv) (A0 := A0) (outer := outer) (s := s) (Hs := Hs) (E := E) hr B0 T TM GPk GWt GFc
  refine ⟨_, (pss_cons (ps_if (PW.pt (pw_or (pt_cmpR op_notN (pm_ GPk TM.cl hr8 (pv 4) (pa_cons (pe_op op_add pe_int (pv 3)) pa_nil)) pe_non (nomark _)) (pw_or1 (pt_cmpR op_ne (pm_ GPk TM.cl hr8 (pv 4) (pa_cons pe_int pa_nil)) (pv 16) (nomark _)))))
  (pss_one (ps_ret pe_bl))
  pss_nil)
  (pss_cons (ps_set (i := 5) nd rfl (Or.inl rfl) (pv 16))
  (pss_cons (ps_if (pt_cmpR op_gt (pe_callB call_len_seq (by rfl) T.len PySem.boot_len (pa_cons (pv 9) pa_nil)) pe_int (nomark _))
  (pss_cons (ps_for PassesOwn.never rfl (pi_list (pv 9)) (pg_name (i := 18) nd rfl (Or.inl rfl))
  (pss_one (ps_if (pt_cmpR op_le (pe_ix ix_tup (pv 18) pe_int (fun _ _ => rfl)) (pe_op op_sub (pv 16) pe_int) (nomark _))
  (pss_one (ps_set (i := 8) nd rfl (Or.inl rfl) (pe_callB cr_sortedI (by rfl) T.sorted (by decide +kernel) (pa_cons (pe_op op_cat (pv 8) (pe_ix ix_tup (pv 18) pe_int (fun _ _ => rfl))) pa_nil))))
  pss_nil)))
  (pss_one (ps_setLc (i := 9) (own := [("row", 18)]) (g := (gName 18)) (tt := tTest (tOp (rI0 fun i j => .bl (decide (j < i))) (tOp (rIxT K) (tVar 18) (tC (.int 0))) (tOp (rI0 fun i j => .int (i - j)) (tVar 16) (tC (.int 3))))) rfl nd rfl rfl (sw_true rfl rfl rfl (by decide +kernel)) (pi_list (pv 9)) (blkOk_by (N := ["script", "tape", "threads", "thread", "memory", "epoch", "layout", "store", "free", "waiting", "place", "turn", "slots", "many", "out", "cells", "known", "accesses", "row", "k"]) (sc := defScope sLaw) (by decide +kernel)) (fun _ _ _ _ _ => (pg_name (i := 18) nd rfl (Or.inl rfl))) (fun _ _ _ _ _ => pts_one (pt_cmpR op_gt (pe_ix ix_tup (pv 18) pe_int (fun _ _ => rfl)) (pe_op op_sub (pv 16) pe_int) (nomark _))) (fun _ _ _ _ _ => (pv 18)))))
  pss_nil)
  hp4))), ?_⟩
  intro De a tp m la st fl wl ms t thr B pl n e kn v11 v12 v13 v14 v15 v17 v18 v19 H A X fa wa oa fr1 fr rows1 wr vals hth W hps hvl hvt asc hpm asc1 htp hfl LR hky hn1 hn2 hn8 kD
  obtain ⟨dm, hm⟩ := W.DM.ob
  -- peeks
  refine ⟨_, rfl, m, dm, _, rfl, hm, rfl, _, rfl, _, _, rfl, rfl, m, t, 3, 50, 1 + thr, A, X, .non, (by rw [show ((1 + thr : Nat) : Int) = 1 + (thr : Int) by omega]; rfl), W.DM, by omega, (by rw [cellV_s hps hth]; exact hvt), rfl, _, rfl, iteNS rfl ?_⟩
  refine ⟨_, rfl, m, dm, _, rfl, hm, rfl, m, t, 3, 50, 0, A, X, .int kn, rfl, W.DM, by omega, cellV_e hps, _, rfl, rfl, _, rfl, iteNS rfl ?_⟩
  refine ⟨_, rfl, ?_⟩
  have hlw : (wr.map fun (r : Rw) => V.ref r.p).length = wr.length := List.length_map ..
  have hwl : wr.length = rows1.length := by
    have := congrArg List.length hky
    rwa [List.length_map, List.length_map] at this
  have hn : fr.length + (allC (rows1.filter fun r => decide (kn - 3 < r.e))).length ≤ 47 := by
    have h1 := hpm.length_eq
    have h2 := upTo_split (k := kn - 3) rows1
    rw [List.length_append] at h1
    omega
  have hnr : (rows1.filter fun r => decide (kn - 3 < r.e)).length ≤ n := Nat.le_trans (List.length_filter_le _ _) hn2
  refine ⟨_, rfl, wl, _, rfl, .inl (SqL.of LR.w), _, _, rfl, rfl, _, rfl, ite2 (fun c => ?_) (fun c => ?_)⟩
  · have hup : ∀ i, fr1.length + (upTo (kn - 3) (wr.take i)).length ≤ 47 := fun i => by
      have h1 := upTo_le (last := kn - 3) (rows := wr) (i := i)
      have h2 := upTo_split (k := kn - 3) rows1
      rw [upTo_key hky] at h1
      omega
    refine ⟨_, rfl, wl, rfl, ⟨_, SqL.of LR.w⟩, for_list (xs := wr.map fun (r : Rw) => V.ref r.p) (fun i σ H' => ∃ (fl' : Addr) (frx : List Int) (v18 : Option V), σ = sl a tp t thr m kn la st fl' wl pl v11 v12 v13 v14 v15 (some (.int kn)) v17 v18 v19 ∧ Ot H' (Zw m A (t + 3 + 50) st fa wa oa (rows1.filter fun r => decide (kn - 3 < r.e))) fl' (.lst (frx.map V.int)) ∧ Asc frx ∧ frx.Perm (fr1 ++ upTo (kn - 3) (wr.take i)) ∧ Same H H')
      ⟨fl, fr1, v18, rfl, hfl, asc1, by rw [List.take_zero]; show fr1.Perm (fr1 ++ []); rw [List.append_nil], Same.refl H⟩ (fun i σ H' _ z => by obtain ⟨_, _, _, _, _, _, _, s⟩ := z; exact SqL.of (s _ _ LR.w)) ?_ ?_⟩
    · rintro i x σ H' hi ⟨fl', frx, v18', rfl, hfl', ascx, pmx, s1⟩
      obtain ⟨hil, rfl⟩ := rows_get hi
      have rr := LR.r wr[i] (List.getElem_mem hil)
      have hux := pmx.length_eq
      rw [List.length_append] at hux
      have hu0 := hup i
      refine ⟨_, rfl, wr[i].p, _, 0, _, rfl, rfl, SqT.of (s1 _ _ rr.1), at_head, _, rfl, _, _, rfl, rfl, _, _, rfl, rfl, _, rfl, ite2 (fun c => ?_) (fun c => ?_)⟩
      · have c := of_decide_eq_true c
        have hsx := upTo_succ (last := kn - 3) (rows := wr) hil
        rw [if_pos c] at hsx
        have hu1 := hup (i + 1)
        rw [hsx, List.length_append] at hu1
        refine ⟨_, rfl, _, rfl, wr[i].p, _, 1, _, rfl, rfl, SqT.of (s1 _ _ rr.1), rfl, fl', wr[i].q, _, _, rfl, rfl, hfl'.1, s1 _ _ rr.2, (by rw [List.length_map, List.length_map]; omega), fun q hq => ?_⟩
        rw [← List.map_append]
        have u1 := up1 (o := HO.lst ((frx ++ wr[i].cs).map V.int)) hq
        have e1 : upd H' q (HO.lst ((frx ++ wr[i].cs).map V.int)) q = _ := upd_same
        generalize upd H' q (HO.lst ((frx ++ wr[i].cs).map V.int)) = H2 at u1 e1 ⊢
        refine ⟨q, _, rfl, SqL.of e1, fun fry fly pmy ascy nfl => ?_⟩
        have s2 := s1.trans (u1.trans (up1 (o := HO.lst (fry.map V.int)) nfl))
        refine ⟨fly, fry, _, rfl, ⟨upd_same, fun h => ?_⟩, ascy, ?_, s2⟩
        · obtain ⟨o, ho⟩ := W.al fly h
          have := (s1.trans u1) _ _ ho
          rw [nfl] at this; cases this
        · rw [hsx, ← List.append_assoc]
          exact pmy.trans (pmx.append_right _)
      · have c : ¬ wr[i].e ≤ kn - 3 := fun z => c (decide_eq_true z)
        refine ⟨fl', frx, _, rfl, hfl', ascx, ?_, s1⟩
        rw [upTo_succ hil, if_neg c, List.append_nil]
        exact pmx
    · rintro σ H' ⟨fl', frx, v18', rfl, hfl', ascx, pmx, s1⟩
      rw [hlw, List.take_length, upTo_key hky] at pmx
      have efr : frx = fr := asc_uniq (pmx.trans hpm.symm) ascx asc
      subst efr
      refine ⟨_, rfl, wl, rfl, ⟨_, SqL.of (s1 _ _ LR.w)⟩, fun D hD => lc_list (K := K) (a := wl) (xs := wr.map fun (r : Rw) => V.ref r.p) (fun i H2 => H2 D = some (.lst (((wr.take i).filter fun r => decide (kn - 3 < r.e)).map fun (r : Rw) => V.ref r.p)) ∧ Same H' H2) ⟨upd_same, up1 hD⟩ (fun i H2 _ z => SqL.of (z.2 _ _ (s1 _ _ LR.w))) ?_ ?_⟩
      · rintro i x H2 hi ⟨hD', s2⟩
        obtain ⟨hil, rfl⟩ := rows_get hi
        have rr := LR.r wr[i] (List.getElem_mem hil)
        have s12 := s1.trans s2
        refine ⟨rfl, _, rfl, wr[i].p, _, 0, _, rfl, rfl, SqT.of (s12 _ _ rr.1), at_head, _, rfl, _, _, rfl, rfl, _, _, rfl, rfl, ?_⟩
        refine ⟨_, rfl, ?_⟩
        by_cases c : kn - 3 < wr[i].e
        · rw [decide_eq_true c]
          refine iteT ⟨_, rfl, _, hD', ?_, ?_, fun b o e => by rw [upd_ne (ne_of_none e hD)]; exact s2 b o e⟩
          · rw [List.length_map]
            have := List.length_filter_le (fun r : Rw => decide (kn - 3 < r.e)) (wr.take i)
            rw [List.length_take] at this
            omega
          · rw [upd_same, fil_map hil, if_pos (decide_eq_true c), List.map_append]
            rfl
        · rw [decide_eq_false c]
          refine iteF ⟨?_, s2⟩
          rw [fil_map hil, if_neg (by simpa using c), List.append_nil]
          exact hD'
      · rintro H2 ⟨hD', s2⟩
        rw [hlw, List.take_length] at hD'
        have s12 := s1.trans s2
        have nD : ¬ Zw m A (t + 3 + 50) st fa wa oa (rows1.filter fun r => decide (kn - 3 < r.e)) D := fun h => by
          obtain ⟨o, ho⟩ := W.al D h
          have := s1 _ _ ho
          rw [hD] at this; cases this
        refine r4 De a tp m la st fl' D ms t thr B pl n kn v11 v12 v13 v14 v15 v17 _ v19 H2 A X fa wa oa frx _ (wr.filter fun r => decide (kn - 3 < r.e)) vals (W.same s12) hps hvl hvt asc ⟨s12 _ _ htp.1, htp.2⟩ ⟨s2 _ _ hfl'.1, hfl'.2⟩ ⟨hD', fun r hr => ?_, nD, fun r hr => LR.nr r (List.mem_filter.mp hr).1⟩ (fil_key hky) hn hnr hn8 (fun H3 h => kD _ _ _ _ h)
        have := LR.r r (List.mem_filter.mp hr).1
        exact ⟨s12 _ _ this.1, s12 _ _ this.2⟩
  · have c0 : wr = [] := by
      cases wr with
      | nil => rfl
      | cons r wr => exact absurd (decide_eq_true (by rw [List.map_cons, List.length_cons]; omega)) c
    subst c0
    have r0 : rows1 = [] := List.eq_nil_of_length_eq_zero hwl.symm
    subst r0
    have efr : fr = fr1 := asc_uniq (hpm.trans (by show (fr1 ++ []).Perm fr1; rw [List.append_nil])) asc asc1
    subst efr
    exact r4 De a tp m la st fl wl ms t thr B pl n kn v11 v12 v13 v14 v15 v17 v18 v19 H A X fa wa oa fr _ [] vals W hps hvl hvt asc htp hfl LR rfl hn hnr hn8 (fun H3 h => kD _ _ _ _ h)
end
end Dk

set_option maxHeartbeats 4000000
/-! the law k08: leaving in a turn -/
namespace Dk
open PySem PySem.Spec PyProof.Rows L2
theorem spLvLeave_mono {C S CE gEp gHe : Addr} {vs : List V} {H : Hp} {Q Q' : VK} {E E' : XK} (h : spLvLeave C S CE gEp gHe vs H Q E) (k : ∀ v H, Q v H → Q' v H) : spLvLeave C S CE gEp gHe vs H Q' E' := by
  obtain ⟨a, dx, l, st, sl, la, w, th, left, ep, t, wd, r, thr, fa, wa, oa, fr, out, rows, h1, h2, h3, h4, h5⟩ := h
  refine ⟨a, dx, l, st, sl, la, w, th, left, ep, t, wd, r, thr, fa, wa, oa, fr, out, rows, h1, h2, h3, h4, ?_⟩
  rcases h5 with ⟨c, h⟩ | ⟨c, h⟩
  · exact .inl ⟨c, fun H' q1 q2 l' qm a1 a2 a3 a4 a5 a6 a7 a8 a9 => k _ _ (h H' q1 q2 l' qm a1 a2 a3 a4 a5 a6 a7 a8 a9)⟩
  · exact .inr ⟨c, fun H' q1 l' qm a1 a2 a3 a4 a5 a6 a7 => k _ _ (h H' q1 l' qm a1 a2 a3 a4 a5 a6 a7)⟩
theorem spLvInit_mono {C S CE gSt gEp gHe : Addr} {vs : List V} {H : Hp} {Q Q' : VK} {E E' : XK} (h : spLvInit C S CE gSt gEp gHe vs H Q E) (k : ∀ v H, Q v H → Q' v H) : spLvInit C S CE gSt gEp gHe vs H Q' E' := by
  obtain ⟨a, dx, st, la, t, thr, wd, r, fa, wa, oa, fr, out, rows, h1, h2, h3, h4, h4', h5⟩ := h
  refine ⟨a, dx, st, la, t, thr, wd, r, fa, wa, oa, fr, out, rows, h1, h2, h3, h4, h4', ?_⟩
  rcases h5 with ⟨c, h⟩ | ⟨c, h⟩
  · exact .inl ⟨c, fun H' q l' qm sl a1 a2 a3 a4 a5 a6 a7 a8 a9 a10 => k _ _ (h H' q l' qm sl a1 a2 a3 a4 a5 a6 a7 a8 a9 a10)⟩
  · exact .inr ⟨c, fun H' wv th left l sl a1 a2 a3 a4 a5 a6 => spLvLeave_mono (h H' wv th left l sl a1 a2 a3 a4 a5 a6) k⟩
theorem spEnInit_mono {C S CE g : Addr} {vs : List V} {H : Hp} {Q Q' : VK} {E E' : XK} (h : spEnInit C S CE g vs H Q E) (k : ∀ v H, Q v H → Q' v H) : spEnInit C S CE g vs H Q' E' := by
  obtain ⟨a, dx, st, la, t, w, r, th, fa, wa, oa, fr, out, rows, h1, h2, h3, h4, h5⟩ := h
  exact ⟨a, dx, st, la, t, w, r, th, fa, wa, oa, fr, out, rows, h1, h2, h3, h4, fun H' q l qm a1 a2 a3 a4 a5 a6 a7 => k _ _ (h5 H' q l qm a1 a2 a3 a4 a5 a6 a7)⟩
theorem set_back {vals : List V} {thr : Nat} {x : V} (h : vals[thr]? = some .non) : (vals.set thr x).set thr .non = vals := by
  rw [List.set_set]
  refine List.ext_getElem? fun i => ?_
  rw [List.getElem?_set]
  by_cases c : thr = i
  · subst c
    have hl := (List.getElem?_eq_some_iff.mp h).1
    rw [if_pos rfl, if_pos hl, h]
  · rw [if_neg c]
theorem lvRes_ne {ps : List V} {e : Int} {os : List Nat} {rows : List Rw} (h : rows ≠ []) : lvRes ps e os rows = ((lvR ps e os).1, (lvR ps e os).2 + 2) := if_neg h
theorem upTo_all {k : Int} {rows : List Rw} : (upTo k rows).length ≤ (allC rows).length := by
  have := upTo_split (k := k) rows
  omega
section
variable {P : Program} {w : World} {K : PySem.W.Frag} {mg : Str → Option Value} {base : Heap} {C M S CE CV fac gSl gSw gEp gHe gSt gEn fV : Addr} {fdV : FuncData}
theorem law_t2 {f : Addr} {cdv : Value} {A0 : Around} {outer : List Env} {s : Shared} {Hs : Hp} {E : XK} (hr : Room 19 (A0.deeper (envOfC "law" (defScope sLaw) s.heap.objs.size f cdv))) (B0 : Bn mg) (T : STxt K mg S) (TM : MTxt K M)
    (GPk : MO P w K mg base CX0 M 8 "peek" ["self", "cell"] (spPeek C M)) (GWt : MO P w K mg base CX0 S 1 "waiting" ["self"] (spWait K S)) (GFc : MO P w K mg base CX0 S 1 "free_cells" ["self"] (spFreeC S))
    (GLe : GO P w K mg base CX0 1 "_law_left" ["epoch", "slots", "thread", "waits", "stamped"] (spLeft K)) (GRu : GO P w K mg base CX0 19 "_law_run" ["memory", "machine", "thread"] (spRun P w K mg base 6 C M))
    (gV : mg "Leaving" = some (.ref CV)) (MkV : Mk K CV fV) (FV : FnOk P w K mg base CX0 3 fV fdV ["self", "store"] (spLvInit C S CV gSt gEp gHe)) (bV : Binds K fdV ["self", "store"] []) (LT : LvT P w K mg base C S CV fac gSl gSw gEp gHe gSt) :
    ∃ t2, PSs (cxOf CX0 P w K mg base NLw "law" (defScope sLaw) f cdv A0 outer s Hs E).nox ((loopBody ((defBody sLaw).getD 11 (.Pass ⟨0, 0, 0, 0⟩))).drop 11) t2 ∧
      ∀ (De : Ends) (a tp m la st fl wl sls : Addr) (ms : List Int) (t thr B pl n : Nat) (e : Int) (v11 v13 v15 v16 v17 v18 v19 : Option V) (H : Hp) (A : Adr) (X : MS) (fa wa oa : Addr) (fr out : List Int) (rows wr : List Rw) (vals : List V), thr < t → t ≤ 3 → B < 1000 →
        WSt C M S H m t 3 50 B A X st la (thr : Int) fa wa oa fr out rows → X.ps = .int e :: vals.set thr (.int e) → vals.length = t → vals[thr]? = some .non → VOk vals → Asc fr →
        Ot H (Zw m A (t + 3 + 50) st fa wa oa rows) tp (.lst (ms.map V.int)) → Ot H (Zw m A (t + 3 + 50) st fa wa oa rows) fl (.lst (fr.map V.int)) → Ot H (Zw m A (t + 3 + 50) st fa wa oa rows) sls (.lst vals) →
        LRows H (Zw m A (t + 3 + 50) st fa wa oa rows) wl wr → wr.map key = rows.map key ++ (if out = [] then [] else [(e, out)]) → fr.length + (allC rows).length + out.length ≤ 47 → rows.length ≤ n → n ≤ 7 →
        (∀ (fl' wl' : Addr) (kn : Int) (v17 v18 : Option V) (H' : Hp), LI K C M S H' m st la tp fl' wl' ms t thr (B + 14) (n + 1) kn → De.nx (sl a tp t thr m kn la st fl' wl' pl v11 (some (.ref sls)) v13 (some (.int (out.length : Int))) v15 (some (.int kn)) v17 v18 v19) H') →
        t2 De (sl a tp t thr m e la st fl wl pl v11 (some (.ref sls)) v13 (some (.int (out.length : Int))) v15 v16 v17 v18 v19) H := by
  have nd := scLaw.nd
  have hr1 : Room 1 _ := hr.mono (by decide)
  have hrR : Room 19 _ := hr
  have hrV : Room (3 + 1) _ := hr.mono (by decide)
  have hsl : sizeLine = 16777216 := sizeLine_eq
  obtain ⟨t3, hp3, r3⟩ := law_t3 (C := C) (w := w) (f := f) (cdv := cdv) (A0 := A0) (outer := outer) (s := s) (Hs := Hs) (E := E) hr B0 T TM GPk GWt GFc
  refine ⟨_, (pss_cons (ps_asg (pc_ GLe hr1 (pa_cons (pv 5) (pa_cons (pv 12) (pa_cons (pv 3) (pa_cons (pe_cmpR op_gt (pe_callB call_len_seq (by rfl) T.len PySem.boot_len (pa_cons (pv 9) pa_nil)) pe_int (nomark _)) (pa_cons (pe_cmpR op_gt (pv 14) pe_int (nomark _)) pa_nil)))))) (pg_tup (by rfl) (pgs_cons (pg_name (i := 16) nd rfl (Or.inr rfl)) (pgs_cons (pg_name (i := 17) nd rfl (Or.inl rfl)) pgs_nil))))
  (pss_cons (ps_if (pt_cmpR (op_neD hr.units) (pc_ GRu hrR (pa_cons (pv 4) (pa_cons (pe_make MkV FV hrV rfl gV bV .nil pass0 (pa_cons (pv 7) pa_nil)) (pa_cons (pv 3) pa_nil)))) (pe_tup (pa_cons pe_bl (pa_cons pe_non (pa_cons (pv 17) pa_nil)))) (nomark _))
  (pss_one (ps_ret pe_bl))
  pss_nil)
  hp3)), ?_⟩
  intro De a tp m la st fl wl sls ms t thr B pl n e v11 v13 v15 v16 v17 v18 v19 H A X fa wa oa fr out rows wr vals hth ht3 hB W hps hvl hvt hvo asc htp hfl hsls LR hky hn1 hn2 hn7 kD
  have hlw : (wr.map fun (r : Rw) => V.ref r.p).length = wr.length := List.length_map ..
  have hwl : wr.length = rows.length + (if out = [] then 0 else 1) := by
    have := congrArg List.length hky
    rw [List.length_map, List.length_append, List.length_map] at this
    rw [this]
    split <;> rfl
  have nok : NOk t 3 50 := ⟨by omega, ht3, by decide, by decide, by decide, by decide⟩
  refine ⟨_, rfl, _, rfl, _, rfl, _, rfl, wl, _, rfl, .inl (SqL.of LR.w), _, _, rfl, rfl, _, rfl, _, _, rfl, rfl, sls, e, thr, _, _, vals, rfl, hsls.1, hvo, (by omega), fun H1 p np hp s1 => ?_⟩
  rw [hvl] at hp
  generalize hkn : (if decide ((0 : Int) < ((wr.map fun (r : Rw) => V.ref r.p).length : Int)) = true then (lvR (.int e :: vals) e (osF thr t 0)).1 else e) = kn at hp
  generalize hac : ((1 : Int) + (if decide ((0 : Int) < (out.length : Int)) = true then 1 else 0) + (if decide ((0 : Int) < ((wr.map fun (r : Rw) => V.ref r.p).length : Int)) = true then ((lvR (.int e :: vals) e (osF thr t 0)).2 : Int) + 1 else 0)) = ac at hp
  rw [hlw] at hkn hac
  refine ⟨p, _, rfl, SqT.of hp, rfl, _, _, rfl, _, _, rfl, rfl, ?_⟩
  have W1 := W.same s1
  have htp1 : Ot H1 (Zw m A (t + 3 + 50) st fa wa oa rows) tp (.lst (ms.map V.int)) := ⟨s1 _ _ htp.1, htp.2⟩
  have hfl1 : Ot H1 (Zw m A (t + 3 + 50) st fa wa oa rows) fl (.lst (fr.map V.int)) := ⟨s1 _ _ hfl.1, hfl.2⟩
  have LR1 := LR.mv (Mv.same s1)
  clear hp W hfl htp LR
  have hsb := set_back (x := .int e) hvt
  obtain ⟨QQ, hQQ⟩ : ∃ QQ : VK, QQ = fun x H5 => tTup (tCons (tC (V.bl true)) (tCons (tC V.non) (tCons (tVar 17) tNil))) (sl a tp t thr m e la st fl wl pl v11 (some (.ref sls)) v13 (some (.int (out.length : Int))) v15 (some (.int kn)) (some (.int ac)) v18 v19) H5 fun y H6 => rNeD K x y H6 fun z H7 => ∃ k, z = .bl k ∧ if k = true then tRet (tC (V.bl false)) { nx := fun σ H => t3 De σ H, rt := De.rt, bk := De.bk, ct := De.ct } (sl a tp t thr m e la st fl wl pl v11 (some (.ref sls)) v13 (some (.int (out.length : Int))) v15 (some (.int kn)) (some (.int ac)) v18 v19) H7 else tNext { nx := fun σ H => t3 De σ H, rt := De.rt, bk := De.bk, ct := De.ct } (sl a tp t thr m e la st fl wl pl v11 (some (.ref sls)) v13 (some (.int (out.length : Int))) v15 (some (.int kn)) (some (.int ac)) v18 v19) H7 := ⟨_, rfl⟩
  -- behind the run
  have go : ∀ (q : Addr) (H5 : Hp) (A' : Adr) (X' : MS) (fa' wa' oa' : Addr) (fr' : List Int) (rows1 : List Rw), WSt C M S H5 m t 3 50 (B + 14) A' X' st la (thr : Int) fa' wa' oa' fr' [] (rows1.filter fun r => decide (kn - 3 < r.e)) → fr'.Perm (fr ++ upTo (kn - 3) rows1) → Asc fr' → X'.ps = .int kn :: vals → H5 q = some (.tup [.bl true, .non, .int ac]) → Mv (Zw m A (t + 3 + 50) st fa wa oa rows) H1 (Zw m A' (t + 3 + 50) st fa' wa' oa' (rows1.filter fun r => decide (kn - 3 < r.e))) H5 → wr.map key = rows1.map key → fr.length + (allC rows1).length ≤ 47 → rows1.length ≤ n + 1 →
      QQ (.ref q) H5 := fun q H5 A' X' fa' wa' oa' fr' rows1 W5 pm5 asc5 ps5 hq5 mv5 ky5 n15 n25 => by
    rw [hQQ]
    refine ⟨_, rfl, (by show 3 ≤ sizeLine; decide), fun q2 hq2 => ?_⟩
    have u1 := up1 (o := HO.tup [V.bl true, V.non, V.int ac]) hq2
    have e1 : upd H5 q2 (HO.tup [V.bl true, V.non, V.int ac]) q2 = _ := upd_same
    generalize upd H5 q2 (HO.tup [V.bl true, V.non, V.int ac]) = H6 at u1 e1 ⊢
    refine ⟨.tuple [.bool true, .none, .int ac], .tuple [.bool true, .none, .int ac], .tup (SqT.of (u1 _ _ hq5)) (.cons (.bl _) (.cons .non (.cons (.int _) .nil))), .tup (SqT.of e1) (.cons (.bl _) (.cons .non (.cons (.int _) .nil))), rfl, rfl, _, rfl, iteC (by rw [eqv_sh rfl]; rfl) ?_⟩
    have mv6 := mv5.trans (Mv.same (Z := Zw m A' (t + 3 + 50) st fa' wa' oa' (rows1.filter fun r => decide (kn - 3 < r.e))) u1)
    exact r3 De a tp m la st fl wl ms t thr (B + 14) pl (n + 1) e kn v11 (some (.ref sls)) v13 (some (.int (out.length : Int))) v15 (some (.int ac)) v18 v19 H6 A' X' fa' wa' oa' fr fr' rows1 wr vals hth (W5.same u1) ps5 hvl hvt asc5 pm5 asc (mv6 _ _ htp1.1 htp1.2) (mv6 _ _ hfl1.1 hfl1.2) (LR1.mv mv6) ky5 n15 n25 (by omega) (fun fl' wl' v18 H' h => kD fl' wl' kn _ v18 H' h)
  by_cases co : out = []
  · have hwl0 : wr.length = rows.length := by rw [hwl, if_pos co]; rfl
    have hky0 : wr.map key = rows.map key := by rw [hky, if_pos co, List.append_nil]
    have hn10 : fr.length + (allC rows).length ≤ 47 := by omega
    have uk : upOk fr rows := ⟨by omega, fun k => by have := upTo_all (k := k) (rows := rows); omega⟩
    have W10 : WSt C M S H1 m t 3 50 B A X st la (thr : Int) fa wa oa fr [] rows := co ▸ W1
    have hol : (out.length : Int) = 0 := by rw [co]; rfl
    have ek : (lvRes (.int e :: vals) e (osF thr t 0) rows).1 = kn ∧ ((lvRes (.int e :: vals) e (osF thr t 0) rows).2 : Int) = ac := by
      rw [← hkn, ← hac, hol, hwl0]
      by_cases cr : rows = []
      · rw [cr]
        exact ⟨rfl, rfl⟩
      · have : 0 < rows.length := List.length_pos_iff.mpr cr
        rw [lvRes_ne cr, decide_eq_true (show (0 : Int) < (rows.length : Int) by omega), if_pos rfl, if_pos rfl]
        exact ⟨rfl, by simp; omega⟩
    refine ⟨_, rfl, _, rfl, fun x dx nx ndx ne => spLvInit_mono (run_leave0 (e := e) (vals := vals) (Q := QQ) LT nok hth hB W10 asc uk hps hsb hvo hvl (fun q H5 A' X' fa' wa' fr' W5 pm5 asc5 ps5 hq5 mv5 => ?_) nx ndx ne) (fun v H2 h => ⟨h.1, _, rfl, by rw [hQQ] at h; exact h.2⟩)⟩
    rw [ek.1] at W5 pm5 ps5 mv5
    rw [ek.2] at hq5
    exact go q H5 A' X' fa' wa' oa fr' rows W5 pm5 asc5 ps5 hq5 mv5 hky0 hn10 (by omega)
  · have hol : 0 < out.length := List.length_pos_iff.mpr co
    have hwl1 : wr.length = rows.length + 1 := by rw [hwl, if_neg co]
    have ek : ∀ p' oa' : Addr, (lvRes (.int e :: vals) e (osF thr t 0) (rows ++ [Rw.mk p' oa' e out])).1 = kn ∧ (((lvRes (.int e :: vals) e (osF thr t 0) (rows ++ [Rw.mk p' oa' e out])).2 + 1 : Nat) : Int) = ac := fun p' oa' => by
      rw [lvRes_ne (by simp), ← hkn, ← hac, decide_eq_true (show (0 : Int) < (wr.length : Int) by omega), decide_eq_true (show (0 : Int) < (out.length : Int) by omega), if_pos rfl, if_pos rfl, if_pos rfl]
      exact ⟨rfl, by simp; omega⟩
    have hall : ∀ p' oa' : Addr, (allC (rows ++ [Rw.mk p' oa' e out])).length = (allC rows).length + out.length := fun p' oa' => by
      unfold allC
      rw [List.flatMap_append, List.length_append]
      simp
    refine ⟨_, rfl, _, rfl, fun x dx nx ndx ne => spLvInit_mono (run_leave1 (e := e) (vals := vals) (Q := QQ) LT nok hth hB W1 co asc (by omega) (fun p' oa' => ⟨by rw [List.length_append]; simp; omega, fun k => by have h1 := upTo_all (k := k) (rows := rows ++ [Rw.mk p' oa e out]); rw [hall] at h1; omega⟩) hps hsb hvo hvl (fun p' oa' q H5 A' X' fa' wa' fr' W5 pm5 asc5 ps5 hq5 mv5 => ?_) nx ndx ne) (fun v H2 h => ⟨h.1, _, rfl, by rw [hQQ] at h; exact h.2⟩)⟩
    rw [(ek p' oa).1] at W5 pm5 ps5 mv5
    rw [(ek p' oa).2] at hq5
    exact go q H5 A' X' fa' wa' oa' fr' (rows ++ [Rw.mk p' oa e out]) W5 pm5 asc5 ps5 hq5 mv5 (by rw [hky, if_neg co, List.map_append]; rfl) (by rw [hall]; omega) (by rw [List.length_append]; simp; omega)
end
end Dk

set_option maxHeartbeats 4000000
/-! the law k08: taking, taking out and giving back in a turn -/
namespace Dk
open PySem PySem.Spec PyProof.Rows L2
theorem cutT {ns : List Int} {n : Nat} (h : n ≤ ns.length) : cutV (ns.map V.int) none (some (n : Int)) = (ns.take n).map V.int := by
  unfold cutV
  rw [HT.sIx_none, HT.sIx_nat, List.drop_zero, List.length_map, List.map_take]
  congr 1
  omega
theorem WSt.store {C M S : Addr} {H H' : Hp} {m : Addr} {t w r B : Nat} {A : Adr} {X : MS} {st la : Addr} {thr : Int} {fa wa oa fa' wa' oa' : Addr} {fr out fr' out' : List Int} {rows rows' : List Rw} (W : WSt C M S H m t w r B A X st la thr fa wa oa fr out rows) (R' : StAt S H' st la thr fa' wa' oa' fr' out' rows') (kp : Kept st H H')
    (nw : ∀ b, Ow st fa' wa' oa' rows' b → Ow st fa wa oa rows b ∨ H b = none) : WSt C M S H' m t w r B A X st la thr fa' wa' oa' fr' out' rows' ∧ Mv (Zw m A (t + w + r) st fa wa oa rows) H (Zw m A (t + w + r) st fa' wa' oa' rows') H' ∧ (∀ b, Zw m A (t + w + r) st fa' wa' oa' rows' b → Zw m A (t + w + r) st fa wa oa rows b ∨ H b = none) := by
  have nf : ∀ b, H b = none → ¬ Foot m A (t + w + r) b := fun b h hf => by obtain ⟨u, hu⟩ := foot_some W.DM hf; rw [h] at hu; cases hu
  obtain ⟨ds, hs⟩ := W.R.ob
  obtain ⟨da, hla⟩ := W.DM.lay
  have stf := W.of st (.inl rfl)
  refine ⟨⟨W.DM.on (fun c o h hf => kp c o h fun z => stf (z ▸ hf)) fun o h => kp _ o h (ins_ne hla hs (by show 3 ≠ 5; decide)), W.so, R', fun b hb => (nw b hb).elim (W.of b) (nf b), W.la⟩, fun b o h n => ⟨kp b o h fun z => n (.inr (.inl z)), fun y => ?_⟩, fun b y => ?_⟩
  · rcases y with y | y
    · exact n (.inl y)
    · rcases nw b y with z | z
      · exact n (.inr z)
      · rw [h] at z; cases z
  · rcases y with y | y
    · exact .inl (.inl y)
    · exact (nw b y).imp .inr id
section
variable {P : Program} {w : World} {K : PySem.W.Frag} {mg : Str → Option Value} {base : Heap} {C M S CE CV fac gSl gSw gEp gHe gSt gEn fV : Addr} {fdV : FuncData}
theorem law_t1 {f : Addr} {cdv : Value} {A0 : Around} {outer : List Env} {s : Shared} {Hs : Hp} {E : XK} (hr : Room 19 (A0.deeper (envOfC "law" (defScope sLaw) s.heap.objs.size f cdv))) (B0 : Bn mg) (T : STxt K mg S) (TM : MTxt K M)
    (GPk : MO P w K mg base CX0 M 8 "peek" ["self", "cell"] (spPeek C M)) (GWt : MO P w K mg base CX0 S 1 "waiting" ["self"] (spWait K S)) (GFc : MO P w K mg base CX0 S 1 "free_cells" ["self"] (spFreeC S))
    (GLe : GO P w K mg base CX0 1 "_law_left" ["epoch", "slots", "thread", "waits", "stamped"] (spLeft K)) (GRu : GO P w K mg base CX0 19 "_law_run" ["memory", "machine", "thread"] (spRun P w K mg base 6 C M))
    (gV : mg "Leaving" = some (.ref CV)) (MkV : Mk K CV fV) (FV : FnOk P w K mg base CX0 3 fV fdV ["self", "store"] (spLvInit C S CV gSt gEp gHe)) (bV : Binds K fdV ["self", "store"] []) (LT : LvT P w K mg base C S CV fac gSl gSw gEp gHe gSt)
    (GTk : MO P w K mg base CX0 S 1 "take" ["self", "many"] (spTake S)) (GTo : MO P w K mg base CX0 S 1 "take_out" ["self", "cells"] (spTOut S)) (GGb : MO P w K mg base CX0 S 1 "give_back" ["self", "cells"] (spGiveB S)) :
    ∃ t1, PSs (cxOf CX0 P w K mg base NLw "law" (defScope sLaw) f cdv A0 outer s Hs E).nox ((loopBody ((defBody sLaw).getD 11 (.Pass ⟨0, 0, 0, 0⟩))).drop 5) t1 ∧
      ∀ (De : Ends) (a tp m la st fl wl sls : Addr) (ms : List Int) (t thr B pl n many out : Nat) (e : Int) (v11 v15 v16 v17 v18 v19 : Option V) (H : Hp) (A : Adr) (X : MS) (fa wa oa : Addr) (fr : List Int) (rows wr : List Rw) (vals : List V), thr < t → t ≤ 3 → B < 1000 → many ≤ fr.length → out ≤ many →
        WSt C M S H m t 3 50 B A X st la (thr : Int) fa wa oa fr [] rows → X.ps = .int e :: vals.set thr (.int e) → vals.length = t → vals[thr]? = some .non → VOk vals → Asc fr →
        Ot H (Zw m A (t + 3 + 50) st fa wa oa rows) tp (.lst (ms.map V.int)) → Ot H (Zw m A (t + 3 + 50) st fa wa oa rows) fl (.lst (fr.map V.int)) → Ot H (Zw m A (t + 3 + 50) st fa wa oa rows) sls (.lst vals) →
        LRows H (Zw m A (t + 3 + 50) st fa wa oa rows) wl wr → wr.map key = rows.map key → fr.length + (allC rows).length ≤ 47 → rows.length ≤ n → n ≤ 7 →
        (∀ (fl' wl' : Addr) (kn : Int) (v15 v17 v18 : Option V) (H' : Hp), LI K C M S H' m st la tp fl' wl' ms t thr (B + 14) (n + 1) kn → De.nx (sl a tp t thr m kn la st fl' wl' pl v11 (some (.ref sls)) (some (.int (many : Int))) (some (.int (out : Int))) v15 (some (.int kn)) v17 v18 v19) H') →
        t1 De (sl a tp t thr m e la st fl wl pl v11 (some (.ref sls)) (some (.int (many : Int))) (some (.int (out : Int))) v15 v16 v17 v18 v19) H := by
  have nd := scLaw.nd
  have hr1 : Room 1 _ := hr.mono (by decide)
  have hsl : sizeLine = 16777216 := sizeLine_eq
  obtain ⟨t2, hp2, r2⟩ := law_t2 (C := C) (w := w) (f := f) (cdv := cdv) (A0 := A0) (outer := outer) (s := s) (Hs := Hs) (E := E) hr B0 T TM GPk GWt GFc GLe GRu gV MkV FV bV LT
  refine ⟨_, (pss_cons (ps_set (i := 15) nd rfl (Or.inl rfl) (pm_ GTk T.cl hr1 (pv 7) (pa_cons (pv 13) pa_nil)))
  (pss_cons (ps_if (pt_cmpR (op_neD hr.units) (pv 15) (pe_slice sl_list (pv 8) po_none (po_some (pv 13))) (nomark _))
  (pss_one (ps_ret pe_bl))
  pss_nil)
  (pss_cons (ps_expr (pm_ GTo T.cl hr1 (pv 7) (pa_cons (pe_slice sl_list (pv 15) po_none (po_some (pv 14))) pa_nil)))
  (pss_cons (ps_expr (pm_ GGb T.cl hr1 (pv 7) (pa_cons (pe_slice sl_list (pv 15) (po_some (pv 14)) po_none) pa_nil)))
  (pss_cons (ps_set (i := 8) nd rfl (Or.inl rfl) (pe_callB cr_sortedI (by rfl) T.sorted (by decide +kernel) (pa_cons (pe_op op_cat (pe_slice sl_list (pv 8) (po_some (pv 13)) po_none) (pe_slice sl_list (pv 15) (po_some (pv 14)) po_none)) pa_nil)))
  (pss_cons (ps_if (pt_cmpR op_gt (pv 14) pe_int (nomark _))
  (pss_one (ps_set (i := 9) nd rfl (Or.inl rfl) (pe_op op_cat (pv 9) (pe_lst (pa_cons (pe_tup (pa_cons (pv 5) (pa_cons (pe_slice sl_list (pv 15) po_none (po_some (pv 14))) pa_nil))) pa_nil)))))
  pss_nil)
  hp2)))))), ?_⟩
  intro De a tp m la st fl wl sls ms t thr B pl n many out e v11 v15 v16 v17 v18 v19 H A X fa wa oa fr rows wr vals hth ht3 hB hmf hom W hps hvl hvt hvo asc htp hfl hsls LR hky hn1 hn2 hn7 kD
  obtain ⟨ds, hs⟩ := W.R.ob
  -- take
  refine ⟨_, rfl, st, ds, _, rfl, hs, rfl, _, rfl, st, la, _, fa, wa, oa, fr, [], rows, many, rfl, W.R, by omega, fun h => absurd h (by omega), fun _ H1 p fa1 np nfa p_fa hp R1 kp1 => ?_⟩
  obtain ⟨W1, mv1, nz1⟩ := W.store R1 kp1 (fun b hb => by
    rcases hb with h | h | h | h | h
    · exact .inl (.inl h)
    · exact .inr (h ▸ nfa)
    · exact .inl (.inr (.inr (.inl h)))
    · exact .inl (.inr (.inr (.inr (.inl h))))
    · exact .inl (.inr (.inr (.inr (.inr h)))))
  have pz1 : ¬ Zw m A (t + 3 + 50) st fa1 wa oa rows p := fun y => by
    rcases y with y | y | y | y | y
    · obtain ⟨u, hu⟩ := W.al p (.inl y); rw [np] at hu; cases hu
    · rw [y, hs] at np; cases np
    · exact p_fa y
    · obtain ⟨u, hu⟩ := W.al p (.inr (.inr (.inr (.inl y)))); rw [np] at hu; cases hu
    · obtain ⟨u, hu⟩ := W.al p (.inr (.inr (.inr (.inr y)))); rw [np] at hu; cases hu
  have op1 : Ot H1 (Zw m A (t + 3 + 50) st fa1 wa oa rows) p (.lst ((fr.take many).map V.int)) := ⟨hp, pz1⟩
  have ofl1 := mv1 _ _ hfl.1 hfl.2
  -- cells != free[:many]
  refine ⟨_, rfl, _, rfl, _, rfl, _, rfl, fl, _, rfl, SqL.of ofl1.1, fun q hq => ?_⟩
  rw [cutT hmf]
  have u2 := up1 (o := HO.lst ((fr.take many).map V.int)) hq
  have e2 : upd H1 q (HO.lst ((fr.take many).map V.int)) q = _ := upd_same
  generalize upd H1 q (HO.lst ((fr.take many).map V.int)) = H2 at u2 e2 ⊢
  refine ⟨dInts (fr.take many), dInts (fr.take many), dInts_dp (SqL.of (u2 _ _ hp)), dInts_dp (SqL.of e2), dInts_shaped _, dInts_shaped _, _, rfl, iteC (by rw [eqv_sh (dInts_shaped _)]; rfl) ?_⟩
  have W2 := W1.same u2
  have op2 : Ot H2 (Zw m A (t + 3 + 50) st fa1 wa oa rows) p (.lst ((fr.take many).map V.int)) := ⟨u2 _ _ hp, pz1⟩
  have mv2 := mv1.trans (Mv.same u2)
  clear W1 mv1 u2 e2 op1 ofl1
  have hcl : (fr.take many).length = many := by rw [List.length_take]; omega
  -- take_out
  obtain ⟨ds2, hs2⟩ := W2.R.ob
  refine ⟨_, rfl, st, ds2, _, rfl, hs2, rfl, _, rfl, _, rfl, _, rfl, p, _, rfl, SqL.of op2.1, fun q2 hq2 => ?_⟩
  rw [cutT (by omega)]
  have u3 := up1 (o := HO.lst (((fr.take many).take out).map V.int)) hq2
  have e3 : upd H2 q2 (HO.lst (((fr.take many).take out).map V.int)) q2 = _ := upd_same
  generalize upd H2 q2 (HO.lst (((fr.take many).take out).map V.int)) = H3 at u3 e3 ⊢
  have W3 := W2.same u3
  have op3 := (Mv.same u3) _ _ op2.1 op2.2
  have mv3 := mv2.trans (Mv.same u3)
  clear mv2 W2 op2
  refine ⟨st, la, _, fa1, wa, oa, fr.drop many, [], rows, q2, _, rfl, W3.R, e3, (by rw [List.length_nil, List.length_take]; omega), fun H4 oa4 noa R4 kp4 => ?_⟩
  obtain ⟨W4, mv4, nz4⟩ := W3.store R4 kp4 (fun b hb => by
    rcases hb with h | h | h | h | h
    · exact .inl (.inl h)
    · exact .inl (.inr (.inl h))
    · exact .inl (.inr (.inr (.inl h)))
    · exact .inr (h ▸ noa)
    · exact .inl (.inr (.inr (.inr (.inr h)))))
  have op4 := mv4 _ _ op3.1 op3.2
  have mv14 := mv3.trans mv4
  clear mv3 mv4 W3 op3
  -- give_back
  obtain ⟨ds4, hs4⟩ := W4.R.ob
  refine ⟨_, rfl, st, ds4, _, rfl, hs4, rfl, _, rfl, _, rfl, _, rfl, p, _, rfl, SqL.of op4.1, fun q5 hq5 => ?_⟩
  rw [cut_from (by omega)]
  have u5 := up1 (o := HO.lst (((fr.take many).drop out).map V.int)) hq5
  have e5 : upd H4 q5 (HO.lst (((fr.take many).drop out).map V.int)) q5 = _ := upd_same
  generalize upd H4 q5 (HO.lst (((fr.take many).drop out).map V.int)) = H5 at u5 e5 ⊢
  have W5 := W4.same u5
  have op5 := (Mv.same u5) _ _ op4.1 op4.2
  have mv5 := mv14.trans (Mv.same u5)
  clear mv14 W4 op4
  refine ⟨st, la, _, fa1, wa, oa4, fr.drop many, _, rows, q5, _, rfl, W5.R, e5, (by rw [List.length_drop, List.length_drop, List.length_take]; omega), fun H6 fa6 fr6 pm6 asc6 nfa6 R6 kp6 => ?_⟩
  obtain ⟨W6, mv6, nz6⟩ := W5.store R6 kp6 (fun b hb => by
    rcases hb with h | h | h | h | h
    · exact .inl (.inl h)
    · exact .inr (h ▸ nfa6)
    · exact .inl (.inr (.inr (.inl h)))
    · exact .inl (.inr (.inr (.inr (.inl h))))
    · exact .inl (.inr (.inr (.inr (.inr h)))))
  have op6 := mv6 _ _ op5.1 op5.2
  have mv16 := mv5.trans mv6
  clear mv5 mv6 W5 op5
  -- free
  have ofl6 := mv16 _ _ hfl.1 hfl.2
  refine ⟨_, rfl, _, rfl, _, rfl, fl, _, rfl, SqL.of ofl6.1, fun q7 hq7 => ?_⟩
  rw [cut_from hmf]
  have u7 := up1 (o := HO.lst ((fr.drop many).map V.int)) hq7
  have e7 : upd H6 q7 (HO.lst ((fr.drop many).map V.int)) q7 = _ := upd_same
  generalize upd H6 q7 (HO.lst ((fr.drop many).map V.int)) = H7 at u7 e7 ⊢
  refine ⟨_, rfl, _, rfl, _, rfl, p, _, rfl, SqL.of (u7 _ _ op6.1), fun q8 hq8 => ?_⟩
  rw [cut_from (by omega)]
  have u8 := up1 (o := HO.lst (((fr.take many).drop out).map V.int)) hq8
  have e8 : upd H7 q8 (HO.lst (((fr.take many).drop out).map V.int)) q8 = _ := upd_same
  generalize upd H7 q8 (HO.lst (((fr.take many).drop out).map V.int)) = H8 at u8 e8 ⊢
  refine ⟨q7, q8, _, _, rfl, rfl, u8 _ _ e7, e8, (by rw [List.length_map, List.length_map, List.length_drop, List.length_drop, List.length_take]; omega), fun q9 hq9 => ?_⟩
  rw [← List.map_append]
  have u9 := up1 (o := HO.lst ((fr.drop many ++ (fr.take many).drop out).map V.int)) hq9
  have e9 : upd H8 q9 (HO.lst ((fr.drop many ++ (fr.take many).drop out).map V.int)) q9 = _ := upd_same
  generalize upd H8 q9 (HO.lst ((fr.drop many ++ (fr.take many).drop out).map V.int)) = H9 at u9 e9 ⊢
  refine ⟨q9, _, rfl, SqL.of e9, fun fr10 fl10 pm10 asc10 nfl => ?_⟩
  have efr : fr10 = fr6 := asc_uniq (pm10.trans pm6.symm) asc10 asc6
  subst efr
  have u10 := up1 (o := HO.lst (fr10.map V.int)) nfl
  have e10 : upd H9 fl10 (HO.lst (fr10.map V.int)) fl10 = _ := upd_same
  generalize upd H9 fl10 (HO.lst (fr10.map V.int)) = H10 at u10 e10 ⊢
  have u610 := u7.trans (u8.trans (u9.trans u10))
  have W10 := W6.same u610
  have mv10 := mv16.trans (Mv.same u610)
  have n610 := (u7.trans (u8.trans u9)).free nfl
  have zfl : ¬ Zw m A (t + 3 + 50) st fa6 wa oa4 rows fl10 := fun y => by obtain ⟨u, hu⟩ := W6.al _ y; rw [n610] at hu; cases hu
  have hl6 := pm6.length_eq
  rw [List.length_append, List.length_drop, List.length_drop, List.length_take] at hl6
  have op10 := (Mv.same u610) _ _ op6.1 op6.2
  have LR10 := LR.mv mv10
  have otp := mv10 _ _ htp.1 htp.2
  have osl := mv10 _ _ hsls.1 hsls.2
  have hol : ([] ++ (fr.take many).take out).length = out := by rw [List.nil_append, List.length_take]; omega
  clear u7 u8 u9 u10 u610 mv16 W6 LR htp hsls mv10
  -- waiting
  refine ⟨_, rfl, _, _, rfl, rfl, _, rfl, ite2 (fun c => ?_) (fun c => ?_)⟩
  · have c := of_decide_eq_true c
    refine ⟨_, rfl, _, rfl, _, rfl, _, rfl, _, rfl, p, _, rfl, SqL.of op10.1, fun qa hqa => ?_⟩
    rw [cutT (by omega)]
    have ua := up1 (o := HO.lst (((fr.take many).take out).map V.int)) hqa
    have ea : upd H10 qa (HO.lst (((fr.take many).take out).map V.int)) qa = _ := upd_same
    generalize upd H10 qa (HO.lst (((fr.take many).take out).map V.int)) = Ha at ua ea ⊢
    refine ⟨(by show 2 ≤ sizeLine; decide), fun qb hqb => ?_⟩
    have ub := up1 (o := HO.tup [V.int e, V.ref qa]) hqb
    have eb : upd Ha qb (HO.tup [V.int e, V.ref qa]) qb = _ := upd_same
    generalize upd Ha qb (HO.tup [V.int e, V.ref qa]) = Hb at ub eb ⊢
    refine ⟨(by show 1 ≤ sizeLine; decide), fun qc hqc => ?_⟩
    have uc := up1 (o := HO.lst [V.ref qb]) hqc
    have ec : upd Hb qc (HO.lst [V.ref qb]) qc = _ := upd_same
    generalize upd Hb qc (HO.lst [V.ref qb]) = Hc at uc ec ⊢
    have u1c := ua.trans (ub.trans uc)
    have hwl : wr.length = rows.length := by
      have := congrArg List.length hky
      rwa [List.length_map, List.length_map] at this
    refine ⟨wl, qc, _, _, rfl, rfl, u1c _ _ LR10.w, ec, (by rw [List.length_map, List.length_singleton]; omega), fun qd hqd => ?_⟩
    have ud := up1 (o := HO.lst ((wr.map fun (r : Rw) => V.ref r.p) ++ [V.ref qb])) hqd
    have ed : upd Hc qd (HO.lst ((wr.map fun (r : Rw) => V.ref r.p) ++ [V.ref qb])) qd = _ := upd_same
    generalize upd Hc qd (HO.lst ((wr.map fun (r : Rw) => V.ref r.p) ++ [V.ref qb])) = Hd at ud ed ⊢
    have u1d := u1c.trans ud
    have nz : ∀ b, H10 b = none → ¬ Zw m A (t + 3 + 50) st fa6 wa oa4 rows b := fun b h y => by obtain ⟨u, hu⟩ := W10.al _ y; rw [h] at hu; cases hu
    have LRd : LRows Hd (Zw m A (t + 3 + 50) st fa6 wa oa4 rows) qd (wr ++ [Rw.mk qb qa e ((fr.take many).take out)]) := by
      have L := LR10.mv (Mv.same u1d)
      refine ⟨by rw [ed, List.map_append]; rfl, fun r hr => ?_, nz _ (u1c.free hqd), fun r hr => ?_⟩
      · rcases List.mem_append.mp hr with h | h
        · exact L.r r h
        · rw [List.mem_singleton.mp h]
          exact ⟨(uc.trans ud) _ _ eb, (ub.trans (uc.trans ud)) _ _ ea⟩
      · rcases List.mem_append.mp hr with h | h
        · exact L.nr r h
        · rw [List.mem_singleton.mp h]
          exact ⟨nz _ (ua.free hqb), nz _ hqa⟩
    have r := r2 De a tp m la st fl10 qd sls ms t thr B pl n e v11 (some (.int (many : Int))) (some (.ref p)) v16 v17 v18 v19 Hd A X fa6 wa oa4 fr10 ([] ++ (fr.take many).take out) rows (wr ++ [Rw.mk qb qa e ((fr.take many).take out)]) vals hth ht3 hB (W10.same u1d) hps hvl hvt hvo asc6 ⟨u1d _ _ otp.1, otp.2⟩ ⟨u1d _ _ e10, zfl⟩ ⟨u1d _ _ osl.1, osl.2⟩ LRd ?_ (by rw [hol]; omega) hn2 hn7
    · rw [hol] at r
      exact r fun fl' wl' kn v17 v18 H' h => kD fl' wl' kn _ v17 v18 H' h
    · rw [if_neg (by intro z; have z := congrArg List.length z; rw [hol] at z; rw [List.length_nil] at z; omega), List.map_append, hky]
      rfl
  · have c : out = 0 := by
      have : ¬ (0 : Int) < (out : Int) := fun z => c (decide_eq_true z)
      omega
    have r := r2 De a tp m la st fl10 wl sls ms t thr B pl n e v11 (some (.int (many : Int))) (some (.ref p)) v16 v17 v18 v19 H10 A X fa6 wa oa4 fr10 ([] ++ (fr.take many).take out) rows wr vals hth ht3 hB W10 hps hvl hvt hvo asc6 otp ⟨e10, zfl⟩ osl LR10 (by rw [if_pos (by rw [c]; rfl), List.append_nil]; exact hky) (by rw [hol]; omega) hn2 hn7
    rw [hol] at r
    exact r fun fl' wl' kn v17 v18 H' h => kD fl' wl' kn _ v17 v18 H' h
end
end Dk

set_option maxHeartbeats 4000000
/-! the law k08 -/
namespace Dk
open PySem PySem.Spec PyProof.Rows L2
theorem WSt.step {C M S : Addr} {H H' : Hp} {m : Addr} {t w r B B' : Nat} {A A' : Adr} {X X' : MS} {st la : Addr} {thr : Int} {fa wa oa : Addr} {fr out : List Int} {rows : List Rw} (W : WSt C M S H m t w r B A X st la thr fa wa oa fr out rows) (ea : A'.a = A.a) (D' : MemAt C M H' m t w r A' X') (so' : SOk X' t (t + w + r) B') (s : Step m (t + w + r) A H A' H') :
    WSt C M S H' m t w r B' A' X' st la thr fa wa oa fr out rows ∧ Mv (Zw m A (t + w + r) st fa wa oa rows) H (Zw m A' (t + w + r) st fa wa oa rows) H' := by
  refine ⟨⟨D', so', W.R.on fun b o hb h => (s.out h (W.of b hb)).1, fun b hb => ?_, ea.trans W.la⟩, fun b o h n => ?_⟩
  · obtain ⟨u, hu⟩ := ow_some W.R b hb
    exact (s.out hu (W.of b hb)).2
  · obtain ⟨h1, h2⟩ := s.out h (fun z => n (.inl z))
    exact ⟨h1, fun y => y.elim h2 fun z => n (.inr z)⟩
section
variable {P : Program} {w : World} {K : PySem.W.Frag} {mg : Str → Option Value} {base : Heap} {C M S CE CV fac gSl gSw gEp gHe gSt gEn fV fE facE : Addr} {fdV fdE : FuncData}
theorem law_t0 {f : Addr} {cdv : Value} {A0 : Around} {outer : List Env} {s : Shared} {Hs : Hp} {E : XK} (hr : Room 19 (A0.deeper (envOfC "law" (defScope sLaw) s.heap.objs.size f cdv))) (B0 : Bn mg) (T : STxt K mg S) (TM : MTxt K M) (zn : mg "min" = none)
    (GPk : MO P w K mg base CX0 M 8 "peek" ["self", "cell"] (spPeek C M)) (GWt : MO P w K mg base CX0 S 1 "waiting" ["self"] (spWait K S)) (GFc : MO P w K mg base CX0 S 1 "free_cells" ["self"] (spFreeC S))
    (GLe : GO P w K mg base CX0 1 "_law_left" ["epoch", "slots", "thread", "waits", "stamped"] (spLeft K)) (GRu : GO P w K mg base CX0 19 "_law_run" ["memory", "machine", "thread"] (spRun P w K mg base 6 C M))
    (gV : mg "Leaving" = some (.ref CV)) (MkV : Mk K CV fV) (FV : FnOk P w K mg base CX0 3 fV fdV ["self", "store"] (spLvInit C S CV gSt gEp gHe)) (bV : Binds K fdV ["self", "store"] []) (LT : LvT P w K mg base C S CV fac gSl gSw gEp gHe gSt)
    (GTk : MO P w K mg base CX0 S 1 "take" ["self", "many"] (spTake S)) (GTo : MO P w K mg base CX0 S 1 "take_out" ["self", "cells"] (spTOut S)) (GGb : MO P w K mg base CX0 S 1 "give_back" ["self", "cells"] (spGiveB S))
    (gE : mg "Entering" = some (.ref CE)) (MkE : Mk K CE fE) (FE : FnOk P w K mg base CX0 2 fE fdE ["self", "store"] (spEnInit C S CE gEn)) (bE : Binds K fdE ["self", "store"] []) (mcE : MCl P w K mg base CE facE) (fiE : PySem.W.fnIn K gEn = true) (FTE : FnR P w K mg base CX0 4 gEn (spEnTake CE gEn))
    (GAt : GO P w K mg base CX0 1 "_law_at" ["tape", "k"] (spAt K)) (GSl : GO P w K mg base CX0 12 "_law_slots" ["memory", "tape", "place", "thread", "epoch", "threads"] (spSlots K C M)) :
    ∃ t0, PSs (cxOf CX0 P w K mg base NLw "law" (defScope sLaw) f cdv A0 outer s Hs E).nox (loopBody ((defBody sLaw).getD 11 (.Pass ⟨0, 0, 0, 0⟩))) t0 ∧
      ∀ (De : Ends) (a tp m la st fl wl : Addr) (ms : List Int) (t thr B pl n : Nat) (e : Int) (v11 v12 v13 v14 v15 v16 v17 v18 v19 : Option V) (H : Hp), thr < t → t ≤ 3 → B < 900 → n ≤ 7 → Small ms →
        LI K C M S H m st la tp fl wl ms t thr B n e →
        (∀ (fl' wl' : Addr) (kn : Int) (v12 v13 v14 v15 v16 v17 v18 : Option V) (H' : Hp), LI K C M S H' m st la tp fl' wl' ms t thr (B + 26) (n + 1) kn → De.nx (sl a tp t thr m kn la st fl' wl' (pl + 6) v11 v12 v13 v14 v15 v16 v17 v18 v19) H') →
        t0 De (sl a tp t thr m e la st fl wl pl v11 v12 v13 v14 v15 v16 v17 v18 v19) H := by
  have nd := scLaw.nd
  have hr1 : Room 1 _ := hr.mono (by decide)
  have hr8 : Room 8 _ := hr.mono (by decide)
  have hrSl : Room 12 _ := hr.mono (by decide)
  have hrR : Room 19 _ := hr
  have hrE : Room (2 + 1) _ := hr.mono (by decide)
  have hsl : sizeLine = 16777216 := sizeLine_eq
  obtain ⟨t1, hp1, r1⟩ := law_t1 (C := C) (w := w) (f := f) (cdv := cdv) (A0 := A0) (outer := outer) (s := s) (Hs := Hs) (E := E) hr B0 T TM GPk GWt GFc GLe GRu gV MkV FV bV LT GTk GTo GGb
  refine ⟨_, (pss_cons (ps_set (i := 12) nd rfl (Or.inl rfl) (pc_ GSl hrSl (pa_cons (pv 4) (pa_cons (pv 1) (pa_cons (pv 10) (pa_cons (pv 3) (pa_cons (pv 5) (pa_cons (pv 2) pa_nil))))))))
  (pss_cons (ps_if (PW.pt (pw_or (pt_cmpR (op_neD hr.units) (pc_ GRu hrR (pa_cons (pv 4) (pa_cons (pe_make MkE FE hrE rfl gE bE .nil pass0 (pa_cons (pv 7) pa_nil)) (pa_cons (pv 3) pa_nil)))) (pe_tup (pa_cons pe_bl (pa_cons (pv 5) (pa_cons pe_int pa_nil)))) (nomark _)) (pw_or1 (pt_cmpR op_ne (pm_ GPk TM.cl hr8 (pv 4) (pa_cons (pe_op op_add pe_int (pv 3)) pa_nil)) (pv 5) (nomark _)))))
  (pss_one (ps_ret pe_bl))
  pss_nil)
  (pss_cons (ps_set (i := 13) nd rfl (Or.inl rfl) (pe_callB (call_min2 rfl) (by rfl) zn (by decide +kernel) (pa_cons (pe_op op_mod (pc_ GAt hr1 (pa_cons (pv 1) (pa_cons (pe_op op_add (pv 10) pe_int) pa_nil))) pe_int) (pa_cons (pe_callB call_len_seq (by rfl) T.len PySem.boot_len (pa_cons (pv 8) pa_nil)) pa_nil))))
  (pss_cons (ps_set (i := 14) nd rfl (Or.inl rfl) (pe_callB (call_min2 rfl) (by rfl) zn (by decide +kernel) (pa_cons (pv 13) (pa_cons (pe_op op_mod (pc_ GAt hr1 (pa_cons (pv 1) (pa_cons (pe_op op_add (pv 10) pe_int) pa_nil))) pe_int) pa_nil))))
  (pss_cons (ps_set (i := 10) nd rfl (Or.inl rfl) (pe_op op_add (pv 10) pe_int))
  hp1))))), ?_⟩
  intro De a tp m la st fl wl ms t thr B pl n e v11 v12 v13 v14 v15 v16 v17 v18 v19 H hth ht3 hB hn7 sm ⟨A, X, fa, wa, oa, fr, rows, wr, vals, W, hps, hvl, hvt, asc, htp, hfl, LR, hky, hn1, hn2⟩ kD
  have nok : NOk t 3 50 := ⟨by omega, ht3, by decide, by decide, by decide, by decide⟩
  -- slots
  refine ⟨_, rfl, _, rfl, _, rfl, _, rfl, _, rfl, _, rfl, m, tp, ms, pl, thr, t, 3, 50, B, e, A, X, vals, rfl, htp.1, (fun z => htp.2 (.inl z)), sm, nok, W.DM, W.so, by omega, hps, hvl, hvt, hth, fun H1 A1 X1 p vs np ea1 D1 so1 ps1 vl1 vt1 vo1 hp1 fp1 st1 => ?_⟩
  obtain ⟨W1, mv1⟩ := W.step ea1 D1 so1 st1
  have otp1 := mv1 _ _ htp.1 htp.2
  have ofl1 := mv1 _ _ hfl.1 hfl.2
  have LR1 := LR.mv mv1
  have op1 : Ot H1 (Zw m A1 (t + 3 + 50) st fa wa oa rows) p (.lst vs) := ⟨hp1, fun y => by
    rcases y with y | y
    · exact fp1 y
    · obtain ⟨u, hu⟩ := ow_some W.R p y
      rw [np] at hu; cases hu⟩
  clear W D1 so1 st1 mv1 htp hfl LR hps hvl hvt
  refine' ⟨_, rfl, _, rfl, fun x dx nx ndx ne => spEnInit_mono (run_enter (e := e) mcE fiE FTE nok hth (by omega) W1 ps1 ?k nx ndx ne) (fun v H2 h => ⟨h.1, _, rfl, ?h⟩)⟩
  case h =>
    dsimp only [tNil]
    exact h.2
  case k =>
    intro q H3 A3 X3 W3 ps3 hq3 mv3
    refine ⟨_, rfl, (by show 3 ≤ sizeLine; decide), fun q2 hq2 => ?_⟩
    have u1 := up1 (o := HO.tup [V.bl true, V.int e, V.int 3]) hq2
    have e1 : upd H3 q2 (HO.tup [V.bl true, V.int e, V.int 3]) q2 = _ := upd_same
    generalize upd H3 q2 (HO.tup [V.bl true, V.int e, V.int 3]) = H4 at u1 e1 ⊢
    refine ⟨.tuple [.bool true, .int e, .int 3], .tuple [.bool true, .int e, .int 3], .tup (SqT.of (u1 _ _ hq3)) (.cons (.bl _) (.cons (.int _) (.cons (.int _) .nil))), .tup (SqT.of e1) (.cons (.bl _) (.cons (.int _) (.cons (.int _) .nil))), rfl, rfl, _, rfl, iteC (by rw [eqv_sh rfl]; rfl) ?_⟩
    have W4 := W3.same u1
    have mv4 : Mv _ H1 (Zw m A3 (t + 3 + 50) st fa wa oa rows) H4 := Mv.trans (Z1 := Zw m A3 (t + 3 + 50) st fa wa oa rows) mv3 (Mv.same u1)
    have otp4 := mv4 _ _ otp1.1 otp1.2
    have ofl4 := mv4 _ _ ofl1.1 ofl1.2
    have osl4 := mv4 _ _ op1.1 op1.2
    have LR4 := LR1.mv mv4
    clear W3 mv3 mv4 u1 e1 hq3
    have hvs : (vs.set thr (V.int e))[thr]? = some (.int e) := by
      rw [List.getElem?_set, if_pos rfl, if_pos (by omega)]
    obtain ⟨dm, hm⟩ := W4.DM.ob
    refine ⟨_, rfl, m, dm, _, rfl, hm, rfl, _, rfl, _, _, rfl, rfl, m, t, 3, 50, 1 + thr, A3, X3, .int e, (by rw [show ((1 + thr : Nat) : Int) = 1 + (thr : Int) by omega]; rfl), W4.DM, by omega, (by rw [cellV_s ps3 hth]; exact hvs), _, rfl, rfl, _, rfl, iteNS rfl ?_⟩
    -- many, out
    obtain ⟨many, hm1, hm2⟩ : ∃ many : Nat, (if ((fr.map V.int).length : Int) < atD ms (pl + 4) % 4 then ((fr.map V.int).length : Int) else atD ms (pl + 4) % 4) = (many : Int) ∧ many ≤ fr.length := by
      refine ⟨(if ((fr.map V.int).length : Int) < atD ms (pl + 4) % 4 then ((fr.map V.int).length : Int) else atD ms (pl + 4) % 4).toNat, ?_, ?_⟩
      · rw [List.length_map]
        split <;> omega
      · rw [List.length_map]
        split <;> omega
    refine ⟨_, rfl, _, rfl, _, _, rfl, rfl, tp, ms, pl + 4, rfl, SqL.of otp4.1, _, _, rfl, rfl, (by show (0 : Int) < 4; decide), _, rfl, fl, _, rfl, .inl (SqL.of ofl4.1), _, _, rfl, ?_⟩
    rw [hm1]
    obtain ⟨out, ho1, ho2⟩ : ∃ out : Nat, (if atD ms (pl + 5) % 4 < (many : Int) then atD ms (pl + 5) % 4 else (many : Int)) = (out : Int) ∧ out ≤ many := by
      refine ⟨(if atD ms (pl + 5) % 4 < (many : Int) then atD ms (pl + 5) % 4 else (many : Int)).toNat, ?_, ?_⟩
      · split <;> omega
      · split <;> omega
    refine ⟨_, rfl, _, rfl, _, rfl, _, _, rfl, rfl, tp, ms, pl + 5, rfl, SqL.of otp4.1, _, _, rfl, rfl, (by show (0 : Int) < 4; decide), _, _, rfl, ?_⟩
    rw [ho1]
    refine ⟨_, rfl, _, _, rfl, rfl, ?_⟩
    exact r1 De a tp m la st fl wl p ms t thr (B + 6 + 2 + 2 + 2) (pl + 6) n many out e v11 v15 v16 v17 v18 v19 H4 A3 X3 fa wa oa fr rows wr vs hth ht3 (by omega) hm2 ho2 W4 ps3 vl1 vt1 vo1 asc otp4 ofl4 osl4 LR4 hky hn1 hn2 hn7 (fun fl' wl' kn v15 v17 v18 H' h => kD fl' wl' kn _ _ _ _ _ _ _ H' h)
end
end Dk

set_option maxHeartbeats 4000000
/-! the law k08 -/
namespace Dk
open PySem PySem.Spec PyProof.Rows L2
def spLaw (K : PySem.W.Frag) : Sp := fun vs H Q _ => ∃ (a : Addr) (ns : List Int), vs = [.ref a] ∧ SqL K H a (ns.map V.int) ∧ ns.length ≤ 63 ∧ ∀ H', Q (.bl true) H'
theorem so0 {t n : Nat} {tr : Nat → List V} (hI : ∀ j, j < n → ∃ v, tr j = [v]) : SOk (S0 t tr) t n 0 := by
  refine ⟨?_, fun j hj => ?_, fun j hj => ?_, fun th hth => ⟨[], ?_, ?_, ?_⟩, ?_⟩
  · show (V.int 0 :: List.replicate t V.non).length = 1 + t
    rw [List.length_cons, List.length_replicate]
    omega
  · obtain ⟨v, hv⟩ := hI j hj
    show tr j ≠ []
    rw [hv]; simp
  · obtain ⟨v, hv⟩ := hI j hj
    show (tr j).length ≤ 1
    rw [hv]; simp
  · show (List.replicate t ([] : List (Key × V)))[th]? = _
    rw [List.getElem?_replicate, if_pos hth]
    rfl
  · simp
  · simp
  · show ([] : List V).length ≤ 0
    simp
section
variable {P : Program} {w : World} {K : PySem.W.Frag} {mg : Str → Option Value} {base : Heap} {C M S NV Z CE CV fac gSl gSw gEp gHe gSt gEn fV fE facE fL fM fSt : Addr} {fdV fdE fdL fdM fdSt : FuncData}
theorem ok_law {f : Addr} {fd : FuncData} (F : Fun K "law" "law" sLaw f fd) (B0 : Bn mg) (TL : LTxt K mg C) (T : STxt K mg S) (TM : MTxt K M) (zn : mg "min" = none)
    (gC : mg "Layout" = some (.ref C)) (ML : Mk K C fL) (FL : FnOk P w K mg base (L2.CX P w) 3 fL fdL ["self", "threads", "words", "records"] (spLInit C NV)) (bL : Binds K fdL ["self", "threads", "words", "records"] [])
    (gM : mg "Memory" = some (.ref M)) (MM : Mk K M fM) (FM : FnOk P w K mg base CX0 7 fM fdM ["self", "layout"] (spMInit C M Z)) (bM : Binds K fdM ["self", "layout"] [])
    (gS : mg "Store" = some (.ref S)) (MSt : Mk K S fSt) (FSt : FnOk P w K mg base CX0 1 fSt fdSt ["self", "layout", "thread", "cells"] (spSInit S)) (bSt : Binds K fdSt ["self", "layout", "thread", "cells"] [])
    (GPk : MO P w K mg base CX0 M 8 "peek" ["self", "cell"] (spPeek C M)) (GWt : MO P w K mg base CX0 S 1 "waiting" ["self"] (spWait K S)) (GFc : MO P w K mg base CX0 S 1 "free_cells" ["self"] (spFreeC S))
    (GLe : GO P w K mg base CX0 1 "_law_left" ["epoch", "slots", "thread", "waits", "stamped"] (spLeft K)) (GRu : GO P w K mg base CX0 19 "_law_run" ["memory", "machine", "thread"] (spRun P w K mg base 6 C M))
    (gV : mg "Leaving" = some (.ref CV)) (MkV : Mk K CV fV) (FV : FnOk P w K mg base CX0 3 fV fdV ["self", "store"] (spLvInit C S CV gSt gEp gHe)) (bV : Binds K fdV ["self", "store"] []) (LT : LvT P w K mg base C S CV fac gSl gSw gEp gHe gSt)
    (GTk : MO P w K mg base CX0 S 1 "take" ["self", "many"] (spTake S)) (GTo : MO P w K mg base CX0 S 1 "take_out" ["self", "cells"] (spTOut S)) (GGb : MO P w K mg base CX0 S 1 "give_back" ["self", "cells"] (spGiveB S))
    (gE : mg "Entering" = some (.ref CE)) (MkE : Mk K CE fE) (FE : FnOk P w K mg base CX0 2 fE fdE ["self", "store"] (spEnInit C S CE gEn)) (bE : Binds K fdE ["self", "store"] []) (mcE : MCl P w K mg base CE facE) (fiE : PySem.W.fnIn K gEn = true) (FTE : FnR P w K mg base CX0 4 gEn (spEnTake CE gEn))
    (GTp : GO P w K mg base CX0 1 "_law_tape" ["script"] (spTape K)) (GAt : GO P w K mg base CX0 1 "_law_at" ["tape", "k"] (spAt K)) (GSl : GO P w K mg base CX0 12 "_law_slots" ["memory", "tape", "place", "thread", "epoch", "threads"] (spSlots K C M))
    (GAc : MO P w K mg base CX0 M 11 "access" ["self", "thread", "request"] (spAccess K C M)) (GRec : MO P w K mg base CX0 C 4 "record" ["self", "index"] (spL1 C fun t w _ i => .int (rec0 t w + i))) (GDv : GO P w K mg base CX0 5 "divided" ["layout", "cells", "thread"] (spDivided C)) : FnOk P w K mg base CX0 20 f fd ["script"] (spLaw K) := by
  refine F.ok scLaw (fun vs H Q E h => ?_) (fun cdv A0 outer s H vs Q E hr h => ?_)
  · obtain ⟨a, ns, rfl, _⟩ := h
    rfl
  · obtain ⟨a, ns, rfl, hS, hlen, kQ⟩ := h
    have nd := scLaw.nd
    have hr1 : Room 1 _ := hr.mono (by decide)
    have hr4 : Room 4 _ := hr.mono (by decide)
    have hr5 : Room 5 _ := hr.mono (by decide)
    have hrL : Room (3 + 1) _ := hr.mono (by decide)
    have hrMm : Room (7 + 1) _ := hr.mono (by decide)
    have hrM : Room 11 _ := hr.mono (by decide)
    have hrS1 : Room (1 + 1) _ := hr.mono (by decide)
    have hsl : sizeLine = 16777216 := sizeLine_eq
    obtain ⟨t0, hp0, r0⟩ := law_t0 (C := C) (w := w) (f := f) (cdv := cdv) (A0 := A0) (outer := outer) (s := s) (Hs := H) (E := E) hr B0 T TM zn GPk GWt GFc GLe GRu gV MkV FV bV LT GTk GTo GGb gE MkE FE bE mcE fiE FTE GAt GSl
    have hloop : PSs (cxOf CX0 P w K mg base NLw "law" (defScope sLaw) f cdv A0 outer s H E).nox ((defBody sLaw).drop 11) _ := pss_cons (ps_for PassesOwn.never rfl (pi_range1 (by rfl) B0.range (pa_cons (pe_callB (call_min2 rfl) (by rfl) zn (by decide +kernel) (pa_cons pe_int (pa_cons (pe_op op_add pe_int (pe_op op_fdiv (pe_callB call_len_seq (by rfl) T.len PySem.boot_len (pa_cons (pv 1) pa_nil)) pe_int)) pa_nil))) pa_nil)) (pg_name (i := 11) nd rfl (Or.inl rfl)) hp0) (pss_one (ps_ret pe_bl))
    refine ⟨_, (pss_cons (ps_set (i := 1) nd rfl (Or.inl rfl) (pc_ GTp hr1 (pa_cons (pv 0) pa_nil)))
  (pss_cons (ps_set (i := 2) nd rfl (Or.inl rfl) (pe_op op_add pe_int (pe_op op_mod (pc_ GAt hr1 (pa_cons (pv 1) (pa_cons pe_int pa_nil))) pe_int)))
  (pss_cons (ps_set (i := 3) nd rfl (Or.inl rfl) (pe_op op_modN (pc_ GAt hr1 (pa_cons (pv 1) (pa_cons pe_int pa_nil))) (pv 2)))
  (pss_cons (ps_set (i := 4) nd rfl (Or.inl rfl) (pe_make MM FM hrMm rfl gM bM .nil pass0 (pa_cons (pe_make ML FL hrL rfl gC bL .nil passL (pa_cons (pv 2) (pa_cons pe_int (pa_cons pe_int pa_nil)))) pa_nil)))
  (pss_cons (ps_set (i := 5) nd rfl (Or.inl rfl) (pe_op op_mod (pc_ GAt hr1 (pa_cons (pv 1) (pa_cons pe_int pa_nil))) pe_int))
  (pss_cons (ps_expr (pm_ GAc TM.cl hrM (pv 4) (pa_cons pe_int (pa_cons (pe_tup (pa_cons pe_str (pa_cons pe_int (pa_cons (pv 5) pa_nil)))) pa_nil))))
  (pss_cons (ps_set (i := 6) nd rfl (Or.inr rfl) (pe_fld (pv 4) rfl))
  (pss_cons (ps_set (i := 7) nd rfl (Or.inl rfl) (pe_make MSt FSt hrS1 rfl gS bSt .nil pass0 (pa_cons (pv 6) (pa_cons (pv 3) (pa_cons (pc_ GDv hr5 (pa_cons (pv 6) (pa_cons (pe_lc (own := [("k", 19)]) (g := (gName 19)) (tt := tYes) rfl nd (pi_range2 (by rfl) B0.range (pa_cons pe_int (pa_cons pe_int pa_nil))) (blkOk_by (N := ["script", "tape", "threads", "thread", "memory", "epoch", "layout", "store", "free", "waiting", "place", "turn", "slots", "many", "out", "cells", "known", "accesses", "row", "k"]) (sc := defScope sLaw) (by decide +kernel)) (fun _ _ _ _ _ => (pg_name (i := 19) nd rfl (Or.inl rfl))) (fun _ _ _ _ _ => pts_nil) (fun _ _ _ _ _ => (pm_ GRec TL.cl hr4 (pv 6) (pa_cons (pv 19) pa_nil)))) (pa_cons (pv 3) pa_nil)))) pa_nil)))))
  (pss_cons (ps_set (i := 8) nd rfl (Or.inl rfl) (pm0_ GFc T.cl hr1 (pv 7)))
  (pss_cons (ps_set (i := 9) nd rfl (Or.inl rfl) (pe_lst pa_nil))
  (pss_cons (ps_set (i := 10) nd rfl (Or.inl rfl) pe_int)
  hloop))))))))))), ?_⟩
    -- tape, threads, thread
    refine ⟨_, rfl, a, ns, rfl, hS, hlen, fun tp ms H1 _ htp sm hml s1 => ?_⟩
    refine ⟨_, rfl, tp, ms, 0, rfl, SqL.of htp, _, _, rfl, rfl, (by show (0 : Int) < 3; decide), _, _, rfl, rfl, ?_⟩
    obtain ⟨t, ht, ht1, ht3⟩ : ∃ t : Nat, 1 + atD ms 0 % 3 = (t : Int) ∧ 1 ≤ t ∧ t ≤ 3 := ⟨(1 + atD ms 0 % 3).toNat, by omega, by omega, by omega⟩
    show gName 2 (V.int (1 + atD ms 0 % 3)) _ _ _
    rw [ht]
    refine ⟨_, rfl, tp, ms, 1, rfl, SqL.of htp, _, rfl, _, _, rfl, rfl, (by omega), ?_⟩
    have hm0 := Int.fmod_nonneg_of_pos (atD ms 1) (b := (t : Int)) (by omega)
    have hm1 := Int.fmod_lt_of_pos (atD ms 1) (b := (t : Int)) (by omega)
    obtain ⟨thr, hthr, hth⟩ : ∃ thr : Nat, (atD ms 1).fmod (t : Int) = (thr : Int) ∧ thr < t := ⟨((atD ms 1).fmod (t : Int)).toNat, by omega, by omega⟩
    show gName 3 (V.int ((atD ms 1).fmod (t : Int))) _ _ _
    rw [hthr]
    have nok : NOk t 3 50 := ⟨ht1, ht3, by decide, by decide, by decide, by decide⟩
    -- memory
    have lk : lok (t : Int) 3 50 = true := lok_iff.mpr nok.lok
    refine ⟨_, rfl, ?_⟩
    intro x dx nx ndx ne
    refine ⟨x, dx, t, 3, 50, rfl, upd_same, (fun _ H2 lay kp2 => ⟨rfl, ?_⟩), fun h => by rw [lk] at h; cases h⟩
    have s2 : Same H1 H2 := fun b o e => by
      have b1 : b ≠ x := ne_of_none e nx
      refine kp2 b o ?_ b1
      rw [upd_ne b1, upd_ne (ne_of_none e ndx)]
      exact e
    obtain ⟨da, ha⟩ := lay
    refine fun m dx2 nx2 ndx2 ne2 => ?_
    have s3 : Same H2 (upd (upd H2 dx2 (.own m)) m (.ins M dx2 [])) := fun b o e => by
      rw [upd_ne (ne_of_none e nx2), upd_ne (ne_of_none e ndx2)]
      exact e
    refine ⟨m, dx2, x, t, 3, 50, rfl, upd_same, ⟨da, s3 _ _ ha⟩, nok, fun A tr H4 hA DM hI kp fr4 => ⟨rfl, ?_⟩⟩
    have s4 : Same H2 H4 := fun b o e => kp b o (s3 b o e) (ne_of_none e nx2)
    have ha4 := s4 _ _ ha
    have htp4 : H4 tp = some (.lst (ms.map V.int)) := s4 _ _ (s2 _ _ htp)
    have tpF : ¬ Foot m A (t + 3 + 50) tp := fun hf => by
      rcases fr4 tp hf with e | e
      · exact ne_of_none (s2 _ _ htp) nx2 e
      · rw [s3 _ _ (s2 _ _ htp)] at e
        cases e
    have so4 : SOk (S0 t tr) t (t + 3 + 50) 0 := so0 fun j hj => let ⟨v, e, _⟩ := hI j hj; ⟨v, e⟩
    -- epoch
    refine ⟨_, rfl, tp, ms, 2, rfl, SqL.of htp4, _, _, rfl, rfl, (by show (0 : Int) < 50; decide), ?_⟩
    show gName 5 (V.int (atD ms 2 % 50)) _ _ _
    generalize atD ms 2 % 50 = e
    obtain ⟨dm, hm⟩ := DM.ob
    refine ⟨_, rfl, m, dm, _, rfl, hm, rfl, _, rfl, (by show 3 ≤ sizeLine; decide), fun q hq => ?_⟩
    have s5 := up1 (o := HO.tup [V.str "write", V.int 0, V.int e]) hq
    have e5 : upd H4 q (HO.tup [V.str "write", V.int 0, V.int e]) q = _ := upd_same
    generalize upd H4 q (HO.tup [V.str "write", V.int 0, V.int e]) = H5 at s5 e5 ⊢
    refine ⟨m, t, 3, 50, 0, 0, A, S0 t tr, .write 0 (.int e), q, rfl, nok, DM.same s5, ht1, e5, (by show 0 < 1 + t + (t + 3 + 50); omega), so4, by omega, ⟨_, Dvl.int e⟩, trivial, fun v6 y6 p6 A6 X6 H6 ea6 R6 hp6 so6 D6 st6 => ?_⟩
    obtain ⟨_, ps6, _⟩ := res_write R6 (by omega)
    have ps6 : X6.ps = .int e :: List.replicate t .non := ps6
    obtain ⟨htp6, tpF6⟩ := st6.out (s5 _ _ htp4) tpF
    -- layout
    have hla6 : H6 A6.a = some (.ins C da (lf t 3 50)) := by
      have h := (st6.out (s5 _ _ ha4) (by rw [← hA]; exact lay_out DM)).1
      rw [ea6, hA]
      exact h
    obtain ⟨dm6, hm6⟩ := D6.ob
    refine ⟨_, rfl, m, M, dm6, _, _, rfl, hm6, TM.cl, TM.nL, rfl, ?_⟩
    show gName 6 (V.ref A6.a) _ _ _
    generalize hax : A6.a = la at *
    -- store
    refine ⟨_, rfl, _, rfl, _, rfl, _, _, rfl, ⟨by decide, by decide⟩, fun D hD => lc_range (lo := 3) (n := 47) (fun i H' => H' D = some (.lst (((List.range i).map fun (j : Nat) => rec0 (t : Int) 3 + (3 + (j : Int))).map V.int)) ∧ Same H6 H') ⟨upd_same, up1 hD⟩ ?_ ?_⟩
    · rintro i H' hi ⟨hD', s7⟩
      refine ⟨rfl, _, rfl, la, da, _, rfl, s7 _ _ hla6, rfl, _, rfl, la, t, 3, 50, _, rfl, ⟨da, s7 _ _ hla6⟩, _, hD', (by rw [List.length_map, List.length_map, List.length_range]; omega), ?_, fun b o h => by rw [upd_ne (ne_of_none h hD)]; exact s7 b o h⟩
      rw [upd_same, List.range_succ, List.map_append, List.map_append]
      rfl
    rintro H7 ⟨hD7, s7⟩
    refine ⟨_, rfl, la, t, 3, 50, D, _, thr, rfl, ⟨da, s7 _ _ hla6⟩, by omega, hD7, (by rw [List.length_map, List.length_range]; decide), fun H8 p8 ds pm8 asc8 np8 hp8 s8 => ?_⟩
    have hdl : ds.length ≤ 47 := by
      have h1 := pm8.length_eq
      have h2 := List.length_filter_le (fun c : Int => decide ((c - (rec0 (t : Int) 3 + 0)).fmod (t : Int) = (thr : Int))) ((List.range 47).map fun (j : Nat) => rec0 (t : Int) 3 + (3 + (j : Int)))
      rw [List.length_map, List.length_range] at h2
      omega
    intro st dst nst ndst nest
    have s9 : Same H8 (upd (upd H8 dst (.own st)) st (.ins S dst [])) := made_same nst ndst
    refine ⟨st, dst, la, thr, p8, ds, rfl, upd_same, s9 _ _ hp8, fun H9 fa wa oa fr pm9 asc9 R9 nfa nwa noa kp9 => ⟨rfl, ?_⟩⟩
    have s89 : Same H8 H9 := fun b o h => kp9 b o (s9 b o h) (ne_of_none h nst)
    have s68 := s7.trans s8
    have s69 := s68.trans s89
    obtain ⟨dsx, hst9⟩ := R9.ob
    refine ⟨_, rfl, st, dsx, _, rfl, hst9, rfl, st, la, _, fa, wa, oa, fr, [], [], rfl, R9, fun H10 fl nfl hfl s10 => ?_⟩
    refine ⟨(by show 0 ≤ sizeLine; exact Nat.zero_le _), fun wl nwl => ?_⟩
    have s11 := up1 (o := HO.lst []) nwl
    have hwl : upd H10 wl (HO.lst []) wl = _ := upd_same
    generalize upd H10 wl (HO.lst []) = H11 at s11 hwl ⊢
    have s911 := s10.trans s11
    have s611 := s69.trans s911
    have nf : ∀ b, H6 b = none → ¬ Foot m A6 (t + 3 + 50) b := fun b h hf => by obtain ⟨u, hu⟩ := foot_some D6 hf; rw [h] at hu; cases hu
    have of' : ∀ b, Ow st fa wa oa [] b → ¬ Foot m A6 (t + 3 + 50) b := fun b hb => by
      rcases hb with h | h | h | h | ⟨r, hr, _⟩
      · exact nf b (by rw [h]; exact s68.free nst)
      · exact nf b (by rw [h]; exact s68.free (s9.free nfa))
      · exact nf b (by rw [h]; exact s68.free (s9.free nwa))
      · exact nf b (by rw [h]; exact s68.free (s9.free noa))
      · exact absurd hr List.not_mem_nil
    have W : WSt C M S H11 m t 3 50 2 A6 X6 st la (thr : Int) fa wa oa fr [] [] := ⟨D6.same s611, so6, R9.same s911, of', hax⟩
    have zo : ∀ b o, H6 b = some o → ¬ Foot m A6 (t + 3 + 50) b → ¬ Zw m A6 (t + 3 + 50) st fa wa oa [] b := fun b o h hn y => by
      rcases y with y | y | y | y | y | ⟨r, hr, _⟩
      · exact hn y
      · have := s68 _ _ h; rw [y, nst] at this; cases this
      · have := s9 _ _ (s68 _ _ h); rw [y, nfa] at this; cases this
      · have := s9 _ _ (s68 _ _ h); rw [y, nwa] at this; cases this
      · have := s9 _ _ (s68 _ _ h); rw [y, noa] at this; cases this
      · exact absurd hr List.not_mem_nil
    have zn' : ∀ b, H9 b = none → ¬ Zw m A6 (t + 3 + 50) st fa wa oa [] b := fun b h y => by
      rcases y with y | y
      · obtain ⟨u, hu⟩ := foot_some D6 y
        have := s69 _ _ hu
        rw [h] at this; cases this
      · obtain ⟨u, hu⟩ := ow_some R9 b y
        rw [h] at hu; cases hu
    have L0 : LI K C M S H11 m st la tp fl wl ms t thr 2 0 e := ⟨A6, X6, fa, wa, oa, fr, [], [], List.replicate t .non, W, ps6, List.length_replicate, (by rw [List.getElem?_replicate, if_pos hth]), asc9, ⟨s611 _ _ htp6, zo _ _ htp6 tpF6⟩, ⟨s11 _ _ hfl, zn' _ nfl⟩, ⟨hwl, fun r hr => absurd hr List.not_mem_nil, zn' _ (s10.free nwl), fun r hr => absurd hr List.not_mem_nil⟩, rfl, (by show fr.length + 0 ≤ 47; rw [pm9.length_eq]; omega), Nat.le_refl _⟩
    -- the turns
    have hn : ∀ z : Int, 0 ≤ z → -(2 ^ 62) ≤ (if z < 8 then z else 8) ∧ (if z < 8 then z else 8) < 2 ^ 62 ∧ (if z < 8 then z else 8).toNat ≤ 8 := fun z hz => by split <;> omega
    obtain ⟨b1, b2, b3⟩ := hn (1 + ((ms.map V.int).length : Int) / 10 * 0 + ((ms.map V.int).length : Int) / 6) (by omega)
    rw [show (1 + ((ms.map V.int).length : Int) / 10 * 0 + ((ms.map V.int).length : Int) / 6) = 1 + ((ms.map V.int).length : Int) / 6 by omega] at b1 b2 b3
    refine ⟨_, rfl, tp, _, rfl, .inl (SqL.of (s611 _ _ htp6)), _, _, rfl, rfl, ⟨by decide, by decide⟩, _, _, rfl, rfl, _, _, rfl, _, rfl, b1, b2, ?_⟩
    generalize (if 1 + ((ms.map V.int).length : Int) / 6 < 8 then 1 + ((ms.map V.int).length : Int) / 6 else 8).toNat = N at b3
    refine for_range (lo := 0) (n := N) (fun i σ H' => ∃ (pl : Nat) (e : Int) (fl wl : Addr) (v11 v12 v13 v14 v15 v16 v17 v18 v19 : Option V), σ = sl a tp t thr m e la st fl wl pl v11 v12 v13 v14 v15 v16 v17 v18 v19 ∧ LI K C M S H' m st la tp fl wl ms t thr (2 + 26 * i) i e) ⟨3, e, fl, wl, _, _, _, _, _, _, _, _, _, rfl, L0⟩ ?_ ?_
    · rintro i σ H' hi ⟨pl, e, fl, wl, v11, v12, v13, v14, v15, v16, v17, v18, v19, rfl, L⟩
      refine r0 _ a tp m la st fl wl ms t thr (2 + 26 * i) pl i e _ v12 v13 v14 v15 v16 v17 v18 v19 H' hth ht3 (by omega) (by omega) sm L fun fl' wl' kn v12 v13 v14 v15 v16 v17 v18 H' h => ?_
      exact ⟨pl + 6, kn, fl', wl', _, _, _, _, _, _, _, _, _, rfl, by rw [show 2 + 26 * (i + 1) = 2 + 26 * i + 26 by omega]; exact h⟩
    · rintro σ H' ⟨pl, e, fl, wl, v11, v12, v13, v14, v15, v16, v17, v18, v19, rfl, L⟩
      exact kQ _
end
end Dk

set_option maxHeartbeats 8000000
namespace Dk
open PySem PySem.Spec PyProof.Rows L2
theorem kit_self {K : PySem.W.Frag} {N : Addr} : PySem.W.kitOne K (.ref N) (.ref N) = some true := by
  unfold PySem.W.kitOne
  rw [if_pos (beq_self_eq_true _)]
theorem md_at {P : Program} {w : World} {K : PySem.W.Frag} {mg : Str → Option Value} {base : Heap} {k : Nat} {C f : Addr} {m : Str} {sp : Sp} (D : MD P w K mg base k C m sp) (h : Meth K C m f) : FnR P w K mg base CX0 k f sp := by
  obtain ⟨g, hm, F⟩ := D
  have e := hm.at_.symm.trans h.at_
  cases e
  exact F
theorem raw0 {P : Program} {w : World} {K : PySem.W.Frag} {mg : Str → Option Value} {base : Heap} {k : Nat} {f : Addr} {fd : FuncData} {ps : List Str} {sp : Sp} (F : FnOk P w K mg base CX0 k f fd ps sp) (hb : Binds K fd ps []) : FnR P w K mg base CX0 k f sp :=
  (F.raw hb .nil).imp fun vs H Q E h => by rw [List.append_nil]; exact h
theorem all_mk {l : PySem.W.OpenLaw} {w : World} {K : PySem.W.Frag} {h : Heap} {mg : Str → Option Value} {fa C M S SK MA CE CV NV LE E0 f1 f2 f3 f4 f5 f6 f7 f8 f9 f10 f11 f12 f13 f14 f15 f16 f17 f18 f19 f20 f21 f22 f23 f24 f25 f26 f27 f28 f29 f30 f31 f32 f33 f34 f35 f36 f37 f38 f39 f40 f41 f42 f43 f44 f45 f46 f47 f48 f49 f50 f51 f52 f53 f54 f55 f56 f57 f58 f59 f60 f61 f62 f63 f64 f65 f66 f67 f68 f69 f70 f71 f72 f73 : Addr} (X : K.In h) (G : h.Ns mainGlobals mg) (hfa : mg "law" = some (.ref fa))
    {od1 an1 : Option Addr} {sl1 : Array (Option Value)} {oc1 kV1 dc1 pm1 cd1 ct1 : Value}
    {od2 an2 : Option Addr} {sl2 : Array (Option Value)} {oc2 kV2 dc2 pm2 cd2 ct2 : Value}
    {od3 an3 : Option Addr} {sl3 : Array (Option Value)} {oc3 kV3 dc3 pm3 cd3 ct3 : Value}
    {od4 an4 : Option Addr} {sl4 : Array (Option Value)} {oc4 kV4 dc4 pm4 cd4 ct4 : Value}
    {od5 an5 : Option Addr} {sl5 : Array (Option Value)} {oc5 kV5 dc5 pm5 cd5 ct5 : Value}
    {od6 an6 : Option Addr} {sl6 : Array (Option Value)} {oc6 kV6 dc6 pm6 cd6 ct6 : Value}
    {od7 an7 : Option Addr} {sl7 : Array (Option Value)} {oc7 kV7 dc7 pm7 cd7 ct7 : Value}
    {od8 an8 : Option Addr} {sl8 : Array (Option Value)} {oc8 kV8 dc8 pm8 cd8 ct8 : Value}
    {od9 an9 : Option Addr} {sl9 : Array (Option Value)} {oc9 kV9 dc9 pm9 cd9 ct9 : Value}
    {od10 an10 : Option Addr} {sl10 : Array (Option Value)} {oc10 kV10 dc10 pm10 cd10 ct10 : Value}
    {od11 an11 : Option Addr} {sl11 : Array (Option Value)} {oc11 kV11 dc11 pm11 cd11 ct11 : Value}
    {od12 an12 : Option Addr} {sl12 : Array (Option Value)} {oc12 kV12 dc12 pm12 cd12 ct12 : Value}
    {od13 an13 : Option Addr} {sl13 : Array (Option Value)} {oc13 kV13 dc13 pm13 cd13 ct13 : Value}
    {od14 an14 : Option Addr} {sl14 : Array (Option Value)} {oc14 kV14 dc14 pm14 cd14 ct14 : Value}
    {od15 an15 : Option Addr} {sl15 : Array (Option Value)} {oc15 kV15 dc15 pm15 cd15 ct15 : Value}
    {od16 an16 : Option Addr} {sl16 : Array (Option Value)} {oc16 kV16 dc16 pm16 cd16 ct16 : Value}
    {od17 an17 : Option Addr} {sl17 : Array (Option Value)} {oc17 kV17 dc17 pm17 cd17 ct17 : Value}
    {od18 an18 : Option Addr} {sl18 : Array (Option Value)} {oc18 kV18 dc18 pm18 cd18 ct18 : Value}
    {od19 an19 : Option Addr} {sl19 : Array (Option Value)} {oc19 kV19 dc19 pm19 cd19 ct19 : Value}
    {od20 an20 : Option Addr} {sl20 : Array (Option Value)} {oc20 kV20 dc20 pm20 cd20 ct20 : Value}
    {od21 an21 : Option Addr} {sl21 : Array (Option Value)} {oc21 kV21 dc21 pm21 cd21 ct21 : Value}
    {od22 an22 : Option Addr} {sl22 : Array (Option Value)} {oc22 kV22 dc22 pm22 cd22 ct22 : Value}
    {od23 an23 : Option Addr} {sl23 : Array (Option Value)} {oc23 kV23 dc23 pm23 cd23 ct23 : Value}
    {od24 an24 : Option Addr} {sl24 : Array (Option Value)} {oc24 kV24 dc24 pm24 cd24 ct24 : Value}
    {od25 an25 : Option Addr} {sl25 : Array (Option Value)} {oc25 kV25 dc25 pm25 cd25 ct25 : Value}
    {od26 an26 : Option Addr} {sl26 : Array (Option Value)} {oc26 kV26 dc26 pm26 cd26 ct26 : Value}
    {od27 an27 : Option Addr} {sl27 : Array (Option Value)} {oc27 kV27 dc27 pm27 cd27 ct27 : Value}
    {od28 an28 : Option Addr} {sl28 : Array (Option Value)} {oc28 kV28 dc28 pm28 cd28 ct28 : Value}
    {od29 an29 : Option Addr} {sl29 : Array (Option Value)} {oc29 kV29 dc29 pm29 cd29 ct29 : Value}
    {od30 an30 : Option Addr} {sl30 : Array (Option Value)} {oc30 kV30 dc30 pm30 cd30 ct30 : Value}
    {od31 an31 : Option Addr} {sl31 : Array (Option Value)} {oc31 kV31 dc31 pm31 cd31 ct31 : Value}
    {od32 an32 : Option Addr} {sl32 : Array (Option Value)} {oc32 kV32 dc32 pm32 cd32 ct32 : Value}
    {od33 an33 : Option Addr} {sl33 : Array (Option Value)} {oc33 kV33 dc33 pm33 cd33 ct33 : Value}
    {od34 an34 : Option Addr} {sl34 : Array (Option Value)} {oc34 kV34 dc34 pm34 cd34 ct34 : Value}
    {od35 an35 : Option Addr} {sl35 : Array (Option Value)} {oc35 kV35 dc35 pm35 cd35 ct35 : Value}
    {od36 an36 : Option Addr} {sl36 : Array (Option Value)} {oc36 kV36 dc36 pm36 cd36 ct36 : Value}
    {od37 an37 : Option Addr} {sl37 : Array (Option Value)} {oc37 kV37 dc37 pm37 cd37 ct37 : Value}
    {od38 an38 : Option Addr} {sl38 : Array (Option Value)} {oc38 kV38 dc38 pm38 cd38 ct38 : Value}
    {od39 an39 : Option Addr} {sl39 : Array (Option Value)} {oc39 kV39 dc39 pm39 cd39 ct39 : Value}
    {od40 an40 : Option Addr} {sl40 : Array (Option Value)} {oc40 kV40 dc40 pm40 cd40 ct40 : Value}
    {od41 an41 : Option Addr} {sl41 : Array (Option Value)} {oc41 kV41 dc41 pm41 cd41 ct41 : Value}
    {od42 an42 : Option Addr} {sl42 : Array (Option Value)} {oc42 kV42 dc42 pm42 cd42 ct42 : Value}
    {od43 an43 : Option Addr} {sl43 : Array (Option Value)} {oc43 kV43 dc43 pm43 cd43 ct43 : Value}
    {od44 an44 : Option Addr} {sl44 : Array (Option Value)} {oc44 kV44 dc44 pm44 cd44 ct44 : Value}
    {od45 an45 : Option Addr} {sl45 : Array (Option Value)} {oc45 kV45 dc45 pm45 cd45 ct45 : Value}
    {od46 an46 : Option Addr} {sl46 : Array (Option Value)} {oc46 kV46 dc46 pm46 cd46 ct46 : Value}
    {od47 an47 : Option Addr} {sl47 : Array (Option Value)} {oc47 kV47 dc47 pm47 cd47 ct47 : Value}
    {od48 an48 : Option Addr} {sl48 : Array (Option Value)} {oc48 kV48 dc48 pm48 cd48 ct48 : Value}
    {od49 an49 : Option Addr} {sl49 : Array (Option Value)} {oc49 kV49 dc49 pm49 cd49 ct49 : Value}
    {od50 an50 : Option Addr} {sl50 : Array (Option Value)} {oc50 kV50 dc50 pm50 cd50 ct50 : Value}
    {od51 an51 : Option Addr} {sl51 : Array (Option Value)} {oc51 kV51 dc51 pm51 cd51 ct51 : Value}
    {od52 an52 : Option Addr} {sl52 : Array (Option Value)} {oc52 kV52 dc52 pm52 cd52 ct52 : Value}
    {od53 an53 : Option Addr} {sl53 : Array (Option Value)} {oc53 kV53 dc53 pm53 cd53 ct53 : Value}
    {od54 an54 : Option Addr} {sl54 : Array (Option Value)} {oc54 kV54 dc54 pm54 cd54 ct54 : Value}
    {od55 an55 : Option Addr} {sl55 : Array (Option Value)} {oc55 kV55 dc55 pm55 cd55 ct55 : Value}
    {od56 an56 : Option Addr} {sl56 : Array (Option Value)} {oc56 kV56 dc56 pm56 cd56 ct56 : Value}
    {od57 an57 : Option Addr} {sl57 : Array (Option Value)} {oc57 kV57 dc57 pm57 cd57 ct57 : Value}
    {od58 an58 : Option Addr} {sl58 : Array (Option Value)} {oc58 kV58 dc58 pm58 cd58 ct58 : Value}
    {od59 an59 : Option Addr} {sl59 : Array (Option Value)} {oc59 kV59 dc59 pm59 cd59 ct59 : Value}
    {od60 an60 : Option Addr} {sl60 : Array (Option Value)} {oc60 kV60 dc60 pm60 cd60 ct60 : Value}
    {od61 an61 : Option Addr} {sl61 : Array (Option Value)} {oc61 kV61 dc61 pm61 cd61 ct61 : Value}
    {od62 an62 : Option Addr} {sl62 : Array (Option Value)} {oc62 kV62 dc62 pm62 cd62 ct62 : Value}
    {od63 an63 : Option Addr} {sl63 : Array (Option Value)} {oc63 kV63 dc63 pm63 cd63 ct63 : Value}
    {od64 an64 : Option Addr} {sl64 : Array (Option Value)} {oc64 kV64 dc64 pm64 cd64 ct64 : Value}
    {od65 an65 : Option Addr} {sl65 : Array (Option Value)} {oc65 kV65 dc65 pm65 cd65 ct65 : Value}
    {od66 an66 : Option Addr} {sl66 : Array (Option Value)} {oc66 kV66 dc66 pm66 cd66 ct66 : Value}
    {od67 an67 : Option Addr} {sl67 : Array (Option Value)} {oc67 kV67 dc67 pm67 cd67 ct67 : Value}
    {od68 an68 : Option Addr} {sl68 : Array (Option Value)} {oc68 kV68 dc68 pm68 cd68 ct68 : Value}
    {od69 an69 : Option Addr} {sl69 : Array (Option Value)} {oc69 kV69 dc69 pm69 cd69 ct69 : Value}
    {od70 an70 : Option Addr} {sl70 : Array (Option Value)} {oc70 kV70 dc70 pm70 cd70 ct70 : Value}
    {od71 an71 : Option Addr} {sl71 : Array (Option Value)} {oc71 kV71 dc71 pm71 cd71 ct71 : Value}
    {od72 an72 : Option Addr} {sl72 : Array (Option Value)} {oc72 kV72 dc72 pm72 cd72 ct72 : Value}
    {od73 an73 : Option Addr} {sl73 : Array (Option Value)} {oc73 kV73 dc73 pm73 cd73 ct73 : Value}
    (gC : PySem.W.nsIn K mainGlobals "Layout" = some (some (.ref C)))
    (gM : PySem.W.nsIn K mainGlobals "Memory" = some (some (.ref M)))
    (gS : PySem.W.nsIn K mainGlobals "Store" = some (some (.ref S)))
    (gSK : PySem.W.nsIn K mainGlobals "Stack" = some (some (.ref SK)))
    (gMA : PySem.W.nsIn K mainGlobals "Machine" = some (some (.ref MA)))
    (gCE : PySem.W.nsIn K mainGlobals "Entering" = some (some (.ref CE)))
    (gCV : PySem.W.nsIn K mainGlobals "Leaving" = some (some (.ref CV)))
    (gNV : PySem.W.nsIn K mainGlobals "NotValid" = some (some (.ref NV)))
    (gLE : PySem.W.nsIn K mainGlobals "LineError" = some (some (.ref LE)))
    (a1 : PySem.W.nsIn K mainGlobals "is_whole" = some (some (.ref f1)))
    (l1 : K.lookup f1 = some ⟨oc1, od1, .func (PySem.W.fnOf "is_whole" "is_whole" (defArgs sWhole) (defBody sWhole) (defScope sWhole) .none kV1 dc1 pm1 an1 cd1 ct1), sl1⟩)
    (c1 : PySem.W.codeIn K cd1 "is_whole" = true)
    (k1 : PySem.W.keepIn K (.ref f1) = true)
    (a2 : PySem.W.nsIn K mainGlobals "is_within" = some (some (.ref f2)))
    (l2 : K.lookup f2 = some ⟨oc2, od2, .func (PySem.W.fnOf "is_within" "is_within" (defArgs sWithin) (defBody sWithin) (defScope sWithin) .none kV2 dc2 pm2 an2 cd2 ct2), sl2⟩)
    (c2 : PySem.W.codeIn K cd2 "is_within" = true)
    (k2 : PySem.W.keepIn K (.ref f2) = true)
    (a3 : PySem.W.nsIn K mainGlobals "is_value" = some (some (.ref f3)))
    (l3 : K.lookup f3 = some ⟨oc3, od3, .func (PySem.W.fnOf "is_value" "is_value" (defArgs sIsValue) (defBody sIsValue) (defScope sIsValue) .none kV3 dc3 pm3 an3 cd3 ct3), sl3⟩)
    (c3 : PySem.W.codeIn K cd3 "is_value" = true)
    (k3 : PySem.W.keepIn K (.ref f3) = true)
    (a4 : PySem.W.nsIn K mainGlobals "is_same" = some (some (.ref f4)))
    (l4 : K.lookup f4 = some ⟨oc4, od4, .func (PySem.W.fnOf "is_same" "is_same" (defArgs sIsSame) (defBody sIsSame) (defScope sIsSame) .none kV4 dc4 pm4 an4 cd4 ct4), sl4⟩)
    (c4 : PySem.W.codeIn K cd4 "is_same" = true)
    (k4 : PySem.W.keepIn K (.ref f4) = true)
    (a5 : PySem.W.nsIn K mainGlobals "divided" = some (some (.ref f5)))
    (l5 : K.lookup f5 = some ⟨oc5, od5, .func (PySem.W.fnOf "divided" "divided" (defArgs sDivided) (defBody sDivided) (defScope sDivided) .none kV5 dc5 pm5 an5 cd5 ct5), sl5⟩)
    (c5 : PySem.W.codeIn K cd5 "divided" = true)
    (k5 : PySem.W.keepIn K (.ref f5) = true)
    (a6 : PySem.W.nsIn K mainGlobals "other_slots" = some (some (.ref f6)))
    (l6 : K.lookup f6 = some ⟨oc6, od6, .func (PySem.W.fnOf "other_slots" "other_slots" (defArgs sOther) (defBody sOther) (defScope sOther) .none kV6 dc6 pm6 an6 cd6 ct6), sl6⟩)
    (c6 : PySem.W.codeIn K cd6 "other_slots" = true)
    (k6 : PySem.W.keepIn K (.ref f6) = true)
    (a7 : PySem.W.nsIn K mainGlobals "is_access" = some (some (.ref f7)))
    (l7 : K.lookup f7 = some ⟨oc7, od7, .func (PySem.W.fnOf "is_access" "is_access" (defArgs sIsAcc) (defBody sIsAcc) (defScope sIsAcc) .none kV7 dc7 pm7 an7 cd7 ct7), sl7⟩)
    (c7 : PySem.W.codeIn K cd7 "is_access" = true)
    (k7 : PySem.W.keepIn K (.ref f7) = true)
    (a8 : PySem.W.nsIn K mainGlobals "passing_values" = some (some (.ref f8)))
    (l8 : K.lookup f8 = some ⟨oc8, od8, .func (PySem.W.fnOf "passing_values" "passing_values" (defArgs sPass) (defBody sPass) (defScope sPass) .none kV8 dc8 pm8 an8 cd8 ct8), sl8⟩)
    (c8 : PySem.W.codeIn K cd8 "passing_values" = true)
    (k8 : PySem.W.keepIn K (.ref f8) = true)
    (a9 : PySem.W.nsIn K mainGlobals "first_trails" = some (some (.ref f9)))
    (l9 : K.lookup f9 = some ⟨oc9, od9, .func (PySem.W.fnOf "first_trails" "first_trails" (defArgs sTrails) (defBody sTrails) (defScope sTrails) .none kV9 dc9 pm9 an9 cd9 ct9), sl9⟩)
    (c9 : PySem.W.codeIn K cd9 "first_trails" = true)
    (k9 : PySem.W.keepIn K (.ref f9) = true)
    (a10 : PySem.W.nsIn K mainGlobals "no_notes" = some (some (.ref f10)))
    (l10 : K.lookup f10 = some ⟨oc10, od10, .func (PySem.W.fnOf "no_notes" "no_notes" (defArgs sNotes) (defBody sNotes) (defScope sNotes) .none kV10 dc10 pm10 an10 cd10 ct10), sl10⟩)
    (c10 : PySem.W.codeIn K cd10 "no_notes" = true)
    (k10 : PySem.W.keepIn K (.ref f10) = true)
    (a11 : PySem.W.nsIn K mainGlobals "_law_tape" = some (some (.ref f11)))
    (l11 : K.lookup f11 = some ⟨oc11, od11, .func (PySem.W.fnOf "_law_tape" "_law_tape" (defArgs sTape) (defBody sTape) (defScope sTape) .none kV11 dc11 pm11 an11 cd11 ct11), sl11⟩)
    (c11 : PySem.W.codeIn K cd11 "_law_tape" = true)
    (k11 : PySem.W.keepIn K (.ref f11) = true)
    (a12 : PySem.W.nsIn K mainGlobals "_law_at" = some (some (.ref f12)))
    (l12 : K.lookup f12 = some ⟨oc12, od12, .func (PySem.W.fnOf "_law_at" "_law_at" (defArgs sAt) (defBody sAt) (defScope sAt) .none kV12 dc12 pm12 an12 cd12 ct12), sl12⟩)
    (c12 : PySem.W.codeIn K cd12 "_law_at" = true)
    (k12 : PySem.W.keepIn K (.ref f12) = true)
    (a13 : PySem.W.nsIn K mainGlobals "_law_run" = some (some (.ref f13)))
    (l13 : K.lookup f13 = some ⟨oc13, od13, .func (PySem.W.fnOf "_law_run" "_law_run" (defArgs sRun) (defBody sRun) (defScope sRun) .none kV13 dc13 pm13 an13 cd13 ct13), sl13⟩)
    (c13 : PySem.W.codeIn K cd13 "_law_run" = true)
    (k13 : PySem.W.keepIn K (.ref f13) = true)
    (a14 : PySem.W.nsIn K mainGlobals "_law_left" = some (some (.ref f14)))
    (l14 : K.lookup f14 = some ⟨oc14, od14, .func (PySem.W.fnOf "_law_left" "_law_left" (defArgs sLeft) (defBody sLeft) (defScope sLeft) .none kV14 dc14 pm14 an14 cd14 ct14), sl14⟩)
    (c14 : PySem.W.codeIn K cd14 "_law_left" = true)
    (k14 : PySem.W.keepIn K (.ref f14) = true)
    (a15 : PySem.W.nsIn K mainGlobals "_law_slots" = some (some (.ref f15)))
    (l15 : K.lookup f15 = some ⟨oc15, od15, .func (PySem.W.fnOf "_law_slots" "_law_slots" (defArgs sSlots) (defBody sSlots) (defScope sSlots) .none kV15 dc15 pm15 an15 cd15 ct15), sl15⟩)
    (c15 : PySem.W.codeIn K cd15 "_law_slots" = true)
    (k15 : PySem.W.keepIn K (.ref f15) = true)
    (a16 : PySem.W.nsIn K mainGlobals "law" = some (some (.ref f16)))
    (l16 : K.lookup f16 = some ⟨oc16, od16, .func (PySem.W.fnOf "law" "law" (defArgs sLaw) (defBody sLaw) (defScope sLaw) .none kV16 dc16 pm16 an16 cd16 ct16), sl16⟩)
    (c16 : PySem.W.codeIn K cd16 "law" = true)
    (k16 : PySem.W.keepIn K (.ref f16) = true)
    (a17 : PySem.W.findIn K (.ref C) "__init__" = some (some (.ref f17)))
    (i17 : PySem.W.isFn K (.ref f17) = true)
    (l17 : K.lookup f17 = some ⟨oc17, od17, .func (PySem.W.fnOf "__init__" "Layout.__init__" (defArgs sLInit) (defBody sLInit) (defScope sLInit) .none kV17 dc17 pm17 an17 cd17 ct17), sl17⟩)
    (c17 : PySem.W.codeIn K cd17 "Layout.__init__" = true)
    (k17 : PySem.W.keepIn K (.ref f17) = true)
    (a18 : PySem.W.findIn K (.ref C) "epoch" = some (some (.ref f18)))
    (i18 : PySem.W.isFn K (.ref f18) = true)
    (l18 : K.lookup f18 = some ⟨oc18, od18, .func (PySem.W.fnOf "epoch" "Layout.epoch" (defArgs sEpoch) (defBody sEpoch) (defScope sEpoch) .none kV18 dc18 pm18 an18 cd18 ct18), sl18⟩)
    (c18 : PySem.W.codeIn K cd18 "Layout.epoch" = true)
    (k18 : PySem.W.keepIn K (.ref f18) = true)
    (a19 : PySem.W.findIn K (.ref C) "epoch_slot" = some (some (.ref f19)))
    (i19 : PySem.W.isFn K (.ref f19) = true)
    (l19 : K.lookup f19 = some ⟨oc19, od19, .func (PySem.W.fnOf "epoch_slot" "Layout.epoch_slot" (defArgs sESlot) (defBody sESlot) (defScope sESlot) .none kV19 dc19 pm19 an19 cd19 ct19), sl19⟩)
    (c19 : PySem.W.codeIn K cd19 "Layout.epoch_slot" = true)
    (k19 : PySem.W.keepIn K (.ref f19) = true)
    (a20 : PySem.W.findIn K (.ref C) "call_slot" = some (some (.ref f20)))
    (i20 : PySem.W.isFn K (.ref f20) = true)
    (l20 : K.lookup f20 = some ⟨oc20, od20, .func (PySem.W.fnOf "call_slot" "Layout.call_slot" (defArgs sCSlot) (defBody sCSlot) (defScope sCSlot) .none kV20 dc20 pm20 an20 cd20 ct20), sl20⟩)
    (c20 : PySem.W.codeIn K cd20 "Layout.call_slot" = true)
    (k20 : PySem.W.keepIn K (.ref f20) = true)
    (a21 : PySem.W.findIn K (.ref C) "word" = some (some (.ref f21)))
    (i21 : PySem.W.isFn K (.ref f21) = true)
    (l21 : K.lookup f21 = some ⟨oc21, od21, .func (PySem.W.fnOf "word" "Layout.word" (defArgs sWord) (defBody sWord) (defScope sWord) .none kV21 dc21 pm21 an21 cd21 ct21), sl21⟩)
    (c21 : PySem.W.codeIn K cd21 "Layout.word" = true)
    (k21 : PySem.W.keepIn K (.ref f21) = true)
    (a22 : PySem.W.findIn K (.ref C) "record" = some (some (.ref f22)))
    (i22 : PySem.W.isFn K (.ref f22) = true)
    (l22 : K.lookup f22 = some ⟨oc22, od22, .func (PySem.W.fnOf "record" "Layout.record" (defArgs sRecord) (defBody sRecord) (defScope sRecord) .none kV22 dc22 pm22 an22 cd22 ct22), sl22⟩)
    (c22 : PySem.W.codeIn K cd22 "Layout.record" = true)
    (k22 : PySem.W.keepIn K (.ref f22) = true)
    (a23 : PySem.W.findIn K (.ref C) "cells" = some (some (.ref f23)))
    (i23 : PySem.W.isFn K (.ref f23) = true)
    (l23 : K.lookup f23 = some ⟨oc23, od23, .func (PySem.W.fnOf "cells" "Layout.cells" (defArgs sCells) (defBody sCells) (defScope sCells) .none kV23 dc23 pm23 an23 cd23 ct23), sl23⟩)
    (c23 : PySem.W.codeIn K cd23 "Layout.cells" = true)
    (k23 : PySem.W.keepIn K (.ref f23) = true)
    (a24 : PySem.W.findIn K (.ref C) "is_cell" = some (some (.ref f24)))
    (i24 : PySem.W.isFn K (.ref f24) = true)
    (l24 : K.lookup f24 = some ⟨oc24, od24, .func (PySem.W.fnOf "is_cell" "Layout.is_cell" (defArgs sIsCell) (defBody sIsCell) (defScope sIsCell) .none kV24 dc24 pm24 an24 cd24 ct24), sl24⟩)
    (c24 : PySem.W.codeIn K cd24 "Layout.is_cell" = true)
    (k24 : PySem.W.keepIn K (.ref f24) = true)
    (a25 : PySem.W.findIn K (.ref C) "is_lasting" = some (some (.ref f25)))
    (i25 : PySem.W.isFn K (.ref f25) = true)
    (l25 : K.lookup f25 = some ⟨oc25, od25, .func (PySem.W.fnOf "is_lasting" "Layout.is_lasting" (defArgs sIsLast) (defBody sIsLast) (defScope sIsLast) .none kV25 dc25 pm25 an25 cd25 ct25), sl25⟩)
    (c25 : PySem.W.codeIn K cd25 "Layout.is_lasting" = true)
    (k25 : PySem.W.keepIn K (.ref f25) = true)
    (a26 : PySem.W.findIn K (.ref C) "has_thread" = some (some (.ref f26)))
    (i26 : PySem.W.isFn K (.ref f26) = true)
    (l26 : K.lookup f26 = some ⟨oc26, od26, .func (PySem.W.fnOf "has_thread" "Layout.has_thread" (defArgs sHasT) (defBody sHasT) (defScope sHasT) .none kV26 dc26 pm26 an26 cd26 ct26), sl26⟩)
    (c26 : PySem.W.codeIn K cd26 "Layout.has_thread" = true)
    (k26 : PySem.W.keepIn K (.ref f26) = true)
    (a27 : PySem.W.findIn K (.ref M) "__init__" = some (some (.ref f27)))
    (i27 : PySem.W.isFn K (.ref f27) = true)
    (l27 : K.lookup f27 = some ⟨oc27, od27, .func (PySem.W.fnOf "__init__" "Memory.__init__" (defArgs sMInit) (defBody sMInit) (defScope sMInit) .none kV27 dc27 pm27 an27 cd27 ct27), sl27⟩)
    (c27 : PySem.W.codeIn K cd27 "Memory.__init__" = true)
    (k27 : PySem.W.keepIn K (.ref f27) = true)
    (a28 : PySem.W.findIn K (.ref M) "access" = some (some (.ref f28)))
    (i28 : PySem.W.isFn K (.ref f28) = true)
    (l28 : K.lookup f28 = some ⟨oc28, od28, .func (PySem.W.fnOf "access" "Memory.access" (defArgs sAccess) (defBody sAccess) (defScope sAccess) .none kV28 dc28 pm28 an28 cd28 ct28), sl28⟩)
    (c28 : PySem.W.codeIn K cd28 "Memory.access" = true)
    (k28 : PySem.W.keepIn K (.ref f28) = true)
    (a29 : PySem.W.findIn K (.ref M) "peek" = some (some (.ref f29)))
    (i29 : PySem.W.isFn K (.ref f29) = true)
    (l29 : K.lookup f29 = some ⟨oc29, od29, .func (PySem.W.fnOf "peek" "Memory.peek" (defArgs sPeek) (defBody sPeek) (defScope sPeek) .none kV29 dc29 pm29 an29 cd29 ct29), sl29⟩)
    (c29 : PySem.W.codeIn K cd29 "Memory.peek" = true)
    (k29 : PySem.W.keepIn K (.ref f29) = true)
    (a30 : PySem.W.findIn K (.ref M) "_result" = some (some (.ref f30)))
    (i30 : PySem.W.isFn K (.ref f30) = true)
    (l30 : K.lookup f30 = some ⟨oc30, od30, .func (PySem.W.fnOf "_result" "Memory._result" (defArgs sResult) (defBody sResult) (defScope sResult) .none kV30 dc30 pm30 an30 cd30 ct30), sl30⟩)
    (c30 : PySem.W.codeIn K cd30 "Memory._result" = true)
    (k30 : PySem.W.keepIn K (.ref f30) = true)
    (a31 : PySem.W.findIn K (.ref M) "_give" = some (some (.ref f31)))
    (i31 : PySem.W.isFn K (.ref f31) = true)
    (l31 : K.lookup f31 = some ⟨oc31, od31, .func (PySem.W.fnOf "_give" "Memory._give" (defArgs sGive) (defBody sGive) (defScope sGive) .none kV31 dc31 pm31 an31 cd31 ct31), sl31⟩)
    (c31 : PySem.W.codeIn K cd31 "Memory._give" = true)
    (k31 : PySem.W.keepIn K (.ref f31) = true)
    (a32 : PySem.W.findIn K (.ref M) "_give_if" = some (some (.ref f32)))
    (i32 : PySem.W.isFn K (.ref f32) = true)
    (l32 : K.lookup f32 = some ⟨oc32, od32, .func (PySem.W.fnOf "_give_if" "Memory._give_if" (defArgs sGiveIf) (defBody sGiveIf) (defScope sGiveIf) .none kV32 dc32 pm32 an32 cd32 ct32), sl32⟩)
    (c32 : PySem.W.codeIn K cd32 "Memory._give_if" = true)
    (k32 : PySem.W.keepIn K (.ref f32) = true)
    (a33 : PySem.W.findIn K (.ref M) "_fence" = some (some (.ref f33)))
    (i33 : PySem.W.isFn K (.ref f33) = true)
    (l33 : K.lookup f33 = some ⟨oc33, od33, .func (PySem.W.fnOf "_fence" "Memory._fence" (defArgs sFence) (defBody sFence) (defScope sFence) .none kV33 dc33 pm33 an33 cd33 ct33), sl33⟩)
    (c33 : PySem.W.codeIn K cd33 "Memory._fence" = true)
    (k33 : PySem.W.keepIn K (.ref f33) = true)
    (a34 : PySem.W.findIn K (.ref M) "_shorten" = some (some (.ref f34)))
    (i34 : PySem.W.isFn K (.ref f34) = true)
    (l34 : K.lookup f34 = some ⟨oc34, od34, .func (PySem.W.fnOf "_shorten" "Memory._shorten" (defArgs sShort) (defBody sShort) (defScope sShort) .none kV34 dc34 pm34 an34 cd34 ct34), sl34⟩)
    (c34 : PySem.W.codeIn K cd34 "Memory._shorten" = true)
    (k34 : PySem.W.keepIn K (.ref f34) = true)
    (a35 : PySem.W.findIn K (.ref S) "__init__" = some (some (.ref f35)))
    (i35 : PySem.W.isFn K (.ref f35) = true)
    (l35 : K.lookup f35 = some ⟨oc35, od35, .func (PySem.W.fnOf "__init__" "Store.__init__" (defArgs sSInit) (defBody sSInit) (defScope sSInit) .none kV35 dc35 pm35 an35 cd35 ct35), sl35⟩)
    (c35 : PySem.W.codeIn K cd35 "Store.__init__" = true)
    (k35 : PySem.W.keepIn K (.ref f35) = true)
    (a36 : PySem.W.findIn K (.ref S) "take" = some (some (.ref f36)))
    (i36 : PySem.W.isFn K (.ref f36) = true)
    (l36 : K.lookup f36 = some ⟨oc36, od36, .func (PySem.W.fnOf "take" "Store.take" (defArgs sTake) (defBody sTake) (defScope sTake) .none kV36 dc36 pm36 an36 cd36 ct36), sl36⟩)
    (c36 : PySem.W.codeIn K cd36 "Store.take" = true)
    (k36 : PySem.W.keepIn K (.ref f36) = true)
    (a37 : PySem.W.findIn K (.ref S) "give_back" = some (some (.ref f37)))
    (i37 : PySem.W.isFn K (.ref f37) = true)
    (l37 : K.lookup f37 = some ⟨oc37, od37, .func (PySem.W.fnOf "give_back" "Store.give_back" (defArgs sGiveB) (defBody sGiveB) (defScope sGiveB) .none kV37 dc37 pm37 an37 cd37 ct37), sl37⟩)
    (c37 : PySem.W.codeIn K cd37 "Store.give_back" = true)
    (k37 : PySem.W.keepIn K (.ref f37) = true)
    (a38 : PySem.W.findIn K (.ref S) "take_out" = some (some (.ref f38)))
    (i38 : PySem.W.isFn K (.ref f38) = true)
    (l38 : K.lookup f38 = some ⟨oc38, od38, .func (PySem.W.fnOf "take_out" "Store.take_out" (defArgs sTOut) (defBody sTOut) (defScope sTOut) .none kV38 dc38 pm38 an38 cd38 ct38), sl38⟩)
    (c38 : PySem.W.codeIn K cd38 "Store.take_out" = true)
    (k38 : PySem.W.keepIn K (.ref f38) = true)
    (a39 : PySem.W.findIn K (.ref S) "free_cells" = some (some (.ref f39)))
    (i39 : PySem.W.isFn K (.ref f39) = true)
    (l39 : K.lookup f39 = some ⟨oc39, od39, .func (PySem.W.fnOf "free_cells" "Store.free_cells" (defArgs sFreeC) (defBody sFreeC) (defScope sFreeC) .none kV39 dc39 pm39 an39 cd39 ct39), sl39⟩)
    (c39 : PySem.W.codeIn K cd39 "Store.free_cells" = true)
    (k39 : PySem.W.keepIn K (.ref f39) = true)
    (a40 : PySem.W.findIn K (.ref S) "waiting" = some (some (.ref f40)))
    (i40 : PySem.W.isFn K (.ref f40) = true)
    (l40 : K.lookup f40 = some ⟨oc40, od40, .func (PySem.W.fnOf "waiting" "Store.waiting" (defArgs sWait) (defBody sWait) (defScope sWait) .none kV40 dc40 pm40 an40 cd40 ct40), sl40⟩)
    (c40 : PySem.W.codeIn K cd40 "Store.waiting" = true)
    (k40 : PySem.W.keepIn K (.ref f40) = true)
    (a41 : PySem.W.findIn K (.ref S) "has_taken_out" = some (some (.ref f41)))
    (i41 : PySem.W.isFn K (.ref f41) = true)
    (l41 : K.lookup f41 = some ⟨oc41, od41, .func (PySem.W.fnOf "has_taken_out" "Store.has_taken_out" (defArgs sHasOut) (defBody sHasOut) (defScope sHasOut) .none kV41 dc41 pm41 an41 cd41 ct41), sl41⟩)
    (c41 : PySem.W.codeIn K cd41 "Store.has_taken_out" = true)
    (k41 : PySem.W.keepIn K (.ref f41) = true)
    (a42 : PySem.W.findIn K (.ref S) "has_waiting" = some (some (.ref f42)))
    (i42 : PySem.W.isFn K (.ref f42) = true)
    (l42 : K.lookup f42 = some ⟨oc42, od42, .func (PySem.W.fnOf "has_waiting" "Store.has_waiting" (defArgs sHasWait) (defBody sHasWait) (defScope sHasWait) .none kV42 dc42 pm42 an42 cd42 ct42), sl42⟩)
    (c42 : PySem.W.codeIn K cd42 "Store.has_waiting" = true)
    (k42 : PySem.W.keepIn K (.ref f42) = true)
    (a43 : PySem.W.findIn K (.ref S) "stamp" = some (some (.ref f43)))
    (i43 : PySem.W.isFn K (.ref f43) = true)
    (l43 : K.lookup f43 = some ⟨oc43, od43, .func (PySem.W.fnOf "stamp" "Store.stamp" (defArgs sStamp) (defBody sStamp) (defScope sStamp) .none kV43 dc43 pm43 an43 cd43 ct43), sl43⟩)
    (c43 : PySem.W.codeIn K cd43 "Store.stamp" = true)
    (k43 : PySem.W.keepIn K (.ref f43) = true)
    (a44 : PySem.W.findIn K (.ref S) "free_up_to" = some (some (.ref f44)))
    (i44 : PySem.W.isFn K (.ref f44) = true)
    (l44 : K.lookup f44 = some ⟨oc44, od44, .func (PySem.W.fnOf "free_up_to" "Store.free_up_to" (defArgs sFreeUp) (defBody sFreeUp) (defScope sFreeUp) .none kV44 dc44 pm44 an44 cd44 ct44), sl44⟩)
    (c44 : PySem.W.codeIn K cd44 "Store.free_up_to" = true)
    (k44 : PySem.W.keepIn K (.ref f44) = true)
    (a45 : PySem.W.findIn K (.ref SK) "__init__" = some (some (.ref f45)))
    (i45 : PySem.W.isFn K (.ref f45) = true)
    (l45 : K.lookup f45 = some ⟨oc45, od45, .func (PySem.W.fnOf "__init__" "Stack.__init__" (defArgs sKInit) (defBody sKInit) (defScope sKInit) .none kV45 dc45 pm45 an45 cd45 ct45), sl45⟩)
    (c45 : PySem.W.codeIn K cd45 "Stack.__init__" = true)
    (k45 : PySem.W.keepIn K (.ref f45) = true)
    (a46 : PySem.W.findIn K (.ref SK) "step" = some (some (.ref f46)))
    (i46 : PySem.W.isFn K (.ref f46) = true)
    (l46 : K.lookup f46 = some ⟨oc46, od46, .func (PySem.W.fnOf "step" "Stack.step" (defArgs sKStep) (defBody sKStep) (defScope sKStep) .none kV46 dc46 pm46 an46 cd46 ct46), sl46⟩)
    (c46 : PySem.W.codeIn K cd46 "Stack.step" = true)
    (k46 : PySem.W.keepIn K (.ref f46) = true)
    (a47 : PySem.W.findIn K (.ref SK) "ended" = some (some (.ref f47)))
    (i47 : PySem.W.isFn K (.ref f47) = true)
    (l47 : K.lookup f47 = some ⟨oc47, od47, .func (PySem.W.fnOf "ended" "Stack.ended" (defArgs sKEnded) (defBody sKEnded) (defScope sKEnded) .none kV47 dc47 pm47 an47 cd47 ct47), sl47⟩)
    (c47 : PySem.W.codeIn K cd47 "Stack.ended" = true)
    (k47 : PySem.W.keepIn K (.ref f47) = true)
    (a48 : PySem.W.findIn K (.ref SK) "value" = some (some (.ref f48)))
    (i48 : PySem.W.isFn K (.ref f48) = true)
    (l48 : K.lookup f48 = some ⟨oc48, od48, .func (PySem.W.fnOf "value" "Stack.value" (defArgs sKValue) (defBody sKValue) (defScope sKValue) .none kV48 dc48 pm48 an48 cd48 ct48), sl48⟩)
    (c48 : PySem.W.codeIn K cd48 "Stack.value" = true)
    (k48 : PySem.W.keepIn K (.ref f48) = true)
    (a49 : PySem.W.findIn K (.ref SK) "_check_thread" = some (some (.ref f49)))
    (i49 : PySem.W.isFn K (.ref f49) = true)
    (l49 : K.lookup f49 = some ⟨oc49, od49, .func (PySem.W.fnOf "_check_thread" "Stack._check_thread" (defArgs sKCheck) (defBody sKCheck) (defScope sKCheck) .none kV49 dc49 pm49 an49 cd49 ct49), sl49⟩)
    (c49 : PySem.W.codeIn K cd49 "Stack._check_thread" = true)
    (k49 : PySem.W.keepIn K (.ref f49) = true)
    (a50 : PySem.W.findIn K (.ref SK) "_settle" = some (some (.ref f50)))
    (i50 : PySem.W.isFn K (.ref f50) = true)
    (l50 : K.lookup f50 = some ⟨oc50, od50, .func (PySem.W.fnOf "_settle" "Stack._settle" (defArgs sKSettle) (defBody sKSettle) (defScope sKSettle) .none kV50 dc50 pm50 an50 cd50 ct50), sl50⟩)
    (c50 : PySem.W.codeIn K cd50 "Stack._settle" = true)
    (k50 : PySem.W.keepIn K (.ref f50) = true)
    (a51 : PySem.W.findIn K (.ref SK) "_end" = some (some (.ref f51)))
    (i51 : PySem.W.isFn K (.ref f51) = true)
    (l51 : K.lookup f51 = some ⟨oc51, od51, .func (PySem.W.fnOf "_end" "Stack._end" (defArgs sKEnd) (defBody sKEnd) (defScope sKEnd) .none kV51 dc51 pm51 an51 cd51 ct51), sl51⟩)
    (c51 : PySem.W.codeIn K cd51 "Stack._end" = true)
    (k51 : PySem.W.keepIn K (.ref f51) = true)
    (a52 : PySem.W.findIn K (.ref MA) "__init__" = some (some (.ref f52)))
    (i52 : PySem.W.isFn K (.ref f52) = true)
    (l52 : K.lookup f52 = some ⟨oc52, od52, .func (PySem.W.fnOf "__init__" "Machine.__init__" (defArgs sMaInit) (defBody sMaInit) (defScope sMaInit) .none kV52 dc52 pm52 an52 cd52 ct52), sl52⟩)
    (c52 : PySem.W.codeIn K cd52 "Machine.__init__" = true)
    (k52 : PySem.W.keepIn K (.ref f52) = true)
    (a53 : PySem.W.findIn K (.ref CE) "__init__" = some (some (.ref f53)))
    (i53 : PySem.W.isFn K (.ref f53) = true)
    (l53 : K.lookup f53 = some ⟨oc53, od53, .func (PySem.W.fnOf "__init__" "Entering.__init__" (defArgs sEnInit) (defBody sEnInit) (defScope sEnInit) .none kV53 dc53 pm53 an53 cd53 ct53), sl53⟩)
    (c53 : PySem.W.codeIn K cd53 "Entering.__init__" = true)
    (k53 : PySem.W.keepIn K (.ref f53) = true)
    (a54 : PySem.W.findIn K (.ref CE) "request" = some (some (.ref f54)))
    (i54 : PySem.W.isFn K (.ref f54) = true)
    (l54 : K.lookup f54 = some ⟨oc54, od54, .func (PySem.W.fnOf "request" "Entering.request" (defArgs sEnReq) (defBody sEnReq) (defScope sEnReq) .none kV54 dc54 pm54 an54 cd54 ct54), sl54⟩)
    (c54 : PySem.W.codeIn K cd54 "Entering.request" = true)
    (k54 : PySem.W.keepIn K (.ref f54) = true)
    (a55 : PySem.W.findIn K (.ref CE) "accept" = some (some (.ref f55)))
    (i55 : PySem.W.isFn K (.ref f55) = true)
    (l55 : K.lookup f55 = some ⟨oc55, od55, .func (PySem.W.fnOf "accept" "Entering.accept" (defArgs sEnAcc) (defBody sEnAcc) (defScope sEnAcc) .none kV55 dc55 pm55 an55 cd55 ct55), sl55⟩)
    (c55 : PySem.W.codeIn K cd55 "Entering.accept" = true)
    (k55 : PySem.W.keepIn K (.ref f55) = true)
    (a56 : PySem.W.findIn K (.ref CE) "_take_epoch" = some (some (.ref f56)))
    (i56 : PySem.W.isFn K (.ref f56) = true)
    (l56 : K.lookup f56 = some ⟨oc56, od56, .func (PySem.W.fnOf "_take_epoch" "Entering._take_epoch" (defArgs sEnEp) (defBody sEnEp) (defScope sEnEp) .none kV56 dc56 pm56 an56 cd56 ct56), sl56⟩)
    (c56 : PySem.W.codeIn K cd56 "Entering._take_epoch" = true)
    (k56 : PySem.W.keepIn K (.ref f56) = true)
    (a57 : PySem.W.findIn K (.ref CE) "_ask" = some (some (.ref f57)))
    (i57 : PySem.W.isFn K (.ref f57) = true)
    (l57 : K.lookup f57 = some ⟨oc57, od57, .func (PySem.W.fnOf "_ask" "Machine._ask" (defArgs sMaAsk) (defBody sMaAsk) (defScope sMaAsk) .none kV57 dc57 pm57 an57 cd57 ct57), sl57⟩)
    (c57 : PySem.W.codeIn K cd57 "Machine._ask" = true)
    (k57 : PySem.W.keepIn K (.ref f57) = true)
    (a58 : PySem.W.findIn K (.ref CE) "_end" = some (some (.ref f58)))
    (i58 : PySem.W.isFn K (.ref f58) = true)
    (l58 : K.lookup f58 = some ⟨oc58, od58, .func (PySem.W.fnOf "_end" "Machine._end" (defArgs sMaEnd) (defBody sMaEnd) (defScope sMaEnd) .none kV58 dc58 pm58 an58 cd58 ct58), sl58⟩)
    (c58 : PySem.W.codeIn K cd58 "Machine._end" = true)
    (k58 : PySem.W.keepIn K (.ref f58) = true)
    (a59 : PySem.W.findIn K (.ref CE) "_go_on" = some (some (.ref f59)))
    (i59 : PySem.W.isFn K (.ref f59) = true)
    (l59 : K.lookup f59 = some ⟨oc59, od59, .func (PySem.W.fnOf "_go_on" "Machine._go_on" (defArgs sMaGo) (defBody sMaGo) (defScope sMaGo) .none kV59 dc59 pm59 an59 cd59 ct59), sl59⟩)
    (c59 : PySem.W.codeIn K cd59 "Machine._go_on" = true)
    (k59 : PySem.W.keepIn K (.ref f59) = true)
    (a60 : PySem.W.findIn K (.ref CV) "__init__" = some (some (.ref f60)))
    (i60 : PySem.W.isFn K (.ref f60) = true)
    (l60 : K.lookup f60 = some ⟨oc60, od60, .func (PySem.W.fnOf "__init__" "Leaving.__init__" (defArgs sLvInit) (defBody sLvInit) (defScope sLvInit) .none kV60 dc60 pm60 an60 cd60 ct60), sl60⟩)
    (c60 : PySem.W.codeIn K cd60 "Leaving.__init__" = true)
    (k60 : PySem.W.keepIn K (.ref f60) = true)
    (a61 : PySem.W.findIn K (.ref CV) "request" = some (some (.ref f61)))
    (i61 : PySem.W.isFn K (.ref f61) = true)
    (l61 : K.lookup f61 = some ⟨oc61, od61, .func (PySem.W.fnOf "request" "Leaving.request" (defArgs sLvReq) (defBody sLvReq) (defScope sLvReq) .none kV61 dc61 pm61 an61 cd61 ct61), sl61⟩)
    (c61 : PySem.W.codeIn K cd61 "Leaving.request" = true)
    (k61 : PySem.W.keepIn K (.ref f61) = true)
    (a62 : PySem.W.findIn K (.ref CV) "accept" = some (some (.ref f62)))
    (i62 : PySem.W.isFn K (.ref f62) = true)
    (l62 : K.lookup f62 = some ⟨oc62, od62, .func (PySem.W.fnOf "accept" "Leaving.accept" (defArgs sLvAcc) (defBody sLvAcc) (defScope sLvAcc) .none kV62 dc62 pm62 an62 cd62 ct62), sl62⟩)
    (c62 : PySem.W.codeIn K cd62 "Leaving.accept" = true)
    (k62 : PySem.W.keepIn K (.ref f62) = true)
    (a63 : PySem.W.findIn K (.ref CV) "_take_stamp" = some (some (.ref f63)))
    (i63 : PySem.W.isFn K (.ref f63) = true)
    (l63 : K.lookup f63 = some ⟨oc63, od63, .func (PySem.W.fnOf "_take_stamp" "Leaving._take_stamp" (defArgs sLvSt) (defBody sLvSt) (defScope sLvSt) .none kV63 dc63 pm63 an63 cd63 ct63), sl63⟩)
    (c63 : PySem.W.codeIn K cd63 "Leaving._take_stamp" = true)
    (k63 : PySem.W.keepIn K (.ref f63) = true)
    (a64 : PySem.W.findIn K (.ref CV) "_leave" = some (some (.ref f64)))
    (i64 : PySem.W.isFn K (.ref f64) = true)
    (l64 : K.lookup f64 = some ⟨oc64, od64, .func (PySem.W.fnOf "_leave" "Leaving._leave" (defArgs sLvLv) (defBody sLvLv) (defScope sLvLv) .none kV64 dc64 pm64 an64 cd64 ct64), sl64⟩)
    (c64 : PySem.W.codeIn K cd64 "Leaving._leave" = true)
    (k64 : PySem.W.keepIn K (.ref f64) = true)
    (a65 : PySem.W.findIn K (.ref CV) "_end_here" = some (some (.ref f65)))
    (i65 : PySem.W.isFn K (.ref f65) = true)
    (l65 : K.lookup f65 = some ⟨oc65, od65, .func (PySem.W.fnOf "_end_here" "Leaving._end_here" (defArgs sLvHere) (defBody sLvHere) (defScope sLvHere) .none kV65 dc65 pm65 an65 cd65 ct65), sl65⟩)
    (c65 : PySem.W.codeIn K cd65 "Leaving._end_here" = true)
    (k65 : PySem.W.keepIn K (.ref f65) = true)
    (a66 : PySem.W.findIn K (.ref CV) "_take_epoch" = some (some (.ref f66)))
    (i66 : PySem.W.isFn K (.ref f66) = true)
    (l66 : K.lookup f66 = some ⟨oc66, od66, .func (PySem.W.fnOf "_take_epoch" "Leaving._take_epoch" (defArgs sLvEp) (defBody sLvEp) (defScope sLvEp) .none kV66 dc66 pm66 an66 cd66 ct66), sl66⟩)
    (c66 : PySem.W.codeIn K cd66 "Leaving._take_epoch" = true)
    (k66 : PySem.W.keepIn K (.ref f66) = true)
    (a67 : PySem.W.findIn K (.ref CV) "_look" = some (some (.ref f67)))
    (i67 : PySem.W.isFn K (.ref f67) = true)
    (l67 : K.lookup f67 = some ⟨oc67, od67, .func (PySem.W.fnOf "_look" "Leaving._look" (defArgs sLvLook) (defBody sLvLook) (defScope sLvLook) .none kV67 dc67 pm67 an67 cd67 ct67), sl67⟩)
    (c67 : PySem.W.codeIn K cd67 "Leaving._look" = true)
    (k67 : PySem.W.keepIn K (.ref f67) = true)
    (a68 : PySem.W.findIn K (.ref CV) "_take_slot" = some (some (.ref f68)))
    (i68 : PySem.W.isFn K (.ref f68) = true)
    (l68 : K.lookup f68 = some ⟨oc68, od68, .func (PySem.W.fnOf "_take_slot" "Leaving._take_slot" (defArgs sLvSlot) (defBody sLvSlot) (defScope sLvSlot) .none kV68 dc68 pm68 an68 cd68 ct68), sl68⟩)
    (c68 : PySem.W.codeIn K cd68 "Leaving._take_slot" = true)
    (k68 : PySem.W.keepIn K (.ref f68) = true)
    (a69 : PySem.W.findIn K (.ref CV) "_take_swap" = some (some (.ref f69)))
    (i69 : PySem.W.isFn K (.ref f69) = true)
    (l69 : K.lookup f69 = some ⟨oc69, od69, .func (PySem.W.fnOf "_take_swap" "Leaving._take_swap" (defArgs sLvSwap) (defBody sLvSwap) (defScope sLvSwap) .none kV69 dc69 pm69 an69 cd69 ct69), sl69⟩)
    (c69 : PySem.W.codeIn K cd69 "Leaving._take_swap" = true)
    (k69 : PySem.W.keepIn K (.ref f69) = true)
    (a70 : PySem.W.findIn K (.ref CV) "_free_waiting" = some (some (.ref f70)))
    (i70 : PySem.W.isFn K (.ref f70) = true)
    (l70 : K.lookup f70 = some ⟨oc70, od70, .func (PySem.W.fnOf "_free_waiting" "Leaving._free_waiting" (defArgs sLvFree) (defBody sLvFree) (defScope sLvFree) .none kV70 dc70 pm70 an70 cd70 ct70), sl70⟩)
    (c70 : PySem.W.codeIn K cd70 "Leaving._free_waiting" = true)
    (k70 : PySem.W.keepIn K (.ref f70) = true)
    (a71 : PySem.W.findIn K (.ref CV) "_ask" = some (some (.ref f71)))
    (i71 : PySem.W.isFn K (.ref f71) = true)
    (l71 : K.lookup f71 = some ⟨oc71, od71, .func (PySem.W.fnOf "_ask" "Machine._ask" (defArgs sMaAsk) (defBody sMaAsk) (defScope sMaAsk) .none kV71 dc71 pm71 an71 cd71 ct71), sl71⟩)
    (c71 : PySem.W.codeIn K cd71 "Machine._ask" = true)
    (k71 : PySem.W.keepIn K (.ref f71) = true)
    (a72 : PySem.W.findIn K (.ref CV) "_end" = some (some (.ref f72)))
    (i72 : PySem.W.isFn K (.ref f72) = true)
    (l72 : K.lookup f72 = some ⟨oc72, od72, .func (PySem.W.fnOf "_end" "Machine._end" (defArgs sMaEnd) (defBody sMaEnd) (defScope sMaEnd) .none kV72 dc72 pm72 an72 cd72 ct72), sl72⟩)
    (c72 : PySem.W.codeIn K cd72 "Machine._end" = true)
    (k72 : PySem.W.keepIn K (.ref f72) = true)
    (a73 : PySem.W.findIn K (.ref CV) "_go_on" = some (some (.ref f73)))
    (i73 : PySem.W.isFn K (.ref f73) = true)
    (l73 : K.lookup f73 = some ⟨oc73, od73, .func (PySem.W.fnOf "_go_on" "Machine._go_on" (defArgs sMaGo) (defBody sMaGo) (defScope sMaGo) .none kV73 dc73 pm73 an73 cd73 ct73), sl73⟩)
    (c73 : PySem.W.codeIn K cd73 "Machine._go_on" = true)
    (k73 : PySem.W.keepIn K (.ref f73) = true)
    (pgC : PySem.W.plainGet K C Str.empty = true)
    (hdC : PySem.W.hasDictIn K C = true)
    (poC : PySem.W.plainOver K C = true)
    (saC : PySem.W.findIn K (.ref C) "__setattr__" = some (some (.builtin "object.__setattr__")))
    (mkC : PySem.W.makesIn K C = true)
    (kcC : PySem.W.keepIn K (.ref C) = true)
    (pgM : PySem.W.plainGet K M Str.empty = true)
    (hdM : PySem.W.hasDictIn K M = true)
    (poM : PySem.W.plainOver K M = true)
    (saM : PySem.W.findIn K (.ref M) "__setattr__" = some (some (.builtin "object.__setattr__")))
    (mkM : PySem.W.makesIn K M = true)
    (kcM : PySem.W.keepIn K (.ref M) = true)
    (pgS : PySem.W.plainGet K S Str.empty = true)
    (hdS : PySem.W.hasDictIn K S = true)
    (poS : PySem.W.plainOver K S = true)
    (saS : PySem.W.findIn K (.ref S) "__setattr__" = some (some (.builtin "object.__setattr__")))
    (mkS : PySem.W.makesIn K S = true)
    (kcS : PySem.W.keepIn K (.ref S) = true)
    (pgSK : PySem.W.plainGet K SK Str.empty = true)
    (hdSK : PySem.W.hasDictIn K SK = true)
    (poSK : PySem.W.plainOver K SK = true)
    (saSK : PySem.W.findIn K (.ref SK) "__setattr__" = some (some (.builtin "object.__setattr__")))
    (mkSK : PySem.W.makesIn K SK = true)
    (kcSK : PySem.W.keepIn K (.ref SK) = true)
    (pgMA : PySem.W.plainGet K MA Str.empty = true)
    (hdMA : PySem.W.hasDictIn K MA = true)
    (poMA : PySem.W.plainOver K MA = true)
    (saMA : PySem.W.findIn K (.ref MA) "__setattr__" = some (some (.builtin "object.__setattr__")))
    (mkMA : PySem.W.makesIn K MA = true)
    (kcMA : PySem.W.keepIn K (.ref MA) = true)
    (pgCE : PySem.W.plainGet K CE Str.empty = true)
    (hdCE : PySem.W.hasDictIn K CE = true)
    (poCE : PySem.W.plainOver K CE = true)
    (saCE : PySem.W.findIn K (.ref CE) "__setattr__" = some (some (.builtin "object.__setattr__")))
    (mkCE : PySem.W.makesIn K CE = true)
    (kcCE : PySem.W.keepIn K (.ref CE) = true)
    (pgCV : PySem.W.plainGet K CV Str.empty = true)
    (hdCV : PySem.W.hasDictIn K CV = true)
    (poCV : PySem.W.plainOver K CV = true)
    (saCV : PySem.W.findIn K (.ref CV) "__setattr__" = some (some (.builtin "object.__setattr__")))
    (mkCV : PySem.W.makesIn K CV = true)
    (kcCV : PySem.W.keepIn K (.ref CV) = true)
    (gEm : PySem.W.nsIn K mainGlobals "EMPTY" = some (some (.ref E0)))
    (Cthreads : PySem.W.findIn K (.ref C) "threads" = some none)
    (Cwords : PySem.W.findIn K (.ref C) "words" = some none)
    (Crecords : PySem.W.findIn K (.ref C) "records" = some none)
    (Mlayout : PySem.W.findIn K (.ref M) "layout" = some none)
    (Mcount : PySem.W.findIn K (.ref M) "count" = some none)
    (M_passing : PySem.W.findIn K (.ref M) "_passing" = some none)
    (M_trails : PySem.W.findIn K (.ref M) "_trails" = some none)
    (M_lost : PySem.W.findIn K (.ref M) "_lost" = some none)
    (M_notes : PySem.W.findIn K (.ref M) "_notes" = some none)
    (M_log : PySem.W.findIn K (.ref M) "_log" = some none)
    (Slayout : PySem.W.findIn K (.ref S) "layout" = some none)
    (Sthread : PySem.W.findIn K (.ref S) "thread" = some none)
    (S_free : PySem.W.findIn K (.ref S) "_free" = some none)
    (S_waiting : PySem.W.findIn K (.ref S) "_waiting" = some none)
    (S_out : PySem.W.findIn K (.ref S) "_out" = some none)
    (SK_machines : PySem.W.findIn K (.ref SK) "_machines" = some none)
    (SK_value : PySem.W.findIn K (.ref SK) "_value" = some none)
    (CE_wanted : PySem.W.findIn K (.ref CE) "_wanted" = some none)
    (CE_left : PySem.W.findIn K (.ref CE) "_left" = some none)
    (CE_then : PySem.W.findIn K (.ref CE) "_then" = some none)
    (CE_epoch_cell : PySem.W.findIn K (.ref CE) "_epoch_cell" = some none)
    (CE_slot : PySem.W.findIn K (.ref CE) "_slot" = some none)
    (CE_entered : PySem.W.findIn K (.ref CE) "_entered" = some none)
    (CV_wanted : PySem.W.findIn K (.ref CV) "_wanted" = some none)
    (CV_left : PySem.W.findIn K (.ref CV) "_left" = some none)
    (CV_then : PySem.W.findIn K (.ref CV) "_then" = some none)
    (CV_store : PySem.W.findIn K (.ref CV) "_store" = some none)
    (CV_epoch_cell : PySem.W.findIn K (.ref CV) "_epoch_cell" = some none)
    (CV_slots : PySem.W.findIn K (.ref CV) "_slots" = some none)
    (CV_epoch : PySem.W.findIn K (.ref CV) "_epoch" = some none)
    (hn : PySem.W.specialIn K (.builtin "object.__class__") "__get__" = some (some (.builtin "getset_descriptor.__get__")))
    (ht : PySem.W.takesIn K (.builtin "object.__class__") = some true)
    (xN : PySem.W.excIn K NV bmVE "ValueError.__new__" = true)
    (kN : PySem.W.keepIn K (.ref NV) = true)
    (sN : PySem.W.subIn K (.ref NV) (.type "BaseException") = some true)
    (tN : PySem.W.typeIn K (.ref NV) = some (.type "type"))
    (sL : PySem.W.subIn K (.ref LE) (.type "BaseException") = some true)
    (dL : PySem.W.hasDictIn K LE = true)
    (tL : PySem.W.typeIn K (.ref LE) = some (.type "type"))
    (sNL : PySem.W.subIn K (.ref NV) (.ref LE) = some true)
    (Ng : PySem.W.findIn K (.ref NV) "__getattribute__" = some (some (.builtin "BaseException.__getattribute__")))
    (Nk : PySem.W.findIn K (.ref NV) "__getattr__" = some none)
    (Nd : PySem.W.hasDictIn K NV = true)
    (Na : PySem.W.findIn K (.ref NV) "__class__" = some (some (.builtin "object.__class__")))
    (Nm : PySem.W.mroIn K NV (.type "object") = some true)
    (bgEn : PySem.W.specialIn K (.ref f56) "__get__" = some (some (.builtin "function.__get__")))
    (btEn : PySem.W.takesIn K (.ref f56) = some false)
    (bfEn : PySem.W.fnIn K f56 = true)
    (bgEp : PySem.W.specialIn K (.ref f66) "__get__" = some (some (.builtin "function.__get__")))
    (btEp : PySem.W.takesIn K (.ref f66) = some false)
    (bfEp : PySem.W.fnIn K f66 = true)
    (bgHe : PySem.W.specialIn K (.ref f65) "__get__" = some (some (.builtin "function.__get__")))
    (btHe : PySem.W.takesIn K (.ref f65) = some false)
    (bfHe : PySem.W.fnIn K f65 = true)
    (bgSt : PySem.W.specialIn K (.ref f63) "__get__" = some (some (.builtin "function.__get__")))
    (btSt : PySem.W.takesIn K (.ref f63) = some false)
    (bfSt : PySem.W.fnIn K f63 = true)
    (bgSl : PySem.W.specialIn K (.ref f68) "__get__" = some (some (.builtin "function.__get__")))
    (btSl : PySem.W.takesIn K (.ref f68) = some false)
    (bfSl : PySem.W.fnIn K f68 = true)
    (bgSw : PySem.W.specialIn K (.ref f69) "__get__" = some (some (.builtin "function.__get__")))
    (btSw : PySem.W.takesIn K (.ref f69) = some false)
    (bfSw : PySem.W.fnIn K f69 = true)
    (mr : PySem.W.readsIn K MA (.type "type") = true)
    (mc : PySem.W.findCls K (.ref MA) (.type "type") "__init__" = some (.val (.ref f52)))
    (mg0 : PySem.W.specialIn K (.ref MA) "__getattribute__" = some (some (.builtin "type.__getattribute__")))
    (z_isinstance : PySem.W.nsIn K mainGlobals "isinstance" = some none)
    (z_int : PySem.W.nsIn K mainGlobals "int" = some none)
    (z_bool : PySem.W.nsIn K mainGlobals "bool" = some none)
    (z_str : PySem.W.nsIn K mainGlobals "str" = some none)
    (z_tuple : PySem.W.nsIn K mainGlobals "tuple" = some none)
    (z_list : PySem.W.nsIn K mainGlobals "list" = some none)
    (z_range : PySem.W.nsIn K mainGlobals "range" = some none)
    (z_len : PySem.W.nsIn K mainGlobals "len" = some none)
    (z_abs : PySem.W.nsIn K mainGlobals "abs" = some none)
    (z_max : PySem.W.nsIn K mainGlobals "max" = some none)
    (z_min : PySem.W.nsIn K mainGlobals "min" = some none)
    (z_zip : PySem.W.nsIn K mainGlobals "zip" = some none)
    (z_sorted : PySem.W.nsIn K mainGlobals "sorted" = some none)
    : ∃ fd : FuncData, (∀ (s : Shared) (v : Value), BindsTo s fd ⟨[v], []⟩ [("script", v)]) ∧ ∀ base : Heap, K.In base → base.Ns mainGlobals mg → FnOk l.prog w K mg base CX0 20 fa fd ["script"] (spLaw K) := by
  have e := hfa.symm.trans (PySem.W.mg_of X G a16)
  cases e
  have F1 := fun_mk (st := sWhole) l1 c1 k1
  have b1 := F1.binds (ps := ["value"]) fun _ _ _ _ _ _ us hl => match us, hl with | [_], _ => rfl
  have T_is_whole : GT K mg "is_whole" sWhole ["value"] := ⟨_, _, F1, PySem.W.mg_of X G a1, b1⟩
  have F2 := fun_mk (st := sWithin) l2 c2 k2
  have b2 := F2.binds (ps := ["value", "low", "high"]) fun _ _ _ _ _ _ us hl => match us, hl with | [_, _, _], _ => rfl
  have T_is_within : GT K mg "is_within" sWithin ["value", "low", "high"] := ⟨_, _, F2, PySem.W.mg_of X G a2, b2⟩
  have F3 := fun_mk (st := sIsValue) l3 c3 k3
  have b3 := F3.binds (ps := ["value"]) fun _ _ _ _ _ _ us hl => match us, hl with | [_], _ => rfl
  have T_is_value : GT K mg "is_value" sIsValue ["value"] := ⟨_, _, F3, PySem.W.mg_of X G a3, b3⟩
  have F4 := fun_mk (st := sIsSame) l4 c4 k4
  have b4 := F4.binds (ps := ["one", "other"]) fun _ _ _ _ _ _ us hl => match us, hl with | [_, _], _ => rfl
  have T_is_same : GT K mg "is_same" sIsSame ["one", "other"] := ⟨_, _, F4, PySem.W.mg_of X G a4, b4⟩
  have F5 := fun_mk (st := sDivided) l5 c5 k5
  have b5 := F5.binds (ps := ["layout", "cells", "thread"]) fun _ _ _ _ _ _ us hl => match us, hl with | [_, _, _], _ => rfl
  have T_divided : GT K mg "divided" sDivided ["layout", "cells", "thread"] := ⟨_, _, F5, PySem.W.mg_of X G a5, b5⟩
  have F6 := fun_mk (st := sOther) l6 c6 k6
  have b6 := F6.binds (ps := ["store"]) fun _ _ _ _ _ _ us hl => match us, hl with | [_], _ => rfl
  have T_other_slots : GT K mg "other_slots" sOther ["store"] := ⟨_, _, F6, PySem.W.mg_of X G a6, b6⟩
  have F7 := fun_mk (st := sIsAcc) l7 c7 k7
  have b7 := F7.binds (ps := ["layout", "request"]) fun _ _ _ _ _ _ us hl => match us, hl with | [_, _], _ => rfl
  have T_is_access : GT K mg "is_access" sIsAcc ["layout", "request"] := ⟨_, _, F7, PySem.W.mg_of X G a7, b7⟩
  have F8 := fun_mk (st := sPass) l8 c8 k8
  have b8 := F8.binds (ps := ["layout"]) fun _ _ _ _ _ _ us hl => match us, hl with | [_], _ => rfl
  have T_passing_values : GT K mg "passing_values" sPass ["layout"] := ⟨_, _, F8, PySem.W.mg_of X G a8, b8⟩
  have F9 := fun_mk (st := sTrails) l9 c9 k9
  have b9 := F9.binds (ps := ["layout"]) fun _ _ _ _ _ _ us hl => match us, hl with | [_], _ => rfl
  have T_first_trails : GT K mg "first_trails" sTrails ["layout"] := ⟨_, _, F9, PySem.W.mg_of X G a9, b9⟩
  have F10 := fun_mk (st := sNotes) l10 c10 k10
  have b10 := F10.binds (ps := ["layout"]) fun _ _ _ _ _ _ us hl => match us, hl with | [_], _ => rfl
  have T_no_notes : GT K mg "no_notes" sNotes ["layout"] := ⟨_, _, F10, PySem.W.mg_of X G a10, b10⟩
  have F11 := fun_mk (st := sTape) l11 c11 k11
  have b11 := F11.binds (ps := ["script"]) fun _ _ _ _ _ _ us hl => match us, hl with | [_], _ => rfl
  have T__law_tape : GT K mg "_law_tape" sTape ["script"] := ⟨_, _, F11, PySem.W.mg_of X G a11, b11⟩
  have F12 := fun_mk (st := sAt) l12 c12 k12
  have b12 := F12.binds (ps := ["tape", "k"]) fun _ _ _ _ _ _ us hl => match us, hl with | [_, _], _ => rfl
  have T__law_at : GT K mg "_law_at" sAt ["tape", "k"] := ⟨_, _, F12, PySem.W.mg_of X G a12, b12⟩
  have F13 := fun_mk (st := sRun) l13 c13 k13
  have b13 := F13.binds (ps := ["memory", "machine", "thread"]) fun _ _ _ _ _ _ us hl => match us, hl with | [_, _, _], _ => rfl
  have T__law_run : GT K mg "_law_run" sRun ["memory", "machine", "thread"] := ⟨_, _, F13, PySem.W.mg_of X G a13, b13⟩
  have F14 := fun_mk (st := sLeft) l14 c14 k14
  have b14 := F14.binds (ps := ["epoch", "slots", "thread", "waits", "stamped"]) fun _ _ _ _ _ _ us hl => match us, hl with | [_, _, _, _, _], _ => rfl
  have T__law_left : GT K mg "_law_left" sLeft ["epoch", "slots", "thread", "waits", "stamped"] := ⟨_, _, F14, PySem.W.mg_of X G a14, b14⟩
  have F15 := fun_mk (st := sSlots) l15 c15 k15
  have b15 := F15.binds (ps := ["memory", "tape", "place", "thread", "epoch", "threads"]) fun _ _ _ _ _ _ us hl => match us, hl with | [_, _, _, _, _, _], _ => rfl
  have T__law_slots : GT K mg "_law_slots" sSlots ["memory", "tape", "place", "thread", "epoch", "threads"] := ⟨_, _, F15, PySem.W.mg_of X G a15, b15⟩
  have F16 := fun_mk (st := sLaw) l16 c16 k16
  have F17 := fun_mk (st := sLInit) l17 c17 k17
  have b17 := F17.binds (ps := ["self", "threads", "words", "records"]) fun _ _ _ _ _ _ us hl => match us, hl with | [_, _, _, _], _ => rfl
  have Mk_Layout : Mk K C f17 := ⟨mkC, a17, i17, kcC⟩
  have FI_Layout := F17
  have bI_Layout := b17
  have F18 := fun_mk (st := sEpoch) l18 c18 k18
  have b18 := F18.binds (ps := ["self"]) fun _ _ _ _ _ _ us hl => match us, hl with | [_], _ => rfl
  have T_Layout_epoch : MT K C "epoch" "Layout.epoch" sEpoch ["self"] := ⟨_, _, F18, ⟨a18, i18, k18⟩, b18⟩
  have F19 := fun_mk (st := sESlot) l19 c19 k19
  have b19 := F19.binds (ps := ["self", "thread"]) fun _ _ _ _ _ _ us hl => match us, hl with | [_, _], _ => rfl
  have T_Layout_epoch_slot : MT K C "epoch_slot" "Layout.epoch_slot" sESlot ["self", "thread"] := ⟨_, _, F19, ⟨a19, i19, k19⟩, b19⟩
  have F20 := fun_mk (st := sCSlot) l20 c20 k20
  have b20 := F20.binds (ps := ["self", "thread"]) fun _ _ _ _ _ _ us hl => match us, hl with | [_, _], _ => rfl
  have T_Layout_call_slot : MT K C "call_slot" "Layout.call_slot" sCSlot ["self", "thread"] := ⟨_, _, F20, ⟨a20, i20, k20⟩, b20⟩
  have F21 := fun_mk (st := sWord) l21 c21 k21
  have b21 := F21.binds (ps := ["self", "index"]) fun _ _ _ _ _ _ us hl => match us, hl with | [_, _], _ => rfl
  have T_Layout_word : MT K C "word" "Layout.word" sWord ["self", "index"] := ⟨_, _, F21, ⟨a21, i21, k21⟩, b21⟩
  have F22 := fun_mk (st := sRecord) l22 c22 k22
  have b22 := F22.binds (ps := ["self", "index"]) fun _ _ _ _ _ _ us hl => match us, hl with | [_, _], _ => rfl
  have T_Layout_record : MT K C "record" "Layout.record" sRecord ["self", "index"] := ⟨_, _, F22, ⟨a22, i22, k22⟩, b22⟩
  have F23 := fun_mk (st := sCells) l23 c23 k23
  have b23 := F23.binds (ps := ["self"]) fun _ _ _ _ _ _ us hl => match us, hl with | [_], _ => rfl
  have T_Layout_cells : MT K C "cells" "Layout.cells" sCells ["self"] := ⟨_, _, F23, ⟨a23, i23, k23⟩, b23⟩
  have F24 := fun_mk (st := sIsCell) l24 c24 k24
  have b24 := F24.binds (ps := ["self", "cell"]) fun _ _ _ _ _ _ us hl => match us, hl with | [_, _], _ => rfl
  have T_Layout_is_cell : MT K C "is_cell" "Layout.is_cell" sIsCell ["self", "cell"] := ⟨_, _, F24, ⟨a24, i24, k24⟩, b24⟩
  have F25 := fun_mk (st := sIsLast) l25 c25 k25
  have b25 := F25.binds (ps := ["self", "cell"]) fun _ _ _ _ _ _ us hl => match us, hl with | [_, _], _ => rfl
  have T_Layout_is_lasting : MT K C "is_lasting" "Layout.is_lasting" sIsLast ["self", "cell"] := ⟨_, _, F25, ⟨a25, i25, k25⟩, b25⟩
  have F26 := fun_mk (st := sHasT) l26 c26 k26
  have b26 := F26.binds (ps := ["self", "thread"]) fun _ _ _ _ _ _ us hl => match us, hl with | [_, _], _ => rfl
  have T_Layout_has_thread : MT K C "has_thread" "Layout.has_thread" sHasT ["self", "thread"] := ⟨_, _, F26, ⟨a26, i26, k26⟩, b26⟩
  have F27 := fun_mk (st := sMInit) l27 c27 k27
  have b27 := F27.binds (ps := ["self", "layout"]) fun _ _ _ _ _ _ us hl => match us, hl with | [_, _], _ => rfl
  have Mk_Memory : Mk K M f27 := ⟨mkM, a27, i27, kcM⟩
  have FI_Memory := F27
  have bI_Memory := b27
  have F28 := fun_mk (st := sAccess) l28 c28 k28
  have b28 := F28.binds (ps := ["self", "thread", "request"]) fun _ _ _ _ _ _ us hl => match us, hl with | [_, _, _], _ => rfl
  have T_Memory_access : MT K M "access" "Memory.access" sAccess ["self", "thread", "request"] := ⟨_, _, F28, ⟨a28, i28, k28⟩, b28⟩
  have F29 := fun_mk (st := sPeek) l29 c29 k29
  have b29 := F29.binds (ps := ["self", "cell"]) fun _ _ _ _ _ _ us hl => match us, hl with | [_, _], _ => rfl
  have T_Memory_peek : MT K M "peek" "Memory.peek" sPeek ["self", "cell"] := ⟨_, _, F29, ⟨a29, i29, k29⟩, b29⟩
  have F30 := fun_mk (st := sResult) l30 c30 k30
  have b30 := F30.binds (ps := ["self", "thread", "request"]) fun _ _ _ _ _ _ us hl => match us, hl with | [_, _, _], _ => rfl
  have T_Memory__result : MT K M "_result" "Memory._result" sResult ["self", "thread", "request"] := ⟨_, _, F30, ⟨a30, i30, k30⟩, b30⟩
  have F31 := fun_mk (st := sGive) l31 c31 k31
  have b31 := F31.binds (ps := ["self", "cell", "value"]) fun _ _ _ _ _ _ us hl => match us, hl with | [_, _, _], _ => rfl
  have T_Memory__give : MT K M "_give" "Memory._give" sGive ["self", "cell", "value"] := ⟨_, _, F31, ⟨a31, i31, k31⟩, b31⟩
  have F32 := fun_mk (st := sGiveIf) l32 c32 k32
  have b32 := F32.binds (ps := ["self", "cell", "old", "new"]) fun _ _ _ _ _ _ us hl => match us, hl with | [_, _, _, _], _ => rfl
  have T_Memory__give_if : MT K M "_give_if" "Memory._give_if" sGiveIf ["self", "cell", "old", "new"] := ⟨_, _, F32, ⟨a32, i32, k32⟩, b32⟩
  have F33 := fun_mk (st := sFence) l33 c33 k33
  have b33 := F33.binds (ps := ["self", "thread"]) fun _ _ _ _ _ _ us hl => match us, hl with | [_, _], _ => rfl
  have T_Memory__fence : MT K M "_fence" "Memory._fence" sFence ["self", "thread"] := ⟨_, _, F33, ⟨a33, i33, k33⟩, b33⟩
  have F34 := fun_mk (st := sShort) l34 c34 k34
  have b34 := F34.binds (ps := ["self", "cell", "steps"]) fun _ _ _ _ _ _ us hl => match us, hl with | [_, _, _], _ => rfl
  have T_Memory__shorten : MT K M "_shorten" "Memory._shorten" sShort ["self", "cell", "steps"] := ⟨_, _, F34, ⟨a34, i34, k34⟩, b34⟩
  have F35 := fun_mk (st := sSInit) l35 c35 k35
  have b35 := F35.binds (ps := ["self", "layout", "thread", "cells"]) fun _ _ _ _ _ _ us hl => match us, hl with | [_, _, _, _], _ => rfl
  have Mk_Store : Mk K S f35 := ⟨mkS, a35, i35, kcS⟩
  have FI_Store := F35
  have bI_Store := b35
  have F36 := fun_mk (st := sTake) l36 c36 k36
  have b36 := F36.binds (ps := ["self", "many"]) fun _ _ _ _ _ _ us hl => match us, hl with | [_, _], _ => rfl
  have T_Store_take : MT K S "take" "Store.take" sTake ["self", "many"] := ⟨_, _, F36, ⟨a36, i36, k36⟩, b36⟩
  have F37 := fun_mk (st := sGiveB) l37 c37 k37
  have b37 := F37.binds (ps := ["self", "cells"]) fun _ _ _ _ _ _ us hl => match us, hl with | [_, _], _ => rfl
  have T_Store_give_back : MT K S "give_back" "Store.give_back" sGiveB ["self", "cells"] := ⟨_, _, F37, ⟨a37, i37, k37⟩, b37⟩
  have F38 := fun_mk (st := sTOut) l38 c38 k38
  have b38 := F38.binds (ps := ["self", "cells"]) fun _ _ _ _ _ _ us hl => match us, hl with | [_, _], _ => rfl
  have T_Store_take_out : MT K S "take_out" "Store.take_out" sTOut ["self", "cells"] := ⟨_, _, F38, ⟨a38, i38, k38⟩, b38⟩
  have F39 := fun_mk (st := sFreeC) l39 c39 k39
  have b39 := F39.binds (ps := ["self"]) fun _ _ _ _ _ _ us hl => match us, hl with | [_], _ => rfl
  have T_Store_free_cells : MT K S "free_cells" "Store.free_cells" sFreeC ["self"] := ⟨_, _, F39, ⟨a39, i39, k39⟩, b39⟩
  have F40 := fun_mk (st := sWait) l40 c40 k40
  have b40 := F40.binds (ps := ["self"]) fun _ _ _ _ _ _ us hl => match us, hl with | [_], _ => rfl
  have T_Store_waiting : MT K S "waiting" "Store.waiting" sWait ["self"] := ⟨_, _, F40, ⟨a40, i40, k40⟩, b40⟩
  have F41 := fun_mk (st := sHasOut) l41 c41 k41
  have b41 := F41.binds (ps := ["self"]) fun _ _ _ _ _ _ us hl => match us, hl with | [_], _ => rfl
  have T_Store_has_taken_out : MT K S "has_taken_out" "Store.has_taken_out" sHasOut ["self"] := ⟨_, _, F41, ⟨a41, i41, k41⟩, b41⟩
  have F42 := fun_mk (st := sHasWait) l42 c42 k42
  have b42 := F42.binds (ps := ["self"]) fun _ _ _ _ _ _ us hl => match us, hl with | [_], _ => rfl
  have T_Store_has_waiting : MT K S "has_waiting" "Store.has_waiting" sHasWait ["self"] := ⟨_, _, F42, ⟨a42, i42, k42⟩, b42⟩
  have F43 := fun_mk (st := sStamp) l43 c43 k43
  have b43 := F43.binds (ps := ["self", "epoch"]) fun _ _ _ _ _ _ us hl => match us, hl with | [_, _], _ => rfl
  have T_Store_stamp : MT K S "stamp" "Store.stamp" sStamp ["self", "epoch"] := ⟨_, _, F43, ⟨a43, i43, k43⟩, b43⟩
  have F44 := fun_mk (st := sFreeUp) l44 c44 k44
  have b44 := F44.binds (ps := ["self", "last"]) fun _ _ _ _ _ _ us hl => match us, hl with | [_, _], _ => rfl
  have T_Store_free_up_to : MT K S "free_up_to" "Store.free_up_to" sFreeUp ["self", "last"] := ⟨_, _, F44, ⟨a44, i44, k44⟩, b44⟩
  have F45 := fun_mk (st := sKInit) l45 c45 k45
  have b45 := F45.binds (ps := ["self", "machine"]) fun _ _ _ _ _ _ us hl => match us, hl with | [_, _], _ => rfl
  have Mk_Stack : Mk K SK f45 := ⟨mkSK, a45, i45, kcSK⟩
  have FI_Stack := F45
  have bI_Stack := b45
  have F46 := fun_mk (st := sKStep) l46 c46 k46
  have b46 := F46.binds (ps := ["self", "memory", "thread"]) fun _ _ _ _ _ _ us hl => match us, hl with | [_, _, _], _ => rfl
  have T_Stack_step : MT K SK "step" "Stack.step" sKStep ["self", "memory", "thread"] := ⟨_, _, F46, ⟨a46, i46, k46⟩, b46⟩
  have F47 := fun_mk (st := sKEnded) l47 c47 k47
  have b47 := F47.binds (ps := ["self"]) fun _ _ _ _ _ _ us hl => match us, hl with | [_], _ => rfl
  have T_Stack_ended : MT K SK "ended" "Stack.ended" sKEnded ["self"] := ⟨_, _, F47, ⟨a47, i47, k47⟩, b47⟩
  have F48 := fun_mk (st := sKValue) l48 c48 k48
  have b48 := F48.binds (ps := ["self"]) fun _ _ _ _ _ _ us hl => match us, hl with | [_], _ => rfl
  have T_Stack_value : MT K SK "value" "Stack.value" sKValue ["self"] := ⟨_, _, F48, ⟨a48, i48, k48⟩, b48⟩
  have F49 := fun_mk (st := sKCheck) l49 c49 k49
  have b49 := F49.binds (ps := ["self", "memory", "thread"]) fun _ _ _ _ _ _ us hl => match us, hl with | [_, _, _], _ => rfl
  have T_Stack__check_thread : MT K SK "_check_thread" "Stack._check_thread" sKCheck ["self", "memory", "thread"] := ⟨_, _, F49, ⟨a49, i49, k49⟩, b49⟩
  have F50 := fun_mk (st := sKSettle) l50 c50 k50
  have b50 := F50.binds (ps := ["self"]) fun _ _ _ _ _ _ us hl => match us, hl with | [_], _ => rfl
  have T_Stack__settle : MT K SK "_settle" "Stack._settle" sKSettle ["self"] := ⟨_, _, F50, ⟨a50, i50, k50⟩, b50⟩
  have F51 := fun_mk (st := sKEnd) l51 c51 k51
  have b51 := F51.binds (ps := ["self", "value"]) fun _ _ _ _ _ _ us hl => match us, hl with | [_, _], _ => rfl
  have T_Stack__end : MT K SK "_end" "Stack._end" sKEnd ["self", "value"] := ⟨_, _, F51, ⟨a51, i51, k51⟩, b51⟩
  have F52 := fun_mk (st := sMaInit) l52 c52 k52
  have b52 := F52.binds (ps := ["self"]) fun _ _ _ _ _ _ us hl => match us, hl with | [_], _ => rfl
  have Mk_Machine : Mk K MA f52 := ⟨mkMA, a52, i52, kcMA⟩
  have FI_Machine := F52
  have bI_Machine := b52
  have F53 := fun_mk (st := sEnInit) l53 c53 k53
  have b53 := F53.binds (ps := ["self", "store"]) fun _ _ _ _ _ _ us hl => match us, hl with | [_, _], _ => rfl
  have Mk_Entering : Mk K CE f53 := ⟨mkCE, a53, i53, kcCE⟩
  have FI_Entering := F53
  have bI_Entering := b53
  have F54 := fun_mk (st := sEnReq) l54 c54 k54
  have b54 := F54.binds (ps := ["self"]) fun _ _ _ _ _ _ us hl => match us, hl with | [_], _ => rfl
  have T_Entering_request : MT K CE "request" "Entering.request" sEnReq ["self"] := ⟨_, _, F54, ⟨a54, i54, k54⟩, b54⟩
  have F55 := fun_mk (st := sEnAcc) l55 c55 k55
  have b55 := F55.binds (ps := ["self", "result"]) fun _ _ _ _ _ _ us hl => match us, hl with | [_, _], _ => rfl
  have T_Entering_accept : MT K CE "accept" "Entering.accept" sEnAcc ["self", "result"] := ⟨_, _, F55, ⟨a55, i55, k55⟩, b55⟩
  have F56 := fun_mk (st := sEnEp) l56 c56 k56
  have b56 := F56.binds (ps := ["self", "result"]) fun _ _ _ _ _ _ us hl => match us, hl with | [_, _], _ => rfl
  have T_Entering__take_epoch : MT K CE "_take_epoch" "Entering._take_epoch" sEnEp ["self", "result"] := ⟨_, _, F56, ⟨a56, i56, k56⟩, b56⟩
  have F57 := fun_mk (st := sMaAsk) l57 c57 k57
  have b57 := F57.binds (ps := ["self", "requests", "then"]) fun _ _ _ _ _ _ us hl => match us, hl with | [_, _, _], _ => rfl
  have T_Entering__ask : MT K CE "_ask" "Machine._ask" sMaAsk ["self", "requests", "then"] := ⟨_, _, F57, ⟨a57, i57, k57⟩, b57⟩
  have F58 := fun_mk (st := sMaEnd) l58 c58 k58
  have b58 := F58.binds (ps := ["self", "value"]) fun _ _ _ _ _ _ us hl => match us, hl with | [_, _], _ => rfl
  have T_Entering__end : MT K CE "_end" "Machine._end" sMaEnd ["self", "value"] := ⟨_, _, F58, ⟨a58, i58, k58⟩, b58⟩
  have F59 := fun_mk (st := sMaGo) l59 c59 k59
  have b59 := F59.binds (ps := ["self", "result"]) fun _ _ _ _ _ _ us hl => match us, hl with | [_, _], _ => rfl
  have T_Entering__go_on : MT K CE "_go_on" "Machine._go_on" sMaGo ["self", "result"] := ⟨_, _, F59, ⟨a59, i59, k59⟩, b59⟩
  have F60 := fun_mk (st := sLvInit) l60 c60 k60
  have b60 := F60.binds (ps := ["self", "store"]) fun _ _ _ _ _ _ us hl => match us, hl with | [_, _], _ => rfl
  have Mk_Leaving : Mk K CV f60 := ⟨mkCV, a60, i60, kcCV⟩
  have FI_Leaving := F60
  have bI_Leaving := b60
  have F61 := fun_mk (st := sLvReq) l61 c61 k61
  have b61 := F61.binds (ps := ["self"]) fun _ _ _ _ _ _ us hl => match us, hl with | [_], _ => rfl
  have T_Leaving_request : MT K CV "request" "Leaving.request" sLvReq ["self"] := ⟨_, _, F61, ⟨a61, i61, k61⟩, b61⟩
  have F62 := fun_mk (st := sLvAcc) l62 c62 k62
  have b62 := F62.binds (ps := ["self", "result"]) fun _ _ _ _ _ _ us hl => match us, hl with | [_, _], _ => rfl
  have T_Leaving_accept : MT K CV "accept" "Leaving.accept" sLvAcc ["self", "result"] := ⟨_, _, F62, ⟨a62, i62, k62⟩, b62⟩
  have F63 := fun_mk (st := sLvSt) l63 c63 k63
  have b63 := F63.binds (ps := ["self", "result"]) fun _ _ _ _ _ _ us hl => match us, hl with | [_, _], _ => rfl
  have T_Leaving__take_stamp : MT K CV "_take_stamp" "Leaving._take_stamp" sLvSt ["self", "result"] := ⟨_, _, F63, ⟨a63, i63, k63⟩, b63⟩
  have F64 := fun_mk (st := sLvLv) l64 c64 k64
  have b64 := F64.binds (ps := ["self"]) fun _ _ _ _ _ _ us hl => match us, hl with | [_], _ => rfl
  have T_Leaving__leave : MT K CV "_leave" "Leaving._leave" sLvLv ["self"] := ⟨_, _, F64, ⟨a64, i64, k64⟩, b64⟩
  have F65 := fun_mk (st := sLvHere) l65 c65 k65
  have b65 := F65.binds (ps := ["self", "result"]) fun _ _ _ _ _ _ us hl => match us, hl with | [_, _], _ => rfl
  have T_Leaving__end_here : MT K CV "_end_here" "Leaving._end_here" sLvHere ["self", "result"] := ⟨_, _, F65, ⟨a65, i65, k65⟩, b65⟩
  have F66 := fun_mk (st := sLvEp) l66 c66 k66
  have b66 := F66.binds (ps := ["self", "result"]) fun _ _ _ _ _ _ us hl => match us, hl with | [_, _], _ => rfl
  have T_Leaving__take_epoch : MT K CV "_take_epoch" "Leaving._take_epoch" sLvEp ["self", "result"] := ⟨_, _, F66, ⟨a66, i66, k66⟩, b66⟩
  have F67 := fun_mk (st := sLvLook) l67 c67 k67
  have b67 := F67.binds (ps := ["self"]) fun _ _ _ _ _ _ us hl => match us, hl with | [_], _ => rfl
  have T_Leaving__look : MT K CV "_look" "Leaving._look" sLvLook ["self"] := ⟨_, _, F67, ⟨a67, i67, k67⟩, b67⟩
  have F68 := fun_mk (st := sLvSlot) l68 c68 k68
  have b68 := F68.binds (ps := ["self", "result"]) fun _ _ _ _ _ _ us hl => match us, hl with | [_, _], _ => rfl
  have T_Leaving__take_slot : MT K CV "_take_slot" "Leaving._take_slot" sLvSlot ["self", "result"] := ⟨_, _, F68, ⟨a68, i68, k68⟩, b68⟩
  have F69 := fun_mk (st := sLvSwap) l69 c69 k69
  have b69 := F69.binds (ps := ["self", "result"]) fun _ _ _ _ _ _ us hl => match us, hl with | [_, _], _ => rfl
  have T_Leaving__take_swap : MT K CV "_take_swap" "Leaving._take_swap" sLvSwap ["self", "result"] := ⟨_, _, F69, ⟨a69, i69, k69⟩, b69⟩
  have F70 := fun_mk (st := sLvFree) l70 c70 k70
  have b70 := F70.binds (ps := ["self", "known"]) fun _ _ _ _ _ _ us hl => match us, hl with | [_, _], _ => rfl
  have T_Leaving__free_waiting : MT K CV "_free_waiting" "Leaving._free_waiting" sLvFree ["self", "known"] := ⟨_, _, F70, ⟨a70, i70, k70⟩, b70⟩
  have F71 := fun_mk (st := sMaAsk) l71 c71 k71
  have b71 := F71.binds (ps := ["self", "requests", "then"]) fun _ _ _ _ _ _ us hl => match us, hl with | [_, _, _], _ => rfl
  have T_Leaving__ask : MT K CV "_ask" "Machine._ask" sMaAsk ["self", "requests", "then"] := ⟨_, _, F71, ⟨a71, i71, k71⟩, b71⟩
  have F72 := fun_mk (st := sMaEnd) l72 c72 k72
  have b72 := F72.binds (ps := ["self", "value"]) fun _ _ _ _ _ _ us hl => match us, hl with | [_, _], _ => rfl
  have T_Leaving__end : MT K CV "_end" "Machine._end" sMaEnd ["self", "value"] := ⟨_, _, F72, ⟨a72, i72, k72⟩, b72⟩
  have F73 := fun_mk (st := sMaGo) l73 c73 k73
  have b73 := F73.binds (ps := ["self", "result"]) fun _ _ _ _ _ _ us hl => match us, hl with | [_, _], _ => rfl
  have T_Leaving__go_on : MT K CV "_go_on" "Machine._go_on" sMaGo ["self", "result"] := ⟨_, _, F73, ⟨a73, i73, k73⟩, b73⟩
  have Bn0 : Bn mg := ⟨PySem.W.mg_none_of X G z_isinstance, PySem.W.mg_none_of X G z_int, PySem.W.mg_none_of X G z_bool, PySem.W.mg_none_of X G z_str, PySem.W.mg_none_of X G z_tuple, PySem.W.mg_none_of X G z_list, PySem.W.mg_none_of X G z_range, PySem.W.mg_none_of X G z_len, PySem.W.mg_none_of X G z_abs⟩
  have T : LTxt K mg C := ⟨Bn0, ⟨pgC, hdC, poC, saC⟩, Cthreads, Cwords, Crecords⟩
  have TM : MTxt K M := ⟨⟨pgM, hdM, poM, saM⟩, Mlayout, Mcount, M_passing, M_trails, M_lost, M_notes, M_log⟩
  have TS : STxt K mg S := ⟨⟨pgS, hdS, poS, saS⟩, Slayout, Sthread, S_free, S_waiting, S_out, (PySem.W.mg_none_of X G z_sorted), (PySem.W.mg_none_of X G z_max), (PySem.W.mg_none_of X G z_len), (PySem.W.mg_none_of X G z_list), (PySem.W.mg_none_of X G z_bool)⟩
  have TK : KTx K SK := ⟨⟨pgSK, hdSK, poSK, saSK⟩, SK_machines, SK_value⟩
  have TCE : MTx K CE := ⟨⟨pgCE, hdCE, poCE, saCE⟩, CE_wanted, CE_left, CE_then⟩
  have TCV : MTx K CV := ⟨⟨pgCV, hdCV, poCV, saCV⟩, CV_wanted, CV_left, CV_then⟩
  have TE : ETx K CE := ⟨TCE, CE_epoch_cell, CE_slot, CE_entered⟩
  have TV : VTx K CV := ⟨TCV, CV_store, CV_epoch_cell, CV_slots, CV_epoch⟩
  have X0 : XTxt K mg NV LE := ⟨PySem.W.mg_of X G gNV, PySem.W.mg_of X G gLE, xN, kN, sN, tN, PySem.W.exm_ref sL dL tL sNL, ⟨Ng, Nk, sN, Nd, Na, hn, ht, Nm⟩, kit_self⟩
  have cMi : Mr.CFn K MA "__init__" f52 := ⟨⟨_, mr, mc⟩, mg0, k52⟩
  have BEn : BMeth K CE "_take_epoch" f56 := ⟨⟨a56, i56, k56⟩, bgEn, btEn, by decide +kernel, bfEn⟩
  have BEp : BMeth K CV "_take_epoch" f66 := ⟨⟨a66, i66, k66⟩, bgEp, btEp, by decide +kernel, bfEp⟩
  have BHe : BMeth K CV "_end_here" f65 := ⟨⟨a65, i65, k65⟩, bgHe, btHe, by decide +kernel, bfHe⟩
  have BSt : BMeth K CV "_take_stamp" f63 := ⟨⟨a63, i63, k63⟩, bgSt, btSt, by decide +kernel, bfSt⟩
  have BSl : BMeth K CV "_take_slot" f68 := ⟨⟨a68, i68, k68⟩, bgSl, btSl, by decide +kernel, bfSl⟩
  have BSw : BMeth K CV "_take_swap" f69 := ⟨⟨a69, i69, k69⟩, bgSw, btSw, by decide +kernel, bfSw⟩
  refine ⟨PySem.W.fnOf "law" "law" (defArgs sLaw) (defBody sLaw) (defScope sLaw) .none kV16 dc16 pm16 an16 cd16 ct16, fun s v => .of_eq rfl, fun base _ _ => ?_⟩
  have Gwh := go_whole (P := l.prog) (w := w) (base := base) T_is_whole Bn0
  have Gwi := go_within T_is_within Gwh
  have Giv := go_isvalueD (P := l.prog) (w := w) (base := base) T_is_value Bn0
  have Gsm := go_issameD (P := l.prog) (w := w) (base := base) T_is_same Bn0 (PySem.W.mg_none_of X G z_zip)
  have Gep := mo_epoch (P := l.prog) (w := w) (mg := mg) (base := base) T_Layout_epoch
  have Ges := mo_eslot (P := l.prog) (w := w) (mg := mg) (base := base) T_Layout_epoch_slot
  have Gcs := mo_cslot T_Layout_call_slot T Ges
  have Gwo := mo_word T_Layout_word T Gcs
  have Gre := mo_record T_Layout_record T Gwo
  have Gce := mo_cells T_Layout_cells T Gre
  have Gic := mo_iscell T_Layout_is_cell T Gce Gwi
  have Gil := mo_islast T_Layout_is_lasting T Gic Gcs
  have Ght := mo_hast T_Layout_has_thread T Gwi
  have Gia := go_isacc T_is_access T Gic Gil Giv
  have Gli := ok_linit FI_Layout T X0 Gwi
  have Gpv := go_pass (P := l.prog) (w := w) (base := base) T_passing_values T
  have Gft := go_trails T_first_trails T (PySem.W.mg_of X G gEm) Gcs Gwo Gre Gce
  have Gnn := go_notes (P := l.prog) (w := w) (base := base) T_no_notes T
  have Gmi := ok_minit FI_Memory T TM Gpv Gft Gnn
  have Gpk := mo_peek T_Memory_peek T TM Gic Gil
  have Ggi := mo_give T_Memory__give T TM Gil
  have Gsh := mo_short (P := l.prog) (w := w) (base := base) T_Memory__shorten T TM (PySem.W.mg_none_of X G z_max) (PySem.W.mg_none_of X G z_min)
  have Ggf := mo_giveif T_Memory__give_if T TM Gsm Gpk Ggi
  have Gfe := mo_fence T_Memory__fence TM Gsh
  have Grs := mo_result T_Memory__result T TM Gpk Ggi Ggf Gfe
  have Gac := mo_access T_Memory_access T TM Ght Gia Grs
  have Gtp := go_tape (P := l.prog) (w := w) (base := base) T__law_tape Bn0
  have Gat := go_at (P := l.prog) (w := w) (base := base) T__law_at Bn0
  have Gsi := ok_sinit (P := l.prog) (w := w) (base := base) FI_Store TS
  have Gtk := mo_take (P := l.prog) (w := w) (base := base) T_Store_take TS
  have Ggb := mo_giveB (P := l.prog) (w := w) (base := base) T_Store_give_back TS
  have Gto := mo_tout (P := l.prog) (w := w) (base := base) T_Store_take_out TS
  have Gfc := mo_freeC (P := l.prog) (w := w) (base := base) T_Store_free_cells TS
  have Gwt := mo_wait (P := l.prog) (w := w) (base := base) T_Store_waiting TS
  have Gho := mo_hasOut (P := l.prog) (w := w) (base := base) T_Store_has_taken_out TS
  have Ghw := mo_hasWait (P := l.prog) (w := w) (base := base) T_Store_has_waiting TS
  have Gst := mo_stamp (P := l.prog) (w := w) (base := base) T_Store_stamp TS
  have Gfu := mo_freeUp T_Store_free_up_to TS Ggb
  have Gdv := go_divided T_divided T TS Gre
  have Gos := go_other T_other_slots Bn0 T TS Ges
  have Gki := ok_kinit (P := l.prog) (w := w) (base := base) (mg := mg) FI_Stack TK
  have Gke := mo_kended (P := l.prog) (w := w) (base := base) (mg := mg) T_Stack_ended TK
  have Gkv := mo_kvalue (P := l.prog) (w := w) (base := base) (mg := mg) T_Stack_value TK
  have Gkd := mo_kend (P := l.prog) (w := w) (base := base) (mg := mg) T_Stack__end TK
  have Gkc := mo_kcheck T_Stack__check_thread TK T TM Ght
  have Gks := mo_ksettle T_Stack__settle TK Gkd
  have Gkp := mo_kstep (ka := 6) T_Stack_step TK TM Gkc Gks Gac
  have Gru := go_run (ka := 6) T__law_run Bn0 TK TM (PySem.W.mg_of X G gSK) Mk_Stack Gki bI_Stack Gkp Gke Gkv
  have Gle := go_left (P := l.prog) (w := w) (base := base) T__law_left Bn0 TS
  have Gsl := go_slots T__law_slots Bn0 TS TM Gat Gac
  have Geas := mo_maask (P := l.prog) (w := w) (base := base) (mg := mg) T_Entering__ask TCE
  have Geed := mo_maend (P := l.prog) (w := w) (base := base) (mg := mg) T_Entering__end TCE
  have Gego := mo_mago (P := l.prog) (w := w) (base := base) (mg := mg) (k := 4) T_Entering__go_on TCE
  have Mei := raw0 (ok_mainit (P := l.prog) (w := w) (base := base) (mg := mg) FI_Machine TCE) bI_Machine
  have Gvas := mo_maask (P := l.prog) (w := w) (base := base) (mg := mg) T_Leaving__ask TCV
  have Gved := mo_maend (P := l.prog) (w := w) (base := base) (mg := mg) T_Leaving__end TCV
  have Gvgo := mo_mago (P := l.prog) (w := w) (base := base) (mg := mg) (k := 4) T_Leaving__go_on TCV
  have Mvi := raw0 (ok_mainit (P := l.prog) (w := w) (base := base) (mg := mg) FI_Machine TCV) bI_Machine
  have Geq := mo_enreq (P := l.prog) (w := w) (base := base) (mg := mg) T_Entering_request TCE
  have Gea := mo_enacc (k := 4) T_Entering_accept TCE Gego
  have Gei := ok_eninit FI_Entering TE T TS (PySem.W.mg_of X G gMA) cMi Mei BEn Gep Ges Geas
  have Get := mo_enep T_Entering__take_epoch TE BEn Geas Geed
  have mcE : MCl l.prog w K mg base CE f55 := ⟨TCE.cl, Geq.md, ⟨a55, i55, k55⟩, md_at Gea.md ⟨a55, i55, k55⟩⟩
  have FTE := md_at Get.md BEn.mt
  have Gvq := mo_lvreq (P := l.prog) (w := w) (base := base) (mg := mg) T_Leaving_request TCV
  have Gva := mo_lvacc (k := 4) T_Leaving_accept TCV Gvgo
  have Gvh := mo_lvhere T_Leaving__end_here TCV Gved
  have Gvf := mo_lvfree T_Leaving__free_waiting TV TS Gved Gfu
  have Gvl := mo_lvlook T_Leaving__look TV BSl BSw Gvas
  have Gvs := mo_lvslot T_Leaving__take_slot TV Gsm Gvl Gvf
  have Gvw := mo_lvswap T_Leaving__take_swap TV Gvf
  have Gve := mo_lvep T_Leaving__take_epoch TV Gvl
  have Gvv := mo_lvleave T_Leaving__leave TV T TS BEp BHe Gvas Ges Ghw
  have Gvt := mo_lvstamp T_Leaving__take_stamp TV TS Gst Gvv
  have Gvi := ok_lvinit FI_Leaving TV T TS (PySem.W.mg_of X G gMA) cMi Mvi BSt Gep Gos Gho Gvv Gvas
  have mcV : MCl l.prog w K mg base CV f62 := ⟨TCV.cl, Gvq.md, ⟨a62, i62, k62⟩, md_at Gva.md ⟨a62, i62, k62⟩⟩
  have LT : LvT l.prog w K mg base C S CV _ _ _ _ _ _ := ⟨⟨mcV, bfSl, bfSw, md_at Gvs.md BSl.mt, md_at Gvw.md BSw.mt⟩, bfEp, md_at Gve.md BEp.mt, bfHe, md_at Gvh.md BHe.mt, bfSt, md_at Gvt.md BSt.mt⟩
  exact ok_law F16 Bn0 T TS TM (PySem.W.mg_none_of X G z_min) (PySem.W.mg_of X G gC) Mk_Layout Gli bI_Layout (PySem.W.mg_of X G gM) Mk_Memory Gmi bI_Memory (PySem.W.mg_of X G gS) Mk_Store Gsi bI_Store Gpk Gwt Gfc Gle Gru (PySem.W.mg_of X G gCV) Mk_Leaving Gvi bI_Leaving LT Gtk Gto Ggb (PySem.W.mg_of X G gCE) Mk_Entering Gei bI_Entering mcE bfEn FTE Gtp Gat Gsl Gac Gre Gdv
theorem walk {l : PySem.W.OpenLaw} {q : Program} {loose : List Str} {XP : (Str → Option Value) → Heap → Prop} {YP : World → Heap → Prop} {d : DefRec} {K : Params → PySem.W.Frag} (hn : l.most = some 63) (hdf : d.params.defaults = [])
    (hY : ∀ (w : World) (h : Heap), YP w h → (K w.params).In h)
    (F : ∀ (w : World) (mg : Str → Option Value) (fa : Addr) (h : Heap), (K w.params).In h → h.Ns mainGlobals mg → mg d.name = some (.ref fa) →
      ∃ fd : FuncData, (∀ (s : Shared) (u : Value), BindsTo s fd ⟨[u], []⟩ [("script", u)]) ∧ ∀ base : Heap, (K w.params).In base → base.Ns mainGlobals mg → FnOk l.prog w (K w.params) mg base CX0 20 fa fd ["script"] (spLaw (K w.params))) :
    PySem.W.WalkO q loose XP YP l.row.toRowW d [] (fun f vs => PySem.call f vs) :=
  L2.walk_of (n := 63) (k := 20) (x := "script") (CX := fun _ => CX0) (sp := fun w => spLaw (K w.params)) hn (by decide) hdf ⟨rfl, by decide, by decide⟩ hY F (fun _ _ a ns hl _ hS => ⟨a, ns, rfl, hS, hl, fun _ => rfl⟩) fun _ _ _ _ _ z => z
end Dk
open PySem PySem.W PyProof.Rows
set_option maxRecDepth 100000 in
set_option maxHeartbeats 0 in
theorem PySem.Challenge.cw_driftkept_k08_entering_and_leaving_alone_holds : PySem.Challenge.rw_driftkept_k08_entering_and_leaving_alone.Holds := by
  w_on; o_law; k_head; (case hw => w_witness2)
  k_fill
  refine Dk.walk (l := PySem.Challenge.rw_driftkept_k08_entering_and_leaving_alone) rfl rfl (fun w h Y => PySem.W.kIn_of Y) ?F
  case F =>
    intro w mg fa h KX G hmg
    refine' Dk.all_mk KX G hmg ?gC ?gM ?gS ?gSK ?gMA ?gCE ?gCV ?gNV ?gLE ?a1 ?l1 ?c1 ?k1 ?a2 ?l2 ?c2 ?k2 ?a3 ?l3 ?c3 ?k3 ?a4 ?l4 ?c4 ?k4 ?a5 ?l5 ?c5 ?k5 ?a6 ?l6 ?c6 ?k6 ?a7 ?l7 ?c7 ?k7 ?a8 ?l8 ?c8 ?k8 ?a9 ?l9 ?c9 ?k9 ?a10 ?l10 ?c10 ?k10 ?a11 ?l11 ?c11 ?k11 ?a12 ?l12 ?c12 ?k12 ?a13 ?l13 ?c13 ?k13 ?a14 ?l14 ?c14 ?k14 ?a15 ?l15 ?c15 ?k15 ?a16 ?l16 ?c16 ?k16 ?a17 ?i17 ?l17 ?c17 ?k17 ?a18 ?i18 ?l18 ?c18 ?k18 ?a19 ?i19 ?l19 ?c19 ?k19 ?a20 ?i20 ?l20 ?c20 ?k20 ?a21 ?i21 ?l21 ?c21 ?k21 ?a22 ?i22 ?l22 ?c22 ?k22 ?a23 ?i23 ?l23 ?c23 ?k23 ?a24 ?i24 ?l24 ?c24 ?k24 ?a25 ?i25 ?l25 ?c25 ?k25 ?a26 ?i26 ?l26 ?c26 ?k26 ?a27 ?i27 ?l27 ?c27 ?k27 ?a28 ?i28 ?l28 ?c28 ?k28 ?a29 ?i29 ?l29 ?c29 ?k29 ?a30 ?i30 ?l30 ?c30 ?k30 ?a31 ?i31 ?l31 ?c31 ?k31 ?a32 ?i32 ?l32 ?c32 ?k32 ?a33 ?i33 ?l33 ?c33 ?k33 ?a34 ?i34 ?l34 ?c34 ?k34 ?a35 ?i35 ?l35 ?c35 ?k35 ?a36 ?i36 ?l36 ?c36 ?k36 ?a37 ?i37 ?l37 ?c37 ?k37 ?a38 ?i38 ?l38 ?c38 ?k38 ?a39 ?i39 ?l39 ?c39 ?k39 ?a40 ?i40 ?l40 ?c40 ?k40 ?a41 ?i41 ?l41 ?c41 ?k41 ?a42 ?i42 ?l42 ?c42 ?k42 ?a43 ?i43 ?l43 ?c43 ?k43 ?a44 ?i44 ?l44 ?c44 ?k44 ?a45 ?i45 ?l45 ?c45 ?k45 ?a46 ?i46 ?l46 ?c46 ?k46 ?a47 ?i47 ?l47 ?c47 ?k47 ?a48 ?i48 ?l48 ?c48 ?k48 ?a49 ?i49 ?l49 ?c49 ?k49 ?a50 ?i50 ?l50 ?c50 ?k50 ?a51 ?i51 ?l51 ?c51 ?k51 ?a52 ?i52 ?l52 ?c52 ?k52 ?a53 ?i53 ?l53 ?c53 ?k53 ?a54 ?i54 ?l54 ?c54 ?k54 ?a55 ?i55 ?l55 ?c55 ?k55 ?a56 ?i56 ?l56 ?c56 ?k56 ?a57 ?i57 ?l57 ?c57 ?k57 ?a58 ?i58 ?l58 ?c58 ?k58 ?a59 ?i59 ?l59 ?c59 ?k59 ?a60 ?i60 ?l60 ?c60 ?k60 ?a61 ?i61 ?l61 ?c61 ?k61 ?a62 ?i62 ?l62 ?c62 ?k62 ?a63 ?i63 ?l63 ?c63 ?k63 ?a64 ?i64 ?l64 ?c64 ?k64 ?a65 ?i65 ?l65 ?c65 ?k65 ?a66 ?i66 ?l66 ?c66 ?k66 ?a67 ?i67 ?l67 ?c67 ?k67 ?a68 ?i68 ?l68 ?c68 ?k68 ?a69 ?i69 ?l69 ?c69 ?k69 ?a70 ?i70 ?l70 ?c70 ?k70 ?a71 ?i71 ?l71 ?c71 ?k71 ?a72 ?i72 ?l72 ?c72 ?k72 ?a73 ?i73 ?l73 ?c73 ?k73 ?pgC ?hdC ?poC ?saC ?mkC ?kcC ?pgM ?hdM ?poM ?saM ?mkM ?kcM ?pgS ?hdS ?poS ?saS ?mkS ?kcS ?pgSK ?hdSK ?poSK ?saSK ?mkSK ?kcSK ?pgMA ?hdMA ?poMA ?saMA ?mkMA ?kcMA ?pgCE ?hdCE ?poCE ?saCE ?mkCE ?kcCE ?pgCV ?hdCV ?poCV ?saCV ?mkCV ?kcCV ?gEm ?Cthreads ?Cwords ?Crecords ?Mlayout ?Mcount ?M_passing ?M_trails ?M_lost ?M_notes ?M_log ?Slayout ?Sthread ?S_free ?S_waiting ?S_out ?SK_machines ?SK_value ?CE_wanted ?CE_left ?CE_then ?CE_epoch_cell ?CE_slot ?CE_entered ?CV_wanted ?CV_left ?CV_then ?CV_store ?CV_epoch_cell ?CV_slots ?CV_epoch ?hn ?ht ?xN ?kN ?sN ?tN ?sL ?dL ?tL ?sNL ?Ng ?Nk ?Nd ?Na ?Nm ?bgEn ?btEn ?bfEn ?bgEp ?btEp ?bfEp ?bgHe ?btHe ?bfHe ?bgSt ?btSt ?bfSt ?bgSl ?btSl ?bfSl ?bgSw ?btSw ?bfSw ?mr ?mc ?mg0 ?z_isinstance ?z_int ?z_bool ?z_str ?z_tuple ?z_list ?z_range ?z_len ?z_abs ?z_max ?z_min ?z_zip ?z_sorted
    (case gC => k_is)
    (case gM => k_is)
    (case gS => k_is)
    (case gSK => k_is)
    (case gMA => k_is)
    (case gCE => k_is)
    (case gCV => k_is)
    (case gNV => k_is)
    (case gLE => k_is)
    (case a1 => k_is)
    (case l1 => k_is)
    (case c1 => k_is)
    (case k1 => k_is)
    (case a2 => k_is)
    (case l2 => k_is)
    (case c2 => k_is)
    (case k2 => k_is)
    (case a3 => k_is)
    (case l3 => k_is)
    (case c3 => k_is)
    (case k3 => k_is)
    (case a4 => k_is)
    (case l4 => k_is)
    (case c4 => k_is)
    (case k4 => k_is)
    (case a5 => k_is)
    (case l5 => k_is)
    (case c5 => k_is)
    (case k5 => k_is)
    (case a6 => k_is)
    (case l6 => k_is)
    (case c6 => k_is)
    (case k6 => k_is)
    (case a7 => k_is)
    (case l7 => k_is)
    (case c7 => k_is)
    (case k7 => k_is)
    (case a8 => k_is)
    (case l8 => k_is)
    (case c8 => k_is)
    (case k8 => k_is)
    (case a9 => k_is)
    (case l9 => k_is)
    (case c9 => k_is)
    (case k9 => k_is)
    (case a10 => k_is)
    (case l10 => k_is)
    (case c10 => k_is)
    (case k10 => k_is)
    (case a11 => k_is)
    (case l11 => k_is)
    (case c11 => k_is)
    (case k11 => k_is)
    (case a12 => k_is)
    (case l12 => k_is)
    (case c12 => k_is)
    (case k12 => k_is)
    (case a13 => k_is)
    (case l13 => k_is)
    (case c13 => k_is)
    (case k13 => k_is)
    (case a14 => k_is)
    (case l14 => k_is)
    (case c14 => k_is)
    (case k14 => k_is)
    (case a15 => k_is)
    (case l15 => k_is)
    (case c15 => k_is)
    (case k15 => k_is)
    (case a16 => k_is)
    (case l16 => k_is)
    (case c16 => k_is)
    (case k16 => k_is)
    (case a17 => k_is)
    (case i17 => k_is)
    (case l17 => k_is)
    (case c17 => k_is)
    (case k17 => k_is)
    (case a18 => k_is)
    (case i18 => k_is)
    (case l18 => k_is)
    (case c18 => k_is)
    (case k18 => k_is)
    (case a19 => k_is)
    (case i19 => k_is)
    (case l19 => k_is)
    (case c19 => k_is)
    (case k19 => k_is)
    (case a20 => k_is)
    (case i20 => k_is)
    (case l20 => k_is)
    (case c20 => k_is)
    (case k20 => k_is)
    (case a21 => k_is)
    (case i21 => k_is)
    (case l21 => k_is)
    (case c21 => k_is)
    (case k21 => k_is)
    (case a22 => k_is)
    (case i22 => k_is)
    (case l22 => k_is)
    (case c22 => k_is)
    (case k22 => k_is)
    (case a23 => k_is)
    (case i23 => k_is)
    (case l23 => k_is)
    (case c23 => k_is)
    (case k23 => k_is)
    (case a24 => k_is)
    (case i24 => k_is)
    (case l24 => k_is)
    (case c24 => k_is)
    (case k24 => k_is)
    (case a25 => k_is)
    (case i25 => k_is)
    (case l25 => k_is)
    (case c25 => k_is)
    (case k25 => k_is)
    (case a26 => k_is)
    (case i26 => k_is)
    (case l26 => k_is)
    (case c26 => k_is)
    (case k26 => k_is)
    (case a27 => k_is)
    (case i27 => k_is)
    (case l27 => k_is)
    (case c27 => k_is)
    (case k27 => k_is)
    (case a28 => k_is)
    (case i28 => k_is)
    (case l28 => k_is)
    (case c28 => k_is)
    (case k28 => k_is)
    (case a29 => k_is)
    (case i29 => k_is)
    (case l29 => k_is)
    (case c29 => k_is)
    (case k29 => k_is)
    (case a30 => k_is)
    (case i30 => k_is)
    (case l30 => k_is)
    (case c30 => k_is)
    (case k30 => k_is)
    (case a31 => k_is)
    (case i31 => k_is)
    (case l31 => k_is)
    (case c31 => k_is)
    (case k31 => k_is)
    (case a32 => k_is)
    (case i32 => k_is)
    (case l32 => k_is)
    (case c32 => k_is)
    (case k32 => k_is)
    (case a33 => k_is)
    (case i33 => k_is)
    (case l33 => k_is)
    (case c33 => k_is)
    (case k33 => k_is)
    (case a34 => k_is)
    (case i34 => k_is)
    (case l34 => k_is)
    (case c34 => k_is)
    (case k34 => k_is)
    (case a35 => k_is)
    (case i35 => k_is)
    (case l35 => k_is)
    (case c35 => k_is)
    (case k35 => k_is)
    (case a36 => k_is)
    (case i36 => k_is)
    (case l36 => k_is)
    (case c36 => k_is)
    (case k36 => k_is)
    (case a37 => k_is)
    (case i37 => k_is)
    (case l37 => k_is)
    (case c37 => k_is)
    (case k37 => k_is)
    (case a38 => k_is)
    (case i38 => k_is)
    (case l38 => k_is)
    (case c38 => k_is)
    (case k38 => k_is)
    (case a39 => k_is)
    (case i39 => k_is)
    (case l39 => k_is)
    (case c39 => k_is)
    (case k39 => k_is)
    (case a40 => k_is)
    (case i40 => k_is)
    (case l40 => k_is)
    (case c40 => k_is)
    (case k40 => k_is)
    (case a41 => k_is)
    (case i41 => k_is)
    (case l41 => k_is)
    (case c41 => k_is)
    (case k41 => k_is)
    (case a42 => k_is)
    (case i42 => k_is)
    (case l42 => k_is)
    (case c42 => k_is)
    (case k42 => k_is)
    (case a43 => k_is)
    (case i43 => k_is)
    (case l43 => k_is)
    (case c43 => k_is)
    (case k43 => k_is)
    (case a44 => k_is)
    (case i44 => k_is)
    (case l44 => k_is)
    (case c44 => k_is)
    (case k44 => k_is)
    (case a45 => k_is)
    (case i45 => k_is)
    (case l45 => k_is)
    (case c45 => k_is)
    (case k45 => k_is)
    (case a46 => k_is)
    (case i46 => k_is)
    (case l46 => k_is)
    (case c46 => k_is)
    (case k46 => k_is)
    (case a47 => k_is)
    (case i47 => k_is)
    (case l47 => k_is)
    (case c47 => k_is)
    (case k47 => k_is)
    (case a48 => k_is)
    (case i48 => k_is)
    (case l48 => k_is)
    (case c48 => k_is)
    (case k48 => k_is)
    (case a49 => k_is)
    (case i49 => k_is)
    (case l49 => k_is)
    (case c49 => k_is)
    (case k49 => k_is)
    (case a50 => k_is)
    (case i50 => k_is)
    (case l50 => k_is)
    (case c50 => k_is)
    (case k50 => k_is)
    (case a51 => k_is)
    (case i51 => k_is)
    (case l51 => k_is)
    (case c51 => k_is)
    (case k51 => k_is)
    (case a52 => k_is)
    (case i52 => k_is)
    (case l52 => k_is)
    (case c52 => k_is)
    (case k52 => k_is)
    (case a53 => k_is)
    (case i53 => k_is)
    (case l53 => k_is)
    (case c53 => k_is)
    (case k53 => k_is)
    (case a54 => k_is)
    (case i54 => k_is)
    (case l54 => k_is)
    (case c54 => k_is)
    (case k54 => k_is)
    (case a55 => k_is)
    (case i55 => k_is)
    (case l55 => k_is)
    (case c55 => k_is)
    (case k55 => k_is)
    (case a56 => k_is)
    (case i56 => k_is)
    (case l56 => k_is)
    (case c56 => k_is)
    (case k56 => k_is)
    (case a57 => k_is)
    (case i57 => k_is)
    (case l57 => k_is)
    (case c57 => k_is)
    (case k57 => k_is)
    (case a58 => k_is)
    (case i58 => k_is)
    (case l58 => k_is)
    (case c58 => k_is)
    (case k58 => k_is)
    (case a59 => k_is)
    (case i59 => k_is)
    (case l59 => k_is)
    (case c59 => k_is)
    (case k59 => k_is)
    (case a60 => k_is)
    (case i60 => k_is)
    (case l60 => k_is)
    (case c60 => k_is)
    (case k60 => k_is)
    (case a61 => k_is)
    (case i61 => k_is)
    (case l61 => k_is)
    (case c61 => k_is)
    (case k61 => k_is)
    (case a62 => k_is)
    (case i62 => k_is)
    (case l62 => k_is)
    (case c62 => k_is)
    (case k62 => k_is)
    (case a63 => k_is)
    (case i63 => k_is)
    (case l63 => k_is)
    (case c63 => k_is)
    (case k63 => k_is)
    (case a64 => k_is)
    (case i64 => k_is)
    (case l64 => k_is)
    (case c64 => k_is)
    (case k64 => k_is)
    (case a65 => k_is)
    (case i65 => k_is)
    (case l65 => k_is)
    (case c65 => k_is)
    (case k65 => k_is)
    (case a66 => k_is)
    (case i66 => k_is)
    (case l66 => k_is)
    (case c66 => k_is)
    (case k66 => k_is)
    (case a67 => k_is)
    (case i67 => k_is)
    (case l67 => k_is)
    (case c67 => k_is)
    (case k67 => k_is)
    (case a68 => k_is)
    (case i68 => k_is)
    (case l68 => k_is)
    (case c68 => k_is)
    (case k68 => k_is)
    (case a69 => k_is)
    (case i69 => k_is)
    (case l69 => k_is)
    (case c69 => k_is)
    (case k69 => k_is)
    (case a70 => k_is)
    (case i70 => k_is)
    (case l70 => k_is)
    (case c70 => k_is)
    (case k70 => k_is)
    (case a71 => k_is)
    (case i71 => k_is)
    (case l71 => k_is)
    (case c71 => k_is)
    (case k71 => k_is)
    (case a72 => k_is)
    (case i72 => k_is)
    (case l72 => k_is)
    (case c72 => k_is)
    (case k72 => k_is)
    (case a73 => k_is)
    (case i73 => k_is)
    (case l73 => k_is)
    (case c73 => k_is)
    (case k73 => k_is)
    (case pgC => k_is)
    (case hdC => k_is)
    (case poC => k_is)
    (case saC => k_is)
    (case mkC => k_is)
    (case kcC => k_is)
    (case pgM => k_is)
    (case hdM => k_is)
    (case poM => k_is)
    (case saM => k_is)
    (case mkM => k_is)
    (case kcM => k_is)
    (case pgS => k_is)
    (case hdS => k_is)
    (case poS => k_is)
    (case saS => k_is)
    (case mkS => k_is)
    (case kcS => k_is)
    (case pgSK => k_is)
    (case hdSK => k_is)
    (case poSK => k_is)
    (case saSK => k_is)
    (case mkSK => k_is)
    (case kcSK => k_is)
    (case pgMA => k_is)
    (case hdMA => k_is)
    (case poMA => k_is)
    (case saMA => k_is)
    (case mkMA => k_is)
    (case kcMA => k_is)
    (case pgCE => k_is)
    (case hdCE => k_is)
    (case poCE => k_is)
    (case saCE => k_is)
    (case mkCE => k_is)
    (case kcCE => k_is)
    (case pgCV => k_is)
    (case hdCV => k_is)
    (case poCV => k_is)
    (case saCV => k_is)
    (case mkCV => k_is)
    (case kcCV => k_is)
    (case gEm => k_is)
    (case Cthreads => k_is)
    (case Cwords => k_is)
    (case Crecords => k_is)
    (case Mlayout => k_is)
    (case Mcount => k_is)
    (case M_passing => k_is)
    (case M_trails => k_is)
    (case M_lost => k_is)
    (case M_notes => k_is)
    (case M_log => k_is)
    (case Slayout => k_is)
    (case Sthread => k_is)
    (case S_free => k_is)
    (case S_waiting => k_is)
    (case S_out => k_is)
    (case SK_machines => k_is)
    (case SK_value => k_is)
    (case CE_wanted => k_is)
    (case CE_left => k_is)
    (case CE_then => k_is)
    (case CE_epoch_cell => k_is)
    (case CE_slot => k_is)
    (case CE_entered => k_is)
    (case CV_wanted => k_is)
    (case CV_left => k_is)
    (case CV_then => k_is)
    (case CV_store => k_is)
    (case CV_epoch_cell => k_is)
    (case CV_slots => k_is)
    (case CV_epoch => k_is)
    (case hn => k_is)
    (case ht => k_is)
    (case xN => k_exc)
    (case kN => k_is)
    (case sN => k_is)
    (case tN => k_is)
    (case sL => k_is)
    (case dL => k_is)
    (case tL => k_is)
    (case sNL => k_is)
    (case Ng => k_is)
    (case Nk => k_is)
    (case Nd => k_is)
    (case Na => k_is)
    (case Nm => k_is)
    (case bgEn => k_is)
    (case btEn => k_is)
    (case bfEn => k_is)
    (case bgEp => k_is)
    (case btEp => k_is)
    (case bfEp => k_is)
    (case bgHe => k_is)
    (case btHe => k_is)
    (case bfHe => k_is)
    (case bgSt => k_is)
    (case btSt => k_is)
    (case bfSt => k_is)
    (case bgSl => k_is)
    (case btSl => k_is)
    (case bfSl => k_is)
    (case bgSw => k_is)
    (case btSw => k_is)
    (case bfSw => k_is)
    (case mr => k_is)
    (case mc => k_is)
    (case mg0 => k_is)
    (case z_isinstance => k_is)
    (case z_int => k_is)
    (case z_bool => k_is)
    (case z_str => k_is)
    (case z_tuple => k_is)
    (case z_list => k_is)
    (case z_range => k_is)
    (case z_len => k_is)
    (case z_abs => k_is)
    (case z_max => k_is)
    (case z_min => k_is)
    (case z_zip => k_is)
    (case z_sorted => k_is)

