import PyProof.Rows.All
import Wide.All
import OpenK.AllK
import Wide.FinOn
import HandS.ForMost
import HandS.ForExc
import HandS.IsInst
import HandS.ExcIs
import HandS.DictComp
import HandS.Style
import HandS.Walk
import HandS.SortInts
import HandS.Star
import HandS.More
import HandS.ClsMeth
import HandS.Codes
import HandS.Zip
import PySem.Challenge.RW_driftkept_k04_reading_words
import HandS.OwnIter
import PyProof.Rows.MatchSeqLen
import HandS.Flow
set_option Elab.async false
set_option linter.all false
set_option maxRecDepth 100000
set_option maxHeartbeats 4000000
/-! general rules -/
namespace Dk
open PySem PySem.Spec PyProof.Rows L2
/-- a def of the top keeps a promise -/
def GO (P : Program) (w : World) (K : PySem.W.Frag) (mg : Str → Option Value) (base : Heap) (CX : CXT) (k : Nat) (x : Str) (ps : List Str) (sp : Sp) : Prop :=
  ∃ f fd, FnOk P w K mg base CX k f fd ps sp ∧ mg x = some (.ref f) ∧ PySem.W.keepIn K (.ref f) = true ∧ Binds K fd ps []
def MO (P : Program) (w : World) (K : PySem.W.Frag) (mg : Str → Option Value) (base : Heap) (CX : CXT) (C : Addr) (k : Nat) (m : Str) (ps : List Str) (sp : Sp) : Prop :=
  ∃ f fd, FnOk P w K mg base CX k f fd ps sp ∧ Meth K C m f ∧ Binds K fd ps []
/-- where a def of the top, a method stands -/
def GT (K : PySem.W.Frag) (mg : Str → Option Value) (x : Str) (st : Stmt) (ps : List Str) : Prop := ∃ f fd, Fun K x x st f fd ∧ mg x = some (.ref f) ∧ Binds K fd ps []
def MT (K : PySem.W.Frag) (C : Addr) (m qual : Str) (st : Stmt) (ps : List Str) : Prop := ∃ f fd, Fun K m qual st f fd ∧ Meth K C m f ∧ Binds K fd ps []
section
variable {X : Cx} {CX : CXT} {k : Nat} {f C : Addr} {fd : FuncData} {ps : List Str} {sp : Sp} {x m : Str} {p pos apos : Pos} {e o : Expr} {es : List Expr} {ta : TE} {t : TA}
theorem pc_ (G : GO X.prog X.w X.K X.mg X.base CX0 k x ps sp) (hr : Room k X.A) (ha : PA X (e :: es) t) (hg : Gl X x := by rfl) (hdb : (x == ("__debug__" : Str)) = false := by decide)
    (he : starEach (e :: es) X.env = (false, eval e X.env) :: starEach es X.env := by rfl) (hpl : (backTo pos (starEach es X.env)).any (·.1) = false := by rfl) : PE X (.Call (.Name x p) (e :: es) [] pos) (tCall sp [] E0 t) := by
  obtain ⟨f, fd, F, hm, hk, hb⟩ := G
  exact pe_call F hr hg hm hk hb .nil pass0 ha hdb he hpl
theorem pm_ {pl : Sem Bool} (G : MO X.prog X.w X.K X.mg X.base CX0 C k m ps sp) (c : Cls X.K C) (hr : Room k X.A) (he : PE X o ta) (ha : PA X (e :: es) t)
    (hst : starEach (e :: es) X.env = (false, eval e X.env) :: starEach es X.env := by rfl) (hpl : (backTo pos (starEach es X.env)).any (·.1) = false := by rfl)
    (ht : eval (.Call (.Attribute o m apos) (e :: es) [] pos) X.env = (do
      let ov ← eval o X.env
      standAt apos.atName
      let (f, first) ← holding [ov] (getMethod ov m pl)
      callWith pos f first (backTo pos (starEach (e :: es) X.env)) (backToKw pos (keywordEach [] X.env))) := by rfl) : PE X (.Call (.Attribute o m apos) (e :: es) [] pos) (tMeth C m sp [] E0 ta t) := by
  obtain ⟨f, fd, F, hm, hb⟩ := G
  exact pe_meth he c hm F hr hb .nil pass0 ha hst hpl ht
theorem pm0_ {pl : Sem Bool} (G : MO X.prog X.w X.K X.mg X.base CX0 C k m ps sp) (c : Cls X.K C) (hr : Room k X.A) (he : PE X o ta)
    (ht : eval (.Call (.Attribute o m apos) [] [] pos) X.env = (do
      let ov ← eval o X.env
      standAt apos.atName
      let (f, first) ← holding [ov] (getMethod ov m pl)
      callWith pos f first (backTo pos (starEach [] X.env)) (backToKw pos (keywordEach [] X.env))) := by rfl) : PE X (.Call (.Attribute o m apos) [] [] pos) (tMeth C m sp [] E0 ta tNil) := by
  obtain ⟨f, fd, F, hm, hb⟩ := G
  exact pe_meth0 he c hm F hr hb .nil pass0 ht
/-- a method that may raise, called at the slots -/
def tMethE (C : Addr) (m : Str) (sp : Sp) (E : L2.St → XK) (ta : TE) (t : TA) : TE := fun σ H Q => ta σ H fun x H1 => ∃ a dx fs, x = .ref a ∧ H1 a = some (.ins C dx fs) ∧ fs.lookup m = none ∧
  t σ H1 fun vs H2 => sp (x :: vs) H2 Q (E σ)
theorem pmE_ {pl : Sem Bool} {E : L2.St → XK} (G : MO X.prog X.w X.K X.mg X.base CX C k m ps sp) (c : Cls X.K C) (hr : Room k X.A) (hx : ∀ σ, PassesAt CX X σ (E σ)) (he : PE X o ta) (ha : PA X (e :: es) t)
    (hst : starEach (e :: es) X.env = (false, eval e X.env) :: starEach es X.env := by rfl) (hpl : (backTo pos (starEach es X.env)).any (·.1) = false := by rfl)
    (ht : eval (.Call (.Attribute o m apos) (e :: es) [] pos) X.env = (do
      let ov ← eval o X.env
      standAt apos.atName
      let (f, first) ← holding [ov] (getMethod ov m pl)
      callWith pos f first (backTo pos (starEach (e :: es) X.env)) (backToKw pos (keywordEach [] X.env))) := by rfl) : PE X (.Call (.Attribute o m apos) (e :: es) [] pos) (tMethE C m sp E ta t) := by
  obtain ⟨f, fd, F, hm, hb⟩ := G
  refine ⟨fun pins s σ H Q I h => ?_⟩
  refine PySem.W.methodCall_KW (pl := pl) (thn (he.run pins s σ H _ I h) fun u s1 ⟨x, H1, I1, rx, a, dx, fs, ex, ea, l, q⟩ => ?_) ht
  subst ex
  obtain rfl : u = Value.ref a := rx
  refine getmeth_ok I1 ea c hm l ?_
  refine PySem.W.callWith_K (first := [.ref a]) (h₀ := X.base) I.ok.mod.kin hm.kp (thn (ha.run pos pins s1 σ H1 _ I1 q) fun us s2 ⟨vs, H2, I2, r, q2⟩ => ⟨I2.kIn, ?_⟩) hst hpl
  exact run_fnS (us := .ref a :: us) (vs := .ref a :: vs) F hr hb (hx σ) I2 (.cons rfl r) q2
/-- C(e, ..) where __init__ may raise, at the slots -/
def tMakeE (C : Addr) (sp : Sp) (E : L2.St → XK) (t : TA) : TE := fun σ H Q => t σ H fun vs H1 => ∀ x dx, H1 x = none → H1 dx = none → dx ≠ x →
  sp (.ref x :: vs) (upd (upd H1 dx (.own x)) x (.ins C dx [])) (fun v H2 => v = .non ∧ Q (.ref x) H2) (fun cls d H2 => E σ cls d H2)
theorem run_makeE {pins : List (Addr × Obj)} {σ : L2.St} {H : Hp} {s : Shared} {Q : VK} {E : XK} {us : List Value} {vs : List V} (M : Mk X.K C f) (F : FnOk X.prog X.w X.K X.mg X.base CX k f fd ps sp) (hr : Room (k + 1) X.A) (hb : Binds X.K fd ps [])
    (hx : PassesAt CX X σ E) (I : Inv X pins σ H s) (r : Vals vs us)
    (h : ∀ x dx, H x = none → H dx = none → dx ≠ x → sp (.ref x :: vs) (upd (upd H dx (.own x)) x (.ins C dx [])) (fun v H2 => v = .non ∧ Q (.ref x) H2) E) :
    wpAny (model X.prog X.w) X.A (call (.ref C) us) (EP X pins σ Q) X.xe s := by
  have hq := h (s.heap.objs.size + 1) s.heap.objs.size (I.hok.fresh (Nat.le_succ _)) (I.hok.fresh (Nat.le_refl _)) (Nat.ne_of_lt (Nat.lt_succ_self _))
  have I2 := Inv.made (C := C) I
  have r2 : Vals (V.ref (s.heap.objs.size + 1) :: vs) (Value.ref (s.heap.objs.size + 1) :: us) := .cons rfl r
  have hl : (Value.ref (s.heap.objs.size + 1) :: us ++ []).length = ps.length := by
    have e := r2.length
    rw [F.len _ _ _ _ hq] at e
    rw [List.append_nil]
    exact e.symm
  have b := hb _ (Value.ref (s.heap.objs.size + 1) :: us) I2.kIn hl
  rw [List.append_nil] at b
  refine wpAny_call (make_map (f := f) I.kIn M.makes M.init (beq_iff_eq.mp M.fn) (codeAny_mono (F.run _ X.stack _ _ ⟨Value.ref (s.heap.objs.size + 1) :: us, []⟩ (Value.ref (s.heap.objs.size + 1) :: us) _ _ E (hr.make C us [])
    (I2.env0.make C us []) b r2 hq) fun r s' hq' => ?_))
  cases r with
  | error e => exact hx pins _ _ e s' I2 hq'
  | ok fl =>
    cases fl with
    | ret u =>
      obtain ⟨v, H', I3, rv, ev, q3⟩ := I2.after hq'
      subst ev
      exact ⟨rv, ⟨V.ref (s.heap.objs.size + 1), H', I3, rfl, q3⟩⟩
    | next => exact False.elim hq'
    | brk => exact False.elim hq'
    | cont => exact False.elim hq'
theorem pe_makeE {E : L2.St → XK} (M : Mk X.K C f) (F : FnOk X.prog X.w X.K X.mg X.base CX k f fd ps sp) (hr : Room (k + 1) X.A) (hg : Gl X x) (hm : X.mg x = some (.ref C)) (hb : Binds X.K fd ps []) (hx : ∀ σ, PassesAt CX X σ (E σ))
    (ha : PA X (e :: es) t) (hdb : (x == ("__debug__" : Str)) = false := by decide) (he : starEach (e :: es) X.env = (false, eval e X.env) :: starEach es X.env := by rfl) (hpl : (backTo pos (starEach es X.env)).any (·.1) = false := by rfl) :
    PE X (.Call (.Name x p) (e :: es) [] pos) (tMakeE C sp E t) := by
  refine ⟨fun pins s σ H Q I h => ?_⟩
  refine wpAny_Call_Name_kw (ld_glob I hg hm ?_ hdb)
  refine PySem.W.callWith_K (h₀ := X.base) I.ok.mod.kin M.kp (thn (ha.run pos pins s σ H _ I h) fun us s1 ⟨vs, H1, I1, r, q⟩ => ⟨I1.kIn, ?_⟩) he hpl
  exact run_makeE M F hr hb (hx σ) I1 r q
end
section
variable {X : Cx} {C : Addr} {bmB : List Value} {B newId initId : String}
/-- X() -/
theorem pmk_own0 {x : Str} {p pos : Pos} (F : ExcBaseFacts B newId initId bmB) (q : PySem.W.excIn X.K C bmB newId = true) (gC : X.mg x = some (.ref C)) (kC : PySem.W.keepIn X.K (.ref C) = true) (r : Raises X (.ref C)) (hg : Gl X x)
    (hdb : (x == ("__debug__" : Str)) = false := by decide) : PMk X (.Call (.Name x p) [] [] pos) (fun _ H Q => Q (.ref C) none H) := by
  intro pins s σ H Q I h
  refine wpAny_Call_Name_kw (ld_glob I hg gC ?_ hdb)
  refine PySem.W.callWith_K0 I.kIn kC ?_
  show wpAny _ _ (call (.ref C) []) _ _ _
  obtain ⟨bm, N, nm, qn, bs, hdct, sn, sub, ab, col, dd, k0, k1, k2, k3, k5, mN, hC, hN, hni, T⟩ := exc_obj I.kIn q
  refine wpAny_call_exc_subT F T hC hN hni (fun h' e hm => ?_) (by show 0 ≤ sizeLine; exact Nat.zero_le _)
  exact mk_of I hm r h (I.hok.gone hm.new)
end
/-- a dict comprehension over a walk -/
theorem dc_it {J : It} {n : Nat} {G : Hp → Prop} {Y : Nat → Hp → V → Hp → Prop} (w : Walk J n G Y) {g : TG} {tt : TT} {tk tv : TE} {vs : List Nat} {σ : L2.St} {H1 : Hp} {D : Addr} {Qd : Hp → Prop} (Pv : Nat → Hp → Prop) (h0 : Pv 0 (upd H1 D (.dK []))) (hG : ∀ i H, i ≤ n → Pv i H → G H)
    (hs : ∀ i x H H', i < n → Pv i H → Y i H x H' → g x (wipe σ vs) H' fun σ2 H2 => wipe σ2 vs = wipe σ vs ∧ tt σ2 H2 fun b H3 =>
      if b = true then tk σ2 H3 fun y H4 => tv σ2 H4 fun z H5 => ∃ kvs k, y = kV k ∧ H5 D = some (.dK kvs) ∧ kvs.length < sizeLine ∧ Pv (i + 1) (upd H5 D (.dK (putK kvs k z))) else Pv (i + 1) H3) (hd : ∀ H, Pv n H → Qd H) :
    ∃ W : Nat → Nat → Hp → Prop, (∃ m, W 0 m (upd H1 D (.dK []))) ∧ ∀ i m H, W i m H →
      (J.stop i H ∧ Qd H) ∨ (J.go i H ∧ ∃ Nx : Hp → Prop, (∀ H', Nx H' → ∃ m', m' < m ∧ W (i + 1) m' H') ∧ ∀ x H', J.yld i H x H' → g x (wipe σ vs) H' fun σ2 H2 => wipe σ2 vs = wipe σ vs ∧ tt σ2 H2 fun b H3 =>
        if b = true then tk σ2 H3 fun y H4 => tv σ2 H4 fun z H5 => ∃ kvs k, y = kV k ∧ H5 D = some (.dK kvs) ∧ kvs.length < sizeLine ∧ Nx (upd H5 D (.dK (putK kvs k z))) else Nx H3) := by
  refine ⟨fun i m H => m = n - i ∧ i ≤ n ∧ Pv i H, ⟨n, by simp, Nat.zero_le _, h0⟩, ?_⟩
  rintro i m H ⟨rfl, hi, p⟩
  have q := hG i H hi p
  by_cases hlt : i < n
  · refine .inr ⟨w.goes i H hlt q, Pv (i + 1), fun H' p' => ⟨n - (i + 1), by omega, rfl, hlt, p'⟩, fun x H' y => hs i x H H' hlt p (w.yields i H x H' hlt q y)⟩
  · have e : i = n := by omega
    subst e
    exact .inl ⟨w.stops H q, hd H p⟩
end Dk

set_option maxHeartbeats 4000000
/-! rules for machines: a method as a value, its call; calls by the class of the object; Base.__init__(self) -/
namespace Mr
open PySem PySem.Spec PyProof.Rows L2
section
variable {X : Cx} {k : Nat} {m x : Str} {o e : Expr} {es : List Expr} {ta : TE} {t : TA} {p apos pos : Pos}
/-- o.m as a value -/
def tBM (K : PySem.W.Frag) (ta : TE) (m : Str) : TE := fun σ H Q => ta σ H fun x H1 => ∃ a C dx fs g, x = .ref a ∧ H1 a = some (.ins C dx fs) ∧ Cls K C ∧ BMeth K C m g ∧ fs.lookup m = none ∧ ∀ q, H1 q = none → Q (.ref q) (upd H1 q (.met g a))
theorem pe_bm_ (he : PE X o ta) (hb : attributeBase o m X.env (eval o X.env) = eval o X.env := by rfl) : PE X (.Attribute o m pos) (tBM X.K ta m) := by
  refine ⟨fun pins s σ H Q I h => ?_⟩
  refine attr_of hb (thn (he.run pins s σ H _ I h) fun u s1 ⟨x, H1, I1, rx, a, C, dx, fs, g, ex, ea, c, b, l, q⟩ => ?_)
  subst ex
  exact op_getbound I1 ea c b l rx q
/-- o.m(e, ..), the def found by the object's class -/
def tMD (P : Program) (w : World) (K : PySem.W.Frag) (mg : Str → Option Value) (base : Heap) (k : Nat) (m : Str) (ta : TE) (t : TA) : TE := fun σ H Q => ta σ H fun x H1 => ∃ a C dx fs f sp, x = .ref a ∧ H1 a = some (.ins C dx fs) ∧ Cls K C ∧ Meth K C m f ∧ FnR P w K mg base CX0 k f sp ∧ fs.lookup m = none ∧
  t σ H1 fun vs H2 => sp (x :: vs) H2 Q E0
theorem pe_md {pl : Sem Bool} (he : PE X o ta) (hr : Room k X.A) (ha : PA X (e :: es) t)
    (hst : starEach (e :: es) X.env = (false, eval e X.env) :: starEach es X.env := by rfl) (hpl : (backTo pos (starEach es X.env)).any (·.1) = false := by rfl)
    (ht : eval (.Call (.Attribute o m apos) (e :: es) [] pos) X.env = (do
      let ov ← eval o X.env
      standAt apos.atName
      let (f, first) ← holding [ov] (getMethod ov m pl)
      callWith pos f first (backTo pos (starEach (e :: es) X.env)) (backToKw pos (keywordEach [] X.env))) := by rfl) : PE X (.Call (.Attribute o m apos) (e :: es) [] pos) (tMD X.prog X.w X.K X.mg X.base k m ta t) := by
  refine ⟨fun pins s σ H Q I h => ?_⟩
  refine PySem.W.methodCall_KW (pl := pl) (thn (he.run pins s σ H _ I h) fun u s1 ⟨x, H1, I1, rx, a, C, dx, fs, f, sp, ex, ea, c, hm, F, l, q⟩ => ?_) ht
  subst ex
  obtain rfl : u = Value.ref a := rx
  refine getmeth_ok I1 ea c hm l ?_
  refine PySem.W.callWith_K (first := [.ref a]) (h₀ := X.base) I.ok.mod.kin hm.kp (thn (ha.run pos pins s1 σ H1 _ I1 q) fun us s2 ⟨vs, H2, I2, r, q2⟩ => ⟨I2.kIn, ?_⟩) hst hpl
  exact wpAny_call (run_fnR (us := .ref a :: us) (vs := .ref a :: vs) F hr pass0 I2 (.cons rfl r) q2)
theorem pe_md0 {pl : Sem Bool} (he : PE X o ta) (hr : Room k X.A)
    (ht : eval (.Call (.Attribute o m apos) [] [] pos) X.env = (do
      let ov ← eval o X.env
      standAt apos.atName
      let (f, first) ← holding [ov] (getMethod ov m pl)
      callWith pos f first (backTo pos (starEach [] X.env)) (backToKw pos (keywordEach [] X.env))) := by rfl) : PE X (.Call (.Attribute o m apos) [] [] pos) (tMD X.prog X.w X.K X.mg X.base k m ta tNil) := by
  refine ⟨fun pins s σ H Q I h => ?_⟩
  refine PySem.W.methodCall_KW (pl := pl) (thn (he.run pins s σ H _ I h) fun u s1 ⟨x, H1, I1, rx, a, C, dx, fs, f, sp, ex, ea, c, hm, F, l, q⟩ => ?_) ht
  subst ex
  obtain rfl : u = Value.ref a := rx
  refine getmeth_ok I1 ea c hm l ?_
  exact PySem.W.callWith_K0 (first := [.ref a]) I1.kIn hm.kp (wpAny_call (run_fnR (us := [.ref a]) (vs := [.ref a]) F hr pass0 I1 (.cons rfl .nil) q))
/-- f(e, ..), f a name that holds a bound method -/
def tCM (P : Program) (w : World) (K : PySem.W.Frag) (mg : Str → Option Value) (base : Heap) (k : Nat) (tf : TE) (t : TA) : TE := fun σ H Q => tf σ H fun v H1 => ∃ q g a sp, v = .ref q ∧ PySem.W.fnIn K g = true ∧ FnR P w K mg base CX0 k g sp ∧ t σ H1 fun vs H2 => H2 q = some (.met g a) ∧ sp (.ref a :: vs) H2 Q E0
theorem pe_cm {tf : TE} (hf : PE X (.Name x p) tf) (hr : Room k X.A) (ha : PA X (e :: es) t)
    (he : starEach (e :: es) X.env = (false, eval e X.env) :: starEach es X.env := by rfl) (hpl : (backTo pos (starEach es X.env)).any (·.1) = false := by rfl) : PE X (.Call (.Name x p) (e :: es) [] pos) (tCM X.prog X.w X.K X.mg X.base k tf t) := by
  refine ⟨fun pins s σ H Q I h => ?_⟩
  refine wpAny_Call_Name_kw (thn (hf.run pins s σ H _ I h) fun f s0 ⟨v, H0, I0, r0, q, g, a, sp, ev, fi, F, q0⟩ => ?_)
  subst ev
  obtain rfl : f = Value.ref q := r0
  show wpAny _ _ (callWith pos (.ref q) [] (backTo pos (starEach (e :: es) X.env)) []) _ _ _
  rw [he]
  refine PySem.W.callWith_of (P := PySem.W.MethP X.K q g (.ref a)) (by show ((false || (backTo pos (starEach es X.env)).any (·.1)) || false) = false; rw [hpl]; rfl) (PySem.W.keeps_M fi) (Calls.evalArgs_plain ?_)
  have hh := ha.run pos pins s0 σ H0 _ I0 q0
  rw [he] at hh
  refine thn hh fun us s1 ⟨vs, H1, I1, r1, hm, hsp⟩ => ⟨met_P I1 hm, ?_⟩
  exact wpAny_call (call_met I1 hm (run_fnR (us := .ref a :: us) (vs := .ref a :: vs) F hr pass0 I1 (.cons rfl r1) hsp))
/-- the def that a class hands out by its name -/
structure CFn (K : PySem.W.Frag) (C : Addr) (m : Str) (f : Addr) : Prop where
  rd : ∃ mc, PySem.W.readsIn K C mc = true ∧ PySem.W.findCls K (.ref C) mc m = some (.val (.ref f))
  ga : PySem.W.specialIn K (.ref C) "__getattribute__" = some (some (.builtin "type.__getattribute__"))
  kp : PySem.W.keepIn K (.ref f) = true
/-- C.m(e, ..), C a class of the module -/
theorem pe_cls {pl : Sem Bool} {C f : Addr} {sp : Sp} (hg : Gl X x) (hm : X.mg x = some (.ref C)) (b : CFn X.K C m f) (F : FnR X.prog X.w X.K X.mg X.base CX0 k f sp) (hr : Room k X.A) (ha : PA X (e :: es) t) (hd : (x == ("__debug__" : Str)) = false := by decide)
    (hst : starEach (e :: es) X.env = (false, eval e X.env) :: starEach es X.env := by rfl) (hpl : (backTo pos (starEach es X.env)).any (·.1) = false := by rfl)
    (ht : eval (.Call (.Attribute (.Name x p) m apos) (e :: es) [] pos) X.env = (do
      let ov ← eval (.Name x p) X.env
      standAt apos.atName
      let (f, first) ← holding [ov] (getMethod ov m pl)
      callWith pos f first (backTo pos (starEach (e :: es) X.env)) (backToKw pos (keywordEach [] X.env))) := by rfl) : PE X (.Call (.Attribute (.Name x p) m apos) (e :: es) [] pos) (tCall sp [] E0 t) := by
  refine ⟨fun pins s σ H Q I h => ?_⟩
  obtain ⟨mc, rd, at_⟩ := b.rd
  refine PySem.W.methodCall_KW (pl := pl) (ld_glob I hg hm ?_ hd) ht
  refine PySem.W.method_cls I.kIn b.ga (PySem.W.cls_value I.kIn rd at_ rfl ?_)
  have I1 := I.tok (s.toks + 1)
  refine PySem.W.callWith_K (first := []) (h₀ := X.base) I.ok.mod.kin b.kp (thn (ha.run pos pins _ σ H _ I1 h) fun us s2 ⟨vs, H2, I2, r, q2⟩ => ⟨I2.kIn, ?_⟩) hst hpl
  dsimp only at q2
  rw [List.append_nil] at q2
  exact wpAny_call (run_fnR F hr pass0 I2 r q2)
end
end Mr

set_option maxHeartbeats 4000000
/-! list(zip(a, b)) of two tuples: every pair is kept, so the zip makes a new one each time -/
namespace Lz
open PySem PySem.Spec PyProof.Rows L2
/-- a zip that has handed out the pair at T, which is still held -/
abbrev ZH (h : Heap) (z TI TO T : Addr) (b : Bool) : Prop :=
  h.get? z = some { cls := .type "zip", dict := none, data := .fields #[rawInt T, .bool b, .bool false, .ref TI, .ref TO], slots := #[] }
section
variable {prog : Program} {w : World} {A : Around} {E : Value → Shared → Prop} {s : Shared}
theorem alive {M : Model} {a : Addr} {o : Obj} {Q : Option Obj → Shared → Prop} (ho : s.heap.get? a = some o) (h : Q (some o) s) : wpAny M A (loadIfAlive a) Q E s := fun Γ p _ => by
  unfold loadIfAlive
  rw [Sem.wp_loadIfAlive, ho]
  exact h
theorem held {z TI TO T : Addr} {b : Bool} {o : Obj} {Q : Bool → Shared → Prop} (hz : ZH s.heap z TI TO T b) (hT : s.heap.get? T = some o)
    (h : ∀ h', ZH h' z TI TO T true → Heap.SameBut z s.heap h' → Q false { s with heap := h' }) : wpAny (model prog w) A (Builtin.SmallTypes.ownedTupleIsFree (.ref z)) Q E s := by
  unfold Builtin.SmallTypes.ownedTupleIsFree
  refine wpAny_bind (wpAny_field hz rfl (x := rawInt T) rfl ?_)
  show wpAny _ _ (loadIfAlive ((T : Int).toNat) >>= _) _ _ _
  rw [Int.toNat_natCast]
  refine wpAny_bind (alive hT ?_)
  show wpAny _ _ (field (.ref z) 1 >>= _) _ _ _
  refine wpAny_bind (wpAny_field hz rfl (x := .bool b) rfl ?_)
  cases b with
  | true =>
    show wpAny _ _ (pure false) _ _ _
    exact wpAny_pure (h s.heap hz ⟨rfl, fun _ _ => rfl⟩)
  | false =>
    show wpAny _ _ (setField (.ref z) 1 (.bool true) >>= fun _ => pure false) _ _ _
    refine wpAny_bind (wpAny_setField_rec hz (by simp) fun h1 hz1 hs1 => wpAny_pure (h h1 hz1 hs1))
/-- the next pair, while an elder one is held -/
theorem next {z TI TO T i1 i2 l1 l2 : Addr} {k1 k2 : Nat} {xs ys : Array Value} {x y : Value} {b : Bool} {o : Obj} {Q : Value → Shared → Prop} (D : ZipApart z TI TO i1 i2 l1 l2)
    (hz : ZH s.heap z TI TO T b) (hT : s.heap.get? T = some o) (hTI : IsPair s.heap TI (.ref i1) (.ref i2))
    (h1 : s.heap.IsTupleIter i1 l1 k1) (h2 : s.heap.IsTupleIter i2 l2 k2) (hl1 : s.heap.IsTuple l1 xs) (hl2 : s.heap.IsTuple l2 ys) (hx : xs[k1]? = some x) (hy : ys[k2]? = some y)
    (hQ : ∀ h', ZH h' z TI TO T true → h'.IsTupleIter i1 l1 (k1 + 1) → h'.IsTupleIter i2 l2 (k2 + 1) → IsPair h' s.heap.objs.size x y → h'.objs.size = s.heap.objs.size + 1 →
      (∀ c u, c ≠ z → c ≠ i1 → c ≠ i2 → s.heap.get? c = some u → h'.get? c = some u) → Q (.ref s.heap.objs.size) { s with heap := h' }) :
    wpAny (model prog w) A (Builtin.«zip.__next__» ⟨[.ref z], []⟩) (fun fin s' => ∃ v, fin = .done (.ret v) ∧ Q v s') E s := by
  show wpAny _ _ (field (.ref z) 2 >>= _) _ _ _
  refine wpAny_bind (wpAny_field hz rfl (x := .bool false) rfl ?_)
  show wpAny _ _ (field (.ref z) 3 >>= _) _ _ _
  refine wpAny_bind (wpAny_field hz rfl (x := .ref TI) rfl ?_)
  refine wpAny_bind (wpAny_seqItems hTI rfl ?_)
  show wpAny _ _ (Builtin.SmallTypes.ownedTupleIsFree (.ref z) >>= _) _ _ _
  refine wpAny_bind (held hz hT fun ha hza hsa => ?_)
  simp only [Bool.false_eq_true, if_false]
  have a1 := h1.extBut hsa.extBut D.i1z
  have a2 := h2.extBut hsa.extBut D.i2z
  have b1 := hl1.extBut hsa.extBut D.l1z
  have b2 := hl2.extBut hsa.extBut D.l2z
  refine wpAny_bind ?_
  simp only [List.forIn_toArray, List.forIn_cons, List.forIn_nil]
  refine wpAny_bind (wpAny_bind (wpAny_holding ?_))
  show wpAny _ _ (Builtin.SmallTypes.nextOf (.ref i1) >>= fun v => pure (some v)) _ _ _
  refine wpAny_bind (RZ.nextOf_tuple_item a1 b1 hx fun hb c1 sb => wpAny_pure ?_)
  refine wpAny_pure ?_
  refine wpAny_bind (wpAny_bind (wpAny_holding ?_))
  show wpAny _ _ (Builtin.SmallTypes.nextOf (.ref i2) >>= fun v => pure (some v)) _ _ _
  refine wpAny_bind (RZ.nextOf_tuple_item (a2.extBut sb.extBut D.i12.symm) (b2.extBut sb.extBut D.l2i1) hy fun hc c2 sc => wpAny_pure ?_)
  refine wpAny_pure ?_
  refine wpAny_pure ?_
  refine wpAny_bind (wpAny_newTuple ?_ (by show 2 ≤ sizeLine; decide))
  have sz : hc.objs.size = s.heap.objs.size := (sc.1.trans sb.1).trans hsa.1
  have up : ∀ {c : Addr} {u : Obj}, hc.get? c = some u → (hc.push { cls := .type "tuple", data := .seq [x, y].toArray }).get? c = some u := fun e => Heap.get?_push_of_some _ e
  refine wpAny_pure ⟨_, rfl, ?_⟩
  show Q (.ref hc.objs.size) _
  rw [sz]
  refine hQ _ (up (sc.extBut _ _ D.i2z.symm (sb.extBut _ _ D.i1z.symm hza))) ((c1.extBut sc.extBut D.i12).at fun u e => up e) (c2.at fun u e => up e) ?_ ?_ fun c u h1 h2 h3 e => up (sc.extBut _ _ h3 (sb.extBut _ _ h2 (hsa.extBut _ _ h1 e)))
  · rw [← sz]
    exact Heap.get?_push_size _ rfl
  · show (hc.push _).objs.size = _
    rw [Heap.size_push, sz]
/-- no pair is left -/
theorem last {z TI TO T i1 i2 l1 l2 : Addr} {k1 : Nat} {xs : Array Value} {b : Bool} {o : Obj} {Q : Fin → Shared → Prop} (hh : A.handled = none) (D : ZipApart z TI TO i1 i2 l1 l2)
    (hz : ZH s.heap z TI TO T b) (hT : s.heap.get? T = some o) (hTI : IsPair s.heap TI (.ref i1) (.ref i2)) (h1 : s.heap.IsTupleIter i1 l1 k1) (hl1 : s.heap.IsTuple l1 xs) (hx : xs[k1]? = none)
    (hE : ∀ h' e, (∀ c u, c ≠ z → c ≠ i1 → s.heap.get? c = some u → h'.get? c = some u) → (∃ u, h'.get? e = some u ∧ u.cls = .type "StopIteration") → E (.ref e) { s with heap := h' }) :
    wpAny (model prog w) A (Builtin.«zip.__next__» ⟨[.ref z], []⟩) Q E s := by
  show wpAny _ _ (field (.ref z) 2 >>= _) _ _ _
  refine wpAny_bind (wpAny_field hz rfl (x := .bool false) rfl ?_)
  show wpAny _ _ (field (.ref z) 3 >>= _) _ _ _
  refine wpAny_bind (wpAny_field hz rfl (x := .ref TI) rfl ?_)
  refine wpAny_bind (wpAny_seqItems hTI rfl ?_)
  show wpAny _ _ (Builtin.SmallTypes.ownedTupleIsFree (.ref z) >>= _) _ _ _
  refine wpAny_bind (held hz hT fun ha hza hsa => ?_)
  simp only [Bool.false_eq_true, if_false]
  refine wpAny_bind ?_
  simp only [List.forIn_toArray, List.forIn_cons, List.forIn_nil]
  refine wpAny_bind (wpAny_bind (wpAny_holding ?_))
  show wpAny _ _ (Builtin.SmallTypes.nextOf (.ref i1) >>= fun v => pure (some v)) _ _ _
  exact wpAny_bind (RZ.nextOf_tuple_end hh (h1.extBut hsa.extBut D.i1z) (hl1.extBut hsa.extBut D.l1z) hx fun h' e hk he => hE h' e (fun c u q1 q2 q => hk _ _ q2 (hsa.extBut _ _ q1 q)) he)
theorem pyNext_held {z TI TO T i1 i2 l1 l2 : Addr} {k1 k2 : Nat} {xs ys : Array Value} {x y : Value} {b : Bool} {o : Obj} {Q : Option Value → Shared → Prop} (D : ZipApart z TI TO i1 i2 l1 l2)
    (hz : ZH s.heap z TI TO T b) (hT : s.heap.get? T = some o) (hTI : IsPair s.heap TI (.ref i1) (.ref i2))
    (h1 : s.heap.IsTupleIter i1 l1 k1) (h2 : s.heap.IsTupleIter i2 l2 k2) (hl1 : s.heap.IsTuple l1 xs) (hl2 : s.heap.IsTuple l2 ys) (hx : xs[k1]? = some x) (hy : ys[k2]? = some y)
    (hQ : ∀ h', ZH h' z TI TO T true → h'.IsTupleIter i1 l1 (k1 + 1) → h'.IsTupleIter i2 l2 (k2 + 1) → IsPair h' s.heap.objs.size x y → h'.objs.size = s.heap.objs.size + 1 →
      (∀ c u, c ≠ z → c ≠ i1 → c ≠ i2 → s.heap.get? c = some u → h'.get? c = some u) → Q (some (.ref s.heap.objs.size)) { s with heap := h' }) :
    wpAny (model prog w) A (pyNext (.ref z)) Q E s := by
  have ty : s.TypeIs (.ref z) "zip" := ⟨_, hz, rfl⟩
  unfold pyNext
  exact wpAny_bind (wpAny_attempt (wpAny_callSpecial?_slot (name := Str.ofString "__next__") ty PySem.F.slot_zip_next (wpAny_call_entry PySem.F.slot_zip_next ty PySem.F.entry_zip_next
    (next D hz hT hTI h1 h2 hl1 hl2 hx hy fun h' q1 q2 q3 q4 q5 q6 => wpAny_pure (hQ h' q1 q2 q3 q4 q5 q6)) (PySem.F.args_zip_next_1 _))))
theorem pyNext_last {z TI TO T i1 i2 l1 l2 : Addr} {k1 : Nat} {xs : Array Value} {b : Bool} {o : Obj} {Q : Option Value → Shared → Prop} (hh : A.handled = none) (D : ZipApart z TI TO i1 i2 l1 l2)
    (hz : ZH s.heap z TI TO T b) (hT : s.heap.get? T = some o) (hTI : IsPair s.heap TI (.ref i1) (.ref i2)) (h1 : s.heap.IsTupleIter i1 l1 k1) (hl1 : s.heap.IsTuple l1 xs) (hx : xs[k1]? = none)
    (hQ : ∀ h', (∀ c u, c ≠ z → c ≠ i1 → s.heap.get? c = some u → h'.get? c = some u) → Q none { s with heap := h' }) : wpAny (model prog w) A (pyNext (.ref z)) Q E s := by
  have ty : s.TypeIs (.ref z) "zip" := ⟨_, hz, rfl⟩
  unfold pyNext
  refine wpAny_bind (wpAny_attempt (wpAny_callSpecial?_slot (name := Str.ofString "__next__") ty PySem.F.slot_zip_next (wpAny_call_entry PySem.F.slot_zip_next ty PySem.F.entry_zip_next
    (last hh D hz hT hTI h1 hl1 hx fun h' e hk he => ?_) (PySem.F.args_zip_next_1 _))))
  obtain ⟨u, hu, hcu⟩ := he
  exact wpAny_bind (wpAny_isInstance (T := "StopIteration") (b := true) ⟨u, hu, hcu⟩ isSubtype_stop (wpAny_pure (hQ _ hk)))
end
end Lz

set_option maxHeartbeats 4000000
/-! list(zip(a, b)) of two tuples of one length -/
namespace Lz
open PySem PySem.Spec PyProof.Rows L2
theorem zip_no_len : typeLookup (.type "zip") "__len__" = pure none := by rw [typeLookup_type, builtinLookup_eq_fast]; kernel_rfl
theorem zip_no_hint : typeLookup (.type "zip") "__length_hint__" = pure none := by rw [typeLookup_type, builtinLookup_eq_fast]; kernel_rfl
/-- the zip z at its i-th turn; S is the list that grows -/
def ZS (h : Heap) (S z TI TO i1 i2 a b : Addr) (i : Nat) : Prop := TO < h.objs.size ∧ IsPair h TI (.ref i1) (.ref i2) ∧ h.IsTupleIter i1 a i ∧ h.IsTupleIter i2 b i ∧
  ((IsZip h z TI TO .none ∧ ∃ x y, IsPair h TO x y) ∨ ∃ T o k, ZH h z TI TO T k ∧ h.get? T = some o ∧ T ≠ S)
section
variable {X : Cx} {pins : List (Addr × Obj)} {σ : L2.St} {H : Hp} {s : Shared} {A : Around} {E : Value → Shared → Prop}
theorem turn {S z TI TO i1 i2 a b : Addr} {i : Nat} {xs ys : List V} {x y : V} {Q : Option Value → Shared → Prop} (D : ZipApart z TI TO i1 i2 a b) (I : Inv X pins σ H s) (hf : ∀ c ∈ [z, TI, TO, i1, i2], FpOk X pins H c) (st : ZS s.heap S z TI TO i1 i2 a b i)
    (hS : S < s.heap.objs.size) (qx : SqT X.K H a xs) (qy : SqT X.K H b ys) (hx : xs[i]? = some x) (hy : ys[i]? = some y)
    (hQ : ∀ (T : Addr) (s' : Shared), H T = none → Inv X pins σ (upd H T (.tup [x, y])) s' → (∀ c ∈ [z, TI, TO, i1, i2], FpOk X pins (upd H T (.tup [x, y])) c) → ZS s'.heap S z TI TO i1 i2 a b (i + 1) → S < s'.heap.objs.size → Q (some (.ref T)) s') :
    wpAny (model X.prog X.w) A (pyNext (.ref z)) Q E s := by
  obtain ⟨its, rv, p, _⟩ := I.tuple qx
  obtain ⟨its2, rv2, p2, _⟩ := I.tuple qy
  obtain ⟨u, hu, ru⟩ := rv.get hx
  obtain ⟨u2, hu2, ru2⟩ := rv2.get hy
  obtain ⟨hO, hTI, h1, h2, hz⟩ := st
  have new : ∀ (h' : Heap), h'.get? s.heap.objs.size = some { cls := .type "tuple", data := .seq #[u, u2] } → ObjOk X.prog X.w (upd H s.heap.objs.size (.tup [x, y])) h' s.heap.objs.size (.tup [x, y]) := fun h' e =>
    ⟨by show 2 ≤ sizeLine; decide, [u, u2], .cons ru (.cons ru2 .nil), ⟨_, e, rfl, _, rfl⟩⟩
  have lt : ∀ c ∈ [z, TI, TO, i1, i2], H c = none ∧ (c < s.heap.objs.size → FpOk X pins (upd H s.heap.objs.size (.tup [x, y])) c) := fun c hc => by
    obtain ⟨e1, e2⟩ := hf c hc
    refine ⟨e1, fun hl => ⟨?_, e2⟩⟩
    rw [upd_ne (Nat.ne_of_lt hl)]
    exact e1
  have hn : H s.heap.objs.size = none := I.hok.fresh (Nat.le_refl _)
  have l1 : i1 < s.heap.objs.size := by obtain ⟨_, e, _⟩ := h1; exact Heap.lt_size e
  have l2 : i2 < s.heap.objs.size := by obtain ⟨_, e, _⟩ := h2; exact Heap.lt_size e
  have hzl : z < s.heap.objs.size := by
    rcases hz with ⟨e, _⟩ | ⟨_, _, _, e, _⟩
    · exact Heap.lt_size e
    · exact Heap.lt_size e
  have fp : ∀ c ∈ [z, TI, TO, i1, i2], FpOk X pins (upd H s.heap.objs.size (.tup [x, y])) c := fun c hc => by
    refine (lt c hc).2 ?_
    have e' : c = z ∨ c = TI ∨ c = TO ∨ c = i1 ∨ c = i2 := by simpa using hc
    rcases e' with e | e | e | e | e <;> rw [e]
    · exact hzl
    · exact Heap.lt_size hTI
    · exact hO
    · exact l1
    · exact l2
  have gr : ∀ {h' : Heap} {c : Addr}, h'.objs.size = s.heap.objs.size + 1 → c < s.heap.objs.size → c < h'.objs.size := fun {h' c} e q => by
    rw [e]
    exact Nat.lt_succ_of_lt q
  rcases hz with ⟨hz, x0, y0, hTO⟩ | ⟨T, o, k, hz, hT, hTS⟩
  · refine RZ.pyNext_zipT_item D hz hTI hTO h1 h2 p p2 (x := u) (y := u2) (by simpa using hu) (by simpa using hu2) fun h' z' TO' h1' h2' hT' hsz hk => ?_
    exact hQ _ _ hn (I.turnedNew (t' := s.toks) (ch := [z, TI, TO, i1, i2]) (fun c o hb q => hk c o (fun q' => hb (by simp [q'])) (fun q' => hb (by simp [q'])) (fun q' => hb (by simp [q'])) (fun q' => hb (by simp [q'])) q) hf (Nat.le_refl _) (new h' hT')) fp
      ⟨gr hsz hO, hk _ _ D.TIz D.TITO D.TIi1 D.TIi2 hTI, h1', h2', .inr ⟨_, _, _, z', hT', (Nat.ne_of_lt hS).symm⟩⟩ (gr hsz hS)
  · have Tz : T ≠ z ∧ T ≠ i1 ∧ T ≠ i2 ∨ ∃ o', s.heap.get? T = some o' := .inr ⟨o, hT⟩
    refine pyNext_held D hz hT hTI h1 h2 p p2 (x := u) (y := u2) (by simpa using hu) (by simpa using hu2) fun h' z' h1' h2' hT' hsz hk => ?_
    obtain ⟨o', ho'⟩ : ∃ o', h'.get? T = some o' := by
      by_cases e1 : T = z
      · rw [e1]
        exact ⟨_, z'⟩
      · by_cases e2 : T = i1
        · obtain ⟨o1, e, _⟩ := h1'
          rw [e2]
          exact ⟨o1, e⟩
        · by_cases e3 : T = i2
          · obtain ⟨o1, e, _⟩ := h2'
            rw [e3]
            exact ⟨o1, e⟩
          · exact ⟨o, hk _ _ e1 e2 e3 hT⟩
    exact hQ _ _ hn (I.turnedNew (t' := s.toks) (ch := [z, TI, TO, i1, i2]) (fun c o hb q => hk c o (fun q' => hb (by simp [q'])) (fun q' => hb (by simp [q'])) (fun q' => hb (by simp [q'])) q) hf (Nat.le_refl _) (new h' hT')) fp
      ⟨gr hsz hO, hk _ _ D.TIz D.TIi1 D.TIi2 hTI, h1', h2', .inr ⟨T, o', _, z', ho', hTS⟩⟩ (gr hsz hS)
/-- the zip has ended -/
theorem stop {S z TI TO i1 i2 a b : Addr} {i : Nat} {xs ys : List V} {Q : Option Value → Shared → Prop} (hh : A.handled = none) (D : ZipApart z TI TO i1 i2 a b) (I : Inv X pins σ H s) (hf : ∀ c ∈ [z, TI, TO, i1, i2], FpOk X pins H c) (st : ZS s.heap S z TI TO i1 i2 a b i)
    (qx : SqT X.K H a xs) (qy : SqT X.K H b ys) (hx : xs.length ≤ i) (hQ : ∀ s', Inv X pins σ H s' → Q none s') : wpAny (model X.prog X.w) A (pyNext (.ref z)) Q E s := by
  obtain ⟨its, rv, p, _⟩ := I.tuple qx
  obtain ⟨its2, rv2, p2, _⟩ := I.tuple qy
  have hl := rv.length
  have hn : its.toArray[i]? = none := by simp; omega
  obtain ⟨hO, hTI, h1, h2, ⟨hz, x0, y0, hTO⟩ | ⟨T, o, k, hz, hT, hTS⟩⟩ := st
  · exact RZ.pyNext_zipT_end hh D hz hTI hTO h1 h2 p p2 (.inl hn) fun h' hk => hQ _ (I.turnedL (t' := s.toks) (ch := [z, TI, TO, i1, i2]) (fun c o hb q => hk c o (fun q' => hb (by simp [q'])) (fun q' => hb (by simp [q'])) (fun q' => hb (by simp [q'])) (fun q' => hb (by simp [q'])) q) hf)
  · exact pyNext_last hh D hz hT hTI h1 p hn fun h' hk => hQ _ (I.turnedL (t' := s.toks) (ch := [z, TI, TO, i1, i2]) (fun c o hb q => hk c o (fun q' => hb (by simp [q'])) (fun q' => hb (by simp [q'])) q) hf)
end
end Lz

set_option maxHeartbeats 4000000
/-! list(zip(a, b)): the loop, the call -/
namespace Lz
open PySem PySem.Spec PyProof.Rows L2
def Prs (H0 H : Hp) (S : Addr) (qs : List Addr) (xs ys : List V) : Prop := ∀ (j : Nat) (q : Addr), qs[j]? = some q → H0 q = none ∧ q ≠ S ∧ ∃ x y, xs[j]? = some x ∧ ys[j]? = some y ∧ H q = some (.tup [x, y])
theorem ZS.upd {h : Heap} {S z TI TO i1 i2 a b : Addr} {i : Nat} {f : Obj → Obj} (st : ZS h S z TI TO i1 i2 a b i) (hz : z ≠ S) (hTI : TI ≠ S) (h1 : i1 ≠ S) (h2 : i2 ≠ S) (hTO : TO ≠ S) : ZS (h.update S f) S z TI TO i1 i2 a b i := by
  have o : ∀ {c : Addr} {u : Obj}, c ≠ S → h.get? c = some u → (h.update S f).get? c = some u := fun {c u} n e => (Heap.get?_update_other h f (Ne.symm n)).trans e
  obtain ⟨q1, q2, q3, q4, q5⟩ := st
  refine ⟨?_, o hTI q2, q3.at fun u e => o h1 e, q4.at fun u e => o h2 e, ?_⟩
  · rw [Heap.size_after_update]
    exact q1
  · rcases q5 with ⟨e1, x, y, e2⟩ | ⟨T, u, k, e1, e2, e3⟩
    · exact .inl ⟨o hz e1, x, y, o hTO e2⟩
    · exact .inr ⟨T, u, k, o hz e1, o e3 e2, e3⟩
section
variable {X : Cx} {pins : List (Addr × Obj)} {σ : L2.St}
theorem grow {A1 : Around} {Rs : Result → Shared → Prop} {S z TI TO i1 i2 a b : Addr} {xs ys : List V} {H0 : Hp} (hh : A1.in1.handled = none) (D : ZipApart z TI TO i1 i2 a b) (hl : xs.length = ys.length) (hz : xs.length < sizeLine) (h0 : H0 S = none) (qx : SqT X.K H0 a xs) (qy : SqT X.K H0 b ys)
    (done : ∀ (qs : List Addr) (H : Hp) (s : Shared), Inv X pins σ H s → H S = some (.lst (qs.map V.ref)) → qs.length = xs.length → Prs H0 H S qs xs ys → (∀ c o, H0 c = some o → H c = some o) → Rs (.ok (.ret .none)) s) :
    ∀ (m i : Nat) (qs : List Addr) (H : Hp) (s : Shared), i + m = xs.length → qs.length = i → Inv X pins σ H s → H S = some (.lst (qs.map V.ref)) → S < s.heap.objs.size → (∀ c ∈ [z, TI, TO, i1, i2], FpOk X pins H c) → ZS s.heap S z TI TO i1 i2 a b i →
      Prs H0 H S qs xs ys → (∀ c o, H0 c = some o → H c = some o) → codeAny (model X.prog X.w) A1 (.builtin "list.extend.loop" ⟨[.ref S, .ref z, .none], []⟩) Rs s
  | 0, i, qs, H, s, hi, hq, I, hS, lt, fp, st, pr, ex => by
    refine codeAny_builtin PySem.F.entry_extend_loop ?_
    rw [Around.under_plainId PySem.F.plain_extend_loop _]
    show wpAny _ A1.in1 (pyNext (.ref z) >>= _) _ _ s
    exact wpAny_bind (stop hh D I fp st (qx.ext ex) (qy.ext ex) (by omega) fun s' I' => wpAny_pure (done qs H s' I' hS (by omega) pr ex))
  | m + 1, i, qs, H, s, hi, hq, I, hS, lt, fp, st, pr, ex => by
    refine codeAny_builtin PySem.F.entry_extend_loop ?_
    rw [Around.under_plainId PySem.F.plain_extend_loop _]
    show wpAny _ A1.in1 (pyNext (.ref z) >>= _) _ _ s
    have hx : xs[i]? = some xs[i] := List.getElem?_eq_getElem (by omega)
    have hy : ys[i]? = some ys[i] := List.getElem?_eq_getElem (by omega)
    refine wpAny_bind (turn D I fp st lt (qx.ext ex) (qy.ext ex) hx hy fun T s' hT I' fp' st' lt' => ?_)
    show wpAny _ A1.in1 (updateSeq S (·.push (.ref T)) >>= _) _ _ _
    have ST : S ≠ T := ne_of_none hS hT
    have hS' : upd H T (.tup [xs[i], ys[i]]) S = some (.lst (qs.map V.ref)) := by rw [upd_ne ST]; exact hS
    obtain ⟨_, its, k, r2, hl2, e⟩ := I'.lstM hS'
    rw [List.length_map] at hl2
    have nS : ∀ c ∈ [z, TI, TO, i1, i2], c ≠ S := fun c hc q => by
      have := (fp' c hc).1
      rw [q, hS'] at this
      cases this
    refine wpAny_bind (wpAny_updateSeq e rfl (wpAny_pure ⟨plainId_quiet PySem.F.plain_extend_loop _, ?_⟩) (by rw [List.size_toArray]; omega) (by show (its.toArray.push (Value.ref T)).size ≤ sizeLine + 1; rw [Array.size_push, List.size_toArray]; omega))
    refine grow hh D hl hz h0 qx qy done m (i + 1) (qs ++ [T]) _ _ (by omega) (by rw [List.length_append, hq]; rfl) (I'.lset (its' := its ++ [.ref T]) (ys := (qs ++ [T]).map V.ref) (t' := s'.toks) hS' e (by simp) (by rw [List.map_append]; exact r2.append (.cons rfl .nil)) (by rw [List.length_map, List.length_append, List.length_singleton]; omega))
      upd_same (by show S < (s'.heap.update S _).objs.size; rw [Heap.size_after_update]; exact lt') (fun c hc => ?_) (st'.upd (nS _ (by simp)) (nS _ (by simp)) (nS _ (by simp)) (nS _ (by simp)) (nS _ (by simp))) (fun j q hj => ?_) fun c o hc => ?_
    · obtain ⟨e1, e2⟩ := fp' c hc
      exact ⟨by rw [upd_ne (nS c hc)]; exact e1, e2⟩
    · by_cases c : j < qs.length
      · rw [List.getElem?_append_left c] at hj
        obtain ⟨p1, p2, x, y, p3, p4, p5⟩ := pr j q hj
        refine ⟨p1, p2, x, y, p3, p4, ?_⟩
        rw [upd_ne p2, upd_ne (ne_of_none p5 hT)]
        exact p5
      · rw [List.getElem?_append_right (by omega)] at hj
        have hj1 : j - qs.length = 0 := by
          have := (List.getElem?_eq_some_iff.mp hj).1
          simp at this
          omega
        rw [hj1] at hj
        have hj2 : T = q := Option.some.inj hj
        subst hj2
        have hji : j = i := by omega
        subst hji
        refine ⟨?_, ST.symm, _, _, hx, hy, by rw [upd_ne ST.symm, upd_same]⟩
        cases e0 : H0 T with
        | none => rfl
        | some o =>
          rw [ex _ _ e0] at hT
          cases hT
    · have cS : c ≠ S := ne_of_none hc h0
      rw [upd_ne cS, upd_ne (ne_of_none (ex _ _ hc) hT)]
      exact ex _ _ hc
end
end Lz

set_option maxHeartbeats 4000000
/-! list(zip(a, b)): the rule -/
namespace Lz
open PySem PySem.Spec PyProof.Rows L2
section
variable {X : Cx} {pins : List (Addr × Obj)} {σ : L2.St} {H : Hp} {s : Shared}
theorem fresh_list {z TI TO i1 i2 a b : Addr} {xs ys : List V} {Q : VK} (hc : X.calm = true) (D : ZipApart z TI TO i1 i2 a b) (I : Inv X pins σ H s) (fp : ∀ c ∈ [z, TI, TO, i1, i2], FpOk X pins H c)
    (hz : IsZip s.heap z TI TO .none) (hTI : IsPair s.heap TI (.ref i1) (.ref i2)) (hTO : IsPair s.heap TO .none .none) (h1 : s.heap.IsTupleIter i1 a 0) (h2 : s.heap.IsTupleIter i2 b 0)
    (qx : SqT X.K H a xs) (qy : SqT X.K H b ys) (hl : xs.length = ys.length) (hlt : xs.length < sizeLine)
    (k : ∀ (S : Addr) (qs : List Addr) (H2 : Hp), H S = none → H2 S = some (.lst (qs.map V.ref)) → qs.length = xs.length → Prs H H2 S qs xs ys → (∀ c o, H c = some o → H2 c = some o) → Q (.ref S) H2) :
    wpAny (model X.prog X.w) X.A (call (.type "list") [.ref z]) (EP X pins σ Q) X.xe s := by
  refine callType_codes (Q₁ := fun obj s₁ => obj = .ref s.heap.objs.size ∧ s₁ = { s with heap := s.heap.push { cls := .type "list", data := .seq #[] } }) PySem.F.called_list (PySem.F.typeCall_list_1 _) PySem.F.entry_list_init (code_list_new _ ⟨rfl, rfl⟩) fun obj s₁ hob => ?_
  obtain ⟨rfl, rfl⟩ := hob
  have fr : H s.heap.objs.size = none := I.hok.fresh (Nat.le_refl _)
  have lS : ({ s with heap := s.heap.push { cls := .type "list", data := .seq #[] } } : Shared).heap.get? s.heap.objs.size = some { cls := .type "list", data := .seq #[] } := Heap.get?_push_size _ rfl
  refine ⟨⟨_, lS, rfl⟩, PySem.F.args_list_init_2 _ _, ?_⟩
  have J : Inv X pins σ (upd H s.heap.objs.size (.lst [])) { s with heap := s.heap.push { cls := .type "list", data := .seq #[] } } := I.lnew (its := []) (t' := s.toks) .nil (Nat.zero_le _)
  have zl := Heap.lt_size hz
  have tl := Heap.lt_size hTI
  have ol := Heap.lt_size hTO
  have il : i1 < s.heap.objs.size := by obtain ⟨_, e, _⟩ := h1; exact Heap.lt_size e
  have jl : i2 < s.heap.objs.size := by obtain ⟨_, e, _⟩ := h2; exact Heap.lt_size e
  have nS : ∀ c ∈ [z, TI, TO, i1, i2], c ≠ s.heap.objs.size := fun c hc => by
    have e' : c = z ∨ c = TI ∨ c = TO ∨ c = i1 ∨ c = i2 := by simpa using hc
    rcases e' with e | e | e | e | e <;> rw [e]
    · exact Nat.ne_of_lt zl
    · exact Nat.ne_of_lt tl
    · exact Nat.ne_of_lt ol
    · exact Nat.ne_of_lt il
    · exact Nat.ne_of_lt jl
  have up : ∀ {c : Addr} {u : Obj}, s.heap.get? c = some u → (s.heap.push { cls := .type "list", data := .seq #[] }).get? c = some u := fun e => Heap.get?_push_of_some _ e
  have st0 : ZS (s.heap.push { cls := .type "list", data := .seq #[] }) s.heap.objs.size z TI TO i1 i2 a b 0 :=
    ⟨by rw [Heap.size_push]; exact Nat.lt_succ_of_lt ol, up hTI, h1.at fun o e => up e, h2.at fun o e => up e, .inl ⟨up hz, _, _, up hTO⟩⟩
  generalize hSz : s.heap.objs.size = S at *
  have hh : X.A.in1.in1.handled = none := I.ok.hd hc
  show wpAny _ X.A.in1.in1 (do let old ← Builtin.List.listItems (.ref S); Builtin.List.listUpdate (.ref S) (fun _ => #[]); letGo old.toList.reverse; Builtin.List.listExtendWith (.ref S) (.ref z) .none) _ _ _
  have sz1 : S < (s.heap.push { cls := .type "list", data := .seq #[] }).objs.size := by
    rw [Heap.size_push, hSz]
    exact Nat.lt_succ_self S
  have zh := up hz
  generalize s.heap.push { cls := .type "list", data := .seq #[] } = hp at *
  refine wpAny_bind ?_
  unfold Builtin.List.listItems
  refine wpAny_bind (wpAny_seqItems lS rfl (wpAny_pure ?_))
  show wpAny _ _ (updateSeq S (fun _ => #[]) >>= fun _ => letGo (#[] : Array Value).toList.reverse >>= fun _ => Builtin.List.listExtendWith (.ref S) (.ref z) .none) _ _ _
  refine wpAny_bind (wpAny_updateSeq lS rfl ?_)
  have J1 := J.lset (f := fun _ => #[]) (its := []) (its' := []) (ys := []) (t' := s.toks) upd_same lS rfl .nil (Nat.zero_le _)
  rw [upd_upd] at J1
  have nz := nS z (by simp)
  have u1 := st0.upd (f := Obj.mapSeq (fun _ => (#[] : Array Value))) nz (nS _ (by simp)) (nS _ (by simp)) (nS _ (by simp)) (nS _ (by simp))
  have z1 : S < (hp.update S (Obj.mapSeq (fun _ => (#[] : Array Value)))).objs.size := by rw [Heap.size_after_update]; exact sz1
  have zz : IsZip (hp.update S (Obj.mapSeq (fun _ => (#[] : Array Value)))) z TI TO .none := (Heap.get?_update_other _ _ (Ne.symm nz)).trans zh
  generalize hp.update S (Obj.mapSeq (fun _ => (#[] : Array Value))) = hq at *
  refine wpAny_bind (wpAny_letGo ?_)
  unfold Builtin.List.listExtendWith
  have ty : ({ s with heap := hq } : Shared).TypeIs (.ref z) "zip" := ⟨_, zz, rfl⟩
  refine wpAny_bind (wpAny_typeOf ty ?_)
  have c1 : Builtin.List.listSameRef (.ref S) (.ref z) = false := by simp [Builtin.List.listSameRef, nz.symm]
  have c2 : (Value.type "zip" == Value.type "list") = false := by decide
  have c3 : (Value.type "zip" == Value.type "tuple") = false := by decide
  simp only [c1, c2, c3, Bool.or_false, Bool.false_eq_true, if_false]
  refine wpAny_bind (wpAny_pyIter_zip (s := { s with heap := hq }) zz ?_)
  refine wpAny_bind (wpAny_holding ?_)
  unfold Builtin.List.listLengthHint
  refine wpAny_bind (wpAny_specialOf ty zip_no_len ?_)
  show wpAny _ _ (specialOf (Value.ref z) (Str.ofString "__length_hint__") >>= _) _ _ _
  refine wpAny_bind (wpAny_specialOf ty zip_no_hint (wpAny_pure ?_))
  show wpAny _ _ (rule "list.extend.makes-room" >>= fun _ => Builtin.List.listTouch (.ref S) >>= fun _ => again (.builtin "list.extend.loop" ⟨[.ref S, .ref z, .none], []⟩)) _ _ _
  refine wpAny_bind (wpAny_rule (wpAny_bind ?_))
  show wpAny _ _ (updateSeq S (·.push .none) >>= fun _ => updateSeq S (·.pop)) _ _ _
  obtain ⟨_, its3, k3, r3, _, e3⟩ := J1.lstM upd_same
  cases r3
  refine wpAny_bind (wpAny_updateSeq e3 rfl ?_ (by show 0 ≤ sizeLine; exact Nat.zero_le _) (by show 1 ≤ sizeLine + 1; omega))
  have J2 := J1.lset (f := (·.push Value.none)) (its' := [Value.none]) (ys := [.non]) (t' := s.toks) upd_same e3 rfl (.cons rfl .nil) (by rw [List.length_singleton, sizeLine_eq]; decide)
  rw [upd_upd] at J2
  have u2 := u1.upd (f := Obj.mapSeq (·.push Value.none)) nz (nS _ (by simp)) (nS _ (by simp)) (nS _ (by simp)) (nS _ (by simp))
  have z2 : S < (hq.update S (Obj.mapSeq (·.push Value.none))).objs.size := by rw [Heap.size_after_update]; exact z1
  obtain ⟨_, its4, k4, r4, _, e4⟩ := J2.lstM upd_same
  obtain ⟨w4, rfl, _⟩ := r4.one
  refine wpAny_updateSeq e4 rfl ?_ (by show 1 ≤ sizeLine; rw [sizeLine_eq]; decide) (by show 0 ≤ sizeLine + 1; exact Nat.zero_le _)
  have J3 := J2.lset (f := (·.pop)) (its := [w4]) (its' := []) (ys := []) (t' := s.toks) upd_same e4 (by rfl) .nil (Nat.zero_le _)
  rw [upd_upd] at J3
  have u3 := u2.upd (f := Obj.mapSeq (·.pop)) nz (nS _ (by simp)) (nS _ (by simp)) (nS _ (by simp)) (nS _ (by simp))
  have z3 : S < ((hq.update S (Obj.mapSeq (·.push Value.none))).update S (Obj.mapSeq (·.pop))).objs.size := by rw [Heap.size_after_update]; exact z2
  refine wpAny_pure ⟨plainId_quiet PySem.F.plain_extend_loop _, ?_⟩
  exact grow (A1 := X.A.in1) hh D hl hlt fr qx qy (fun qs H' s' I' e1 e2 e3 e4 => ⟨rfl, .ref S, H', I', rfl, k S qs H' fr e1 e2 e3 e4⟩) xs.length 0 [] _ _ (by omega) rfl J3 upd_same z3
    (fun c hc => ⟨by rw [upd_ne (nS c hc)]; exact (fp c hc).1, (fp c hc).2⟩) u3 (fun j q hj => by simp at hj) fun c o e => by rw [upd_ne (ne_of_none e fr)]; exact e
def tLZ (K : PySem.W.Frag) (ta : TA) : TE := fun σ H Q => ta σ H fun vs H1 => ∃ (a b : Addr) (xs ys : List V), vs = [.ref a, .ref b] ∧ SqT K H1 a xs ∧ SqT K H1 b ys ∧ xs.length = ys.length ∧ xs.length < sizeLine ∧
  ∀ (S : Addr) (qs : List Addr) (H2 : Hp), H1 S = none → H2 S = some (.lst (qs.map V.ref)) → qs.length = xs.length → Prs H1 H2 S qs xs ys → (∀ c o, H1 c = some o → H2 c = some o) → Q (.ref S) H2
/-- list(zip(e, e2)) of two tuples of one length -/
theorem pe_listZip {e e2 : Expr} {ta : TA} {p p2 pos pos2 : Pos} (hc : X.calm = true) (hgl : Gl X "list") (hml : X.mg "list" = none) (hgz : Gl X "zip") (hmz : X.mg "zip" = none) (ha : PA X [e, e2] ta)
    (hs : starEach [e, e2] X.env = (false, eval e X.env) :: starEach [e2] X.env := by rfl) (hpl : (backTo pos2 (starEach [e2] X.env)).any (·.1) = false := by rfl)
    (he : starEach [.Call (.Name "zip" p2) [e, e2] [] pos2] X.env = (false, eval (.Call (.Name "zip" p2) [e, e2] [] pos2) X.env) :: starEach [] X.env := by rfl) :
    PE X (.Call (.Name "list" p) [.Call (.Name "zip" p2) [e, e2] [] pos2] [] pos) (tLZ X.K ta) := by
  refine ⟨fun pins s σ H Q I h => ?_⟩
  refine wpAny_Call_Name_kw (ld_blt I hgl hml PyProof.Rows.boot_list ?_)
  refine PyProof.Rows.callWith_type1 ?_ he rfl
  rw [he]
  show wpAny _ _ (spliced ((false, eval (.Call (.Name "zip" p2) [e, e2] [] pos2) X.env) :: backTo pos (starEach [] X.env))) _ _ s
  refine Calls.spliced_cons ?_
  refine Call_ (ld_blt I hgz hmz PyProof.Rows.boot_zip (PyProof.Rows.callWith_type1 (thn (ha.run pos2 pins s σ H _ I h) fun us s1 ⟨vs, H1, I1, r1, q1⟩ => ?_) hs hpl))
  obtain ⟨a, b, xs, ys, rfl, qx, qy, hl, hlt, k⟩ := q1
  obtain ⟨v1, v2, rfl, rr1, rr2⟩ := vals2 r1
  cases rr1
  cases rr2
  obtain ⟨its, rv, p1, _⟩ := I1.tuple qx
  obtain ⟨its2, rv2, p2, _⟩ := I1.tuple qy
  obtain ⟨o1, ho1, _⟩ := id p1
  obtain ⟨o2, ho2, _⟩ := id p2
  have fresh5 : ∀ c, c ∈ [s1.heap.objs.size + 4, s1.heap.objs.size + 2, s1.heap.objs.size + 3, s1.heap.objs.size, s1.heap.objs.size + 1] → FpOk X pins H1 c := fun c hcm => by
    have e' : c = s1.heap.objs.size + 4 ∨ c = s1.heap.objs.size + 2 ∨ c = s1.heap.objs.size + 3 ∨ c = s1.heap.objs.size ∨ c = s1.heap.objs.size + 1 := by simpa using hcm
    have hle : s1.heap.objs.size ≤ c := by
      rcases e' with q | q | q | q | q <;> rw [q]
      · exact Nat.le_add_right _ _
      · exact Nat.le_add_right _ _
      · exact Nat.le_add_right _ _
      · exact Nat.le_refl _
      · exact Nat.le_add_right _ _
    exact I1.fpOk hle (I1.hok.fresh hle)
  refine RZ.call_zipT (show s1.heap.IsTuple a its.toArray from p1) (show s1.heap.IsTuple b its2.toArray from p2) fun h' hz hTI hTO h1 h2 hsz hk => ?_
  refine Calls.spliced_nil ?_
  have I2 : Inv X pins σ H1 { s1 with heap := h' } := I1.kept (t' := s1.toks) hk
  exact fresh_list hc (PySem.W.ktu_apart s1.heap.objs.size a b (Heap.lt_size ho1) (Heap.lt_size ho2)) I2 fresh5 hz hTI hTO h1 h2 qx qy hl hlt k
end
end Lz

set_option maxHeartbeats 4000000
/-! values and layouts -/
namespace Dk
open PySem PySem.Spec PyProof.Rows L2
def top (i : Nat) : Stmt := PySem.Challenge.pw_driftkept_k04_reading_words.main.body.getD i (.Pass ⟨0, 0, 0, 0⟩)
abbrev sWhole : Stmt := top 8
abbrev sWithin : Stmt := top 9
abbrev sLInit : Stmt := inClass (top 16) 0
abbrev sEpoch : Stmt := inClass (top 16) 1
abbrev sESlot : Stmt := inClass (top 16) 2
abbrev sCSlot : Stmt := inClass (top 16) 3
abbrev sWord : Stmt := inClass (top 16) 4
abbrev sRecord : Stmt := inClass (top 16) 5
abbrev sCells : Stmt := inClass (top 16) 6
abbrev sIsCell : Stmt := inClass (top 16) 7
abbrev sIsLast : Stmt := inClass (top 16) 8
abbrev sHasT : Stmt := inClass (top 16) 10
/-- the type of a value that is no object -/
def vty : V → Option String
  | .non => some "NoneType"
  | .bl _ => some "bool"
  | .int _ => some "int"
  | .str _ => some "str"
  | _ => none
theorem ty_of {K : PySem.W.Frag} {H : Hp} : ∀ {v : V} {t : String}, vty v = some t → TyX K H v (.type t)
  | .non, _, h => by cases h; exact .base .non
  | .bl b, _, h => by cases h; exact .base (.bl b)
  | .int i, _, h => by cases h; exact .base (.int i)
  | .str x, _, h => by cases h; exact .base (.str x)
def isI : V → Bool
  | .int _ => true
  | _ => false
/-- an integer within lo .. hi -/
def inW (lo hi : Int) : V → Bool
  | .int i => decide (lo ≤ i) && decide (i ≤ hi)
  | _ => false
theorem inW_int {lo hi i : Int} : inW lo hi (.int i) = true ↔ lo ≤ i ∧ i ≤ hi := by
  show (decide (lo ≤ i) && decide (i ≤ hi)) = true ↔ _
  simp
/-- the built-in names as they are -/
structure Bn (mg : Str → Option Value) : Prop where
  isi : mg "isinstance" = none
  int : mg "int" = none
  bool : mg "bool" = none
  str : mg "str" = none
  tuple : mg "tuple" = none
  list : mg "list" = none
  range : mg "range" = none
  len : mg "len" = none
  abs : mg "abs" = none
def lf (t w r : Int) : List (Str × V) := [("threads", .int t), ("words", .int w), ("records", .int r)]
/-- a layout stands at a -/
def LayAt (C : Addr) (H : Hp) (a : Addr) (t w r : Int) : Prop := ∃ dx, H a = some (.ins C dx (lf t w r))
structure LTxt (K : PySem.W.Frag) (mg : Str → Option Value) (C : Addr) : Prop where
  bn : Bn mg
  cl : Cls K C
  nT : NoAttr K C "threads"
  nW : NoAttr K C "words"
  nR : NoAttr K C "records"
def spWhole : Sp := fun vs H Q _ => ∃ v t, vs = [v] ∧ vty v = some t ∧ Q (.bl (isI v)) H
def spWithin : Sp := fun vs H Q _ => ∃ v t lo hi, vs = [v, .int lo, .int hi] ∧ vty v = some t ∧ Q (.bl (inW lo hi v)) H
def spL0 (C : Addr) (g : Int → Int → Int → V) : Sp := fun vs H Q _ => ∃ a t w r, vs = [.ref a] ∧ LayAt C H a t w r ∧ Q (g t w r) H
def spL1 (C : Addr) (g : Int → Int → Int → Int → V) : Sp := fun vs H Q _ => ∃ a t w r i, vs = [.ref a, .int i] ∧ LayAt C H a t w r ∧ Q (g t w r i) H
def spLV (C : Addr) (g : Int → Int → Int → V → V) : Sp := fun vs H Q _ => ∃ a t w r v ty, vs = [.ref a, v] ∧ vty v = some ty ∧ LayAt C H a t w r ∧ Q (g t w r v) H
/-- the cells -/
def cells (t w r : Int) : Int := 1 + t + t + w + r
def first (t : Int) : Int := 1 + t
def rec0 (t w : Int) : Int := 1 + t + t + w
def geB (x : Int) : V → Bool
  | .int i => decide (x ≤ i)
  | _ => false
def lastB (t w r : Int) (v : V) : Bool := inW 0 (cells t w r - 1) v && geB (first t + 0) v
def recB (t w r : Int) (v : V) : Bool := inW 0 (cells t w r - 1) v && geB (rec0 t w + 0) v
section
variable {P : Program} {w : World} {K : PySem.W.Frag} {mg : Str → Option Value} {base : Heap} {C : Addr}
theorem scWhole : FnScope ["value"] ["value"] (defScope sWhole) := ⟨rfl, rfl, rfl, by decide +kernel, rfl, by decide +kernel, by decide +kernel⟩
theorem go_whole (F : GT K mg "is_whole" sWhole ["value"]) (T : Bn mg) : GO P w K mg base CX0 1 "is_whole" ["value"] spWhole := by
  obtain ⟨f, fd, F, hm, hb⟩ := F
  refine ⟨f, fd, ?_, hm, F.kp, hb⟩
  refine F.ok scWhole (fun vs H Q E h => ?_) (fun cdv A outer s H vs Q E hr h => ?_)
  · obtain ⟨v, t, rfl, _⟩ := h
    rfl
  · obtain ⟨v, t, rfl, ht, k⟩ := h
    refine ⟨_, pss_one (ps_ret (pe_and (pe_callB call_isi (by rfl) T.isi (by decide +kernel) (pa_cons (pv 0) (pa_cons (pe_bltn (v := .ty "int") (by rfl) T.int (by decide +kernel) rfl) pa_nil)))
      (pe_one (pe_not (pe_callB call_isi (by rfl) T.isi (by decide +kernel) (pa_cons (pv 0) (pa_cons (pe_bltn (v := .ty "bool") (by rfl) T.bool (by decide +kernel) rfl) pa_nil))))))), ?_⟩
    have ty := ty_of (K := K) (H := H) ht
    cases v <;> cases ht
    · exact ⟨_, rfl, _, _, _, _, false, rfl, .ty "int", ty, kit_ty (by decide +kernel), false, rfl, k⟩
    · refine ⟨_, rfl, _, _, _, _, true, rfl, .ty "int", ty, kit_ty (by decide +kernel), true, rfl, ?_⟩
      exact iteT ⟨_, rfl, _, _, _, _, true, rfl, .ty "bool", ty, kit_ty (by decide +kernel), true, rfl, k⟩
    · refine ⟨_, rfl, _, _, _, _, true, rfl, .ty "int", ty, kit_ty (by decide +kernel), true, rfl, ?_⟩
      exact iteT ⟨_, rfl, _, _, _, _, false, rfl, .ty "bool", ty, kit_ty (by decide +kernel), false, rfl, k⟩
    · exact ⟨_, rfl, _, _, _, _, false, rfl, .ty "int", ty, kit_ty (by decide +kernel), false, rfl, k⟩
theorem scWithin : FnScope ["value", "low", "high"] ["value", "low", "high"] (defScope sWithin) := ⟨rfl, rfl, rfl, by decide +kernel, rfl, by decide +kernel, by decide +kernel⟩
theorem go_within (F : GT K mg "is_within" sWithin ["value", "low", "high"]) (G : GO P w K mg base CX0 1 "is_whole" ["value"] spWhole) : GO P w K mg base CX0 2 "is_within" ["value", "low", "high"] spWithin := by
  obtain ⟨f, fd, F, hm, hb⟩ := F
  refine ⟨f, fd, ?_, hm, F.kp, hb⟩
  refine F.ok scWithin (fun vs H Q E h => ?_) (fun cdv A outer s H vs Q E hr h => ?_)
  · obtain ⟨v, t, lo, hi, rfl, _⟩ := h
    rfl
  · obtain ⟨v, t, lo, hi, rfl, ht, k⟩ := h
    refine ⟨_, pss_one (ps_ret (pe_and (pc_ G hr (pa_cons (pv 0) pa_nil)) (pe_one (pe_chain op_le op_le (pv 1) (pv 0) (pv 2))))), ?_⟩
    refine ⟨_, rfl, v, t, rfl, ht, _, rfl, ?_⟩
    cases v <;> cases ht
    · exact iteF k
    · exact iteF k
    · rename_i i
      refine iteT ⟨_, rfl, _, rfl, _, _, rfl, rfl, _, rfl, ?_⟩
      have e : inW lo hi (.int i) = (decide (lo ≤ i) && decide (i ≤ hi)) := rfl
      rw [e] at k
      cases h1 : decide (lo ≤ i) with
      | true =>
        rw [h1] at k
        exact iteT ⟨_, rfl, _, _, rfl, rfl, by simpa using k⟩
      | false =>
        rw [h1] at k
        exact iteF (by simpa using k)
    · exact iteF k
theorem scEpoch : FnScope ["self"] ["self"] (defScope sEpoch) := ⟨rfl, rfl, rfl, by decide +kernel, rfl, by decide +kernel, by decide +kernel⟩
theorem mo_epoch (F : MT K C "epoch" "Layout.epoch" sEpoch ["self"]) : MO P w K mg base CX0 C 1 "epoch" ["self"] (spL0 C fun _ _ _ => .int 0) := by
  obtain ⟨f, fd, F, hm, hb⟩ := F
  refine ⟨f, fd, ?_, hm, hb⟩
  refine F.ok scEpoch (fun vs H Q E h => ?_) (fun cdv A outer s H vs Q E hr h => ?_)
  · obtain ⟨a, t, w, r, rfl, _⟩ := h
    rfl
  · obtain ⟨a, t, w, r, rfl, _, k⟩ := h
    exact ⟨_, pss_one (ps_ret pe_int), k⟩
theorem scESlot : FnScope ["self", "thread"] ["self", "thread"] (defScope sESlot) := ⟨rfl, rfl, rfl, by decide +kernel, rfl, by decide +kernel, by decide +kernel⟩
theorem mo_eslot (F : MT K C "epoch_slot" "Layout.epoch_slot" sESlot ["self", "thread"]) : MO P w K mg base CX0 C 1 "epoch_slot" ["self", "thread"] (spL1 C fun _ _ _ i => .int (1 + i)) := by
  obtain ⟨f, fd, F, hm, hb⟩ := F
  refine ⟨f, fd, ?_, hm, hb⟩
  refine F.ok scESlot (fun vs H Q E h => ?_) (fun cdv A outer s H vs Q E hr h => ?_)
  · obtain ⟨a, t, w, r, i, rfl, _⟩ := h
    rfl
  · obtain ⟨a, t, w, r, i, rfl, _, k⟩ := h
    exact ⟨_, pss_one (ps_ret (pe_op op_add pe_int (pv 1))), _, rfl, _, _, rfl, rfl, k⟩
theorem scCSlot : FnScope ["self", "thread"] ["self", "thread"] (defScope sCSlot) := ⟨rfl, rfl, rfl, by decide +kernel, rfl, by decide +kernel, by decide +kernel⟩
theorem mo_cslot (F : MT K C "call_slot" "Layout.call_slot" sCSlot ["self", "thread"]) (T : LTxt K mg C) (G : MO P w K mg base CX0 C 1 "epoch_slot" ["self", "thread"] (spL1 C fun _ _ _ i => .int (1 + i))) :
    MO P w K mg base CX0 C 2 "call_slot" ["self", "thread"] (spL1 C fun t _ _ i => .int (first t + i)) := by
  obtain ⟨f, fd, F, hm, hb⟩ := F
  refine ⟨f, fd, ?_, hm, hb⟩
  refine F.ok scCSlot (fun vs H Q E h => ?_) (fun cdv A outer s H vs Q E hr h => ?_)
  · obtain ⟨a, t, w, r, i, rfl, _⟩ := h
    rfl
  · obtain ⟨a, t, w, r, i, rfl, L, k⟩ := h
    obtain ⟨dx, h1⟩ := id L
    refine ⟨_, pss_one (ps_ret (pe_op op_add (pm_ G T.cl hr (pv 0) (pa_cons (pe_fld (pv 0) rfl) pa_nil)) (pv 1))), ?_⟩
    exact ⟨_, rfl, a, dx, _, rfl, h1, rfl, _, rfl, a, C, dx, _, _, rfl, h1, T.cl, T.nT, rfl, a, t, w, r, t, rfl, L, _, rfl, _, _, rfl, rfl, k⟩
theorem scWord : FnScope ["self", "index"] ["self", "index"] (defScope sWord) := ⟨rfl, rfl, rfl, by decide +kernel, rfl, by decide +kernel, by decide +kernel⟩
theorem mo_word (F : MT K C "word" "Layout.word" sWord ["self", "index"]) (T : LTxt K mg C) (G : MO P w K mg base CX0 C 2 "call_slot" ["self", "thread"] (spL1 C fun t _ _ i => .int (first t + i))) :
    MO P w K mg base CX0 C 3 "word" ["self", "index"] (spL1 C fun t _ _ i => .int (first t + t + i)) := by
  obtain ⟨f, fd, F, hm, hb⟩ := F
  refine ⟨f, fd, ?_, hm, hb⟩
  refine F.ok scWord (fun vs H Q E h => ?_) (fun cdv A outer s H vs Q E hr h => ?_)
  · obtain ⟨a, t, w, r, i, rfl, _⟩ := h
    rfl
  · obtain ⟨a, t, w, r, i, rfl, L, k⟩ := h
    obtain ⟨dx, h1⟩ := id L
    refine ⟨_, pss_one (ps_ret (pe_op op_add (pm_ G T.cl hr (pv 0) (pa_cons (pe_fld (pv 0) rfl) pa_nil)) (pv 1))), ?_⟩
    exact ⟨_, rfl, a, dx, _, rfl, h1, rfl, _, rfl, a, C, dx, _, _, rfl, h1, T.cl, T.nT, rfl, a, t, w, r, t, rfl, L, _, rfl, _, _, rfl, rfl, k⟩
theorem scRecord : FnScope ["self", "index"] ["self", "index"] (defScope sRecord) := ⟨rfl, rfl, rfl, by decide +kernel, rfl, by decide +kernel, by decide +kernel⟩
theorem mo_record (F : MT K C "record" "Layout.record" sRecord ["self", "index"]) (T : LTxt K mg C) (G : MO P w K mg base CX0 C 3 "word" ["self", "index"] (spL1 C fun t _ _ i => .int (first t + t + i))) :
    MO P w K mg base CX0 C 4 "record" ["self", "index"] (spL1 C fun t w _ i => .int (rec0 t w + i)) := by
  obtain ⟨f, fd, F, hm, hb⟩ := F
  refine ⟨f, fd, ?_, hm, hb⟩
  refine F.ok scRecord (fun vs H Q E h => ?_) (fun cdv A outer s H vs Q E hr h => ?_)
  · obtain ⟨a, t, w, r, i, rfl, _⟩ := h
    rfl
  · obtain ⟨a, t, w, r, i, rfl, L, k⟩ := h
    obtain ⟨dx, h1⟩ := id L
    refine ⟨_, pss_one (ps_ret (pe_op op_add (pm_ G T.cl hr (pv 0) (pa_cons (pe_fld (pv 0) rfl) pa_nil)) (pv 1))), ?_⟩
    exact ⟨_, rfl, a, dx, _, rfl, h1, rfl, _, rfl, a, C, dx, _, _, rfl, h1, T.cl, T.nW, rfl, a, t, w, r, w, rfl, L, _, rfl, _, _, rfl, rfl, k⟩
theorem scCells : FnScope ["self"] ["self"] (defScope sCells) := ⟨rfl, rfl, rfl, by decide +kernel, rfl, by decide +kernel, by decide +kernel⟩
theorem mo_cells (F : MT K C "cells" "Layout.cells" sCells ["self"]) (T : LTxt K mg C) (G : MO P w K mg base CX0 C 4 "record" ["self", "index"] (spL1 C fun t w _ i => .int (rec0 t w + i))) :
    MO P w K mg base CX0 C 5 "cells" ["self"] (spL0 C fun t w r => .int (cells t w r)) := by
  obtain ⟨f, fd, F, hm, hb⟩ := F
  refine ⟨f, fd, ?_, hm, hb⟩
  refine F.ok scCells (fun vs H Q E h => ?_) (fun cdv A outer s H vs Q E hr h => ?_)
  · obtain ⟨a, t, w, r, rfl, _⟩ := h
    rfl
  · obtain ⟨a, t, w, r, rfl, L, k⟩ := h
    obtain ⟨dx, h1⟩ := id L
    refine ⟨_, pss_one (ps_ret (pm_ G T.cl hr (pv 0) (pa_cons (pe_fld (pv 0) rfl) pa_nil))), ?_⟩
    exact ⟨_, rfl, a, dx, _, rfl, h1, rfl, _, rfl, a, C, dx, _, _, rfl, h1, T.cl, T.nR, rfl, a, t, w, r, r, rfl, L, k⟩
theorem scIsCell : FnScope ["self", "cell"] ["self", "cell"] (defScope sIsCell) := ⟨rfl, rfl, rfl, by decide +kernel, rfl, by decide +kernel, by decide +kernel⟩
theorem mo_iscell (F : MT K C "is_cell" "Layout.is_cell" sIsCell ["self", "cell"]) (T : LTxt K mg C) (G : MO P w K mg base CX0 C 5 "cells" ["self"] (spL0 C fun t w r => .int (cells t w r)))
    (GW : GO P w K mg base CX0 2 "is_within" ["value", "low", "high"] spWithin) : MO P w K mg base CX0 C 6 "is_cell" ["self", "cell"] (spLV C fun t w r v => .bl (inW 0 (cells t w r - 1) v)) := by
  obtain ⟨f, fd, F, hm, hb⟩ := F
  refine ⟨f, fd, ?_, hm, hb⟩
  refine F.ok scIsCell (fun vs H Q E h => ?_) (fun cdv A outer s H vs Q E hr h => ?_)
  · obtain ⟨a, t, w, r, v, ty, rfl, _⟩ := h
    rfl
  · obtain ⟨a, t, w, r, v, ty, rfl, hv, L, k⟩ := h
    obtain ⟨dx, h1⟩ := id L
    refine ⟨_, pss_one (ps_ret (pc_ GW (hr.mono (by decide)) (pa_cons (pv 1) (pa_cons pe_int (pa_cons (pe_op op_sub (pm0_ G T.cl hr (pv 0)) pe_int) pa_nil))))), ?_⟩
    exact ⟨_, rfl, _, rfl, a, dx, _, rfl, h1, rfl, a, t, w, r, rfl, L, _, _, rfl, rfl, v, ty, _, _, rfl, hv, k⟩
theorem scIsLast : FnScope ["self", "cell"] ["self", "cell"] (defScope sIsLast) := ⟨rfl, rfl, rfl, by decide +kernel, rfl, by decide +kernel, by decide +kernel⟩
theorem mo_islast (F : MT K C "is_lasting" "Layout.is_lasting" sIsLast ["self", "cell"]) (T : LTxt K mg C) (G : MO P w K mg base CX0 C 6 "is_cell" ["self", "cell"] (spLV C fun t w r v => .bl (inW 0 (cells t w r - 1) v)))
    (GC : MO P w K mg base CX0 C 2 "call_slot" ["self", "thread"] (spL1 C fun t _ _ i => .int (first t + i))) : MO P w K mg base CX0 C 7 "is_lasting" ["self", "cell"] (spLV C fun t w r v => .bl (lastB t w r v)) := by
  obtain ⟨f, fd, F, hm, hb⟩ := F
  refine ⟨f, fd, ?_, hm, hb⟩
  refine F.ok scIsLast (fun vs H Q E h => ?_) (fun cdv A outer s H vs Q E hr h => ?_)
  · obtain ⟨a, t, w, r, v, ty, rfl, _⟩ := h
    rfl
  · obtain ⟨a, t, w, r, v, ty, rfl, hv, L, k⟩ := h
    obtain ⟨dx, h1⟩ := id L
    refine ⟨_, pss_one (ps_ret (pe_and (pm_ G T.cl hr (pv 0) (pa_cons (pv 1) pa_nil)) (pe_one (pe_cmpR op_ge (pv 1) (pm_ GC T.cl (hr.mono (by decide)) (pv 0) (pa_cons pe_int pa_nil)) (nomark _))))), ?_⟩
    refine ⟨_, rfl, a, dx, _, rfl, h1, rfl, _, rfl, a, t, w, r, v, ty, rfl, hv, L, _, rfl, ?_⟩
    simp only [lastB] at k
    cases v <;> cases hv
    · exact iteF k
    · exact iteF k
    · rename_i i
      cases h2 : inW 0 (cells t w r - 1) (.int i) with
      | true =>
        rw [h2] at k
        exact iteT ⟨_, rfl, _, rfl, a, dx, _, rfl, h1, rfl, a, t, w, r, _, rfl, L, _, _, rfl, rfl, (by rw [Bool.true_and] at k; exact k)⟩
      | false =>
        rw [h2] at k
        exact iteF (by rw [Bool.false_and] at k; exact k)
    · exact iteF k
end
end Dk

set_option maxHeartbeats 4000000
/-! the refusals; a layout is made -/
namespace Dk
open PySem PySem.Spec PyProof.Rows L2
abbrev sPass : Stmt := top 18
abbrev bmVE : List Value := [.type "ValueError", .type "Exception", .type "BaseException", .type "object"]
/-- what the top has written of the refusals: NotValid at NV, LineError at LE -/
structure XTxt (K : PySem.W.Frag) (mg : Str → Option Value) (NV LE : Addr) : Prop where
  gN : mg "NotValid" = some (.ref NV)
  gL : mg "LineError" = some (.ref LE)
  xN : PySem.W.excIn K NV bmVE "ValueError.__new__" = true
  kN : PySem.W.keepIn K (.ref NV) = true
  sN : PySem.W.subIn K (.ref NV) (.type "BaseException") = some true
  tN : PySem.W.typeIn K (.ref NV) = some (.type "type")
  eN : PySem.W.exmOne K (.ref NV) (.ref LE) = some true
  eC : ExcC K NV
  kit : PySem.W.kitOne K (.ref NV) (.ref NV) = some true
def lok (t w r : Int) : Bool := inW 1 3 (.int t) && (inW 1 4 (.int w) && inW 4 200 (.int r))
structure LOk (t w r : Int) : Prop where
  t1 : 1 ≤ t
  t3 : t ≤ 3
  w1 : 1 ≤ w
  w4 : w ≤ 4
  r4 : 4 ≤ r
  r200 : r ≤ 200
theorem lok_iff {t w r : Int} : lok t w r = true ↔ LOk t w r := by
  unfold lok
  rw [Bool.and_eq_true, Bool.and_eq_true, inW_int, inW_int, inW_int]
  exact ⟨fun ⟨⟨a, b⟩, ⟨c, d⟩, e, f⟩ => ⟨a, b, c, d, e, f⟩, fun ⟨a, b, c, d, e, f⟩ => ⟨⟨a, b⟩, ⟨c, d⟩, e, f⟩⟩
def spLInit (C NV : Addr) : Sp := fun vs H Q E => ∃ p dx t w r, vs = [.ref p, .int t, .int w, .int r] ∧ H p = some (.ins C dx []) ∧
  (lok t w r = true → ∀ H', LayAt C H' p t w r → (∀ b o, H b = some o → b ≠ p → H' b = some o) → Q .non H') ∧ (lok t w r = false → E (.ref NV) none H)
def spTold (C : Addr) : Sp := fun vs H Q _ => ∃ t w r, vs = [.int t, .int w, .int r] ∧
  (lok t w r = true → ∀ p H', H p = none → LayAt C H' p t w r → Same H H' → Q (.ref p) H') ∧ (lok t w r = false → ∀ p H', H' p = some (.lst [.bl true]) → Same H H' → Q (.ref p) H')
def rIsE' (K : PySem.W.Frag) (D a : Addr) (cls : Value) (d : Option Addr) : List V → Hp → VK → Prop := fun xs H Q => cls = .ref D ∧ d = none ∧ rIsE K D a xs H Q
theorem call_isE' {X : Cx} {a D : Addr} {oe : Obj} {cls : Value} {d : Option Addr} {pn : List (Addr × Obj)} (C : ExcC X.K D) (hz : Zc cls d oe) (hf : ∃ vs, oe.data = .fields vs) :
    CallR (X.suite a ((a, oe) :: pn)) (.builtin "isinstance") (rIsE' X.K D a cls d) := by
  intro pins s σ H xs us Q I r h
  obtain ⟨rfl, rfl, h⟩ := h
  exact call_isE C hz hf pins s σ H xs us Q I r h
section
variable {P : Program} {w : World} {K : PySem.W.Frag} {mg : Str → Option Value} {base : Heap} {C NV LE : Addr}
theorem scLInit : FnScope ["self", "threads", "words", "records"] ["self", "threads", "words", "records"] (defScope sLInit) := ⟨rfl, rfl, rfl, by decide +kernel, rfl, by decide +kernel, by decide +kernel⟩
theorem ok_linit {f : Addr} {fd : FuncData} (F : Fun K "__init__" "Layout.__init__" sLInit f fd) (T : LTxt K mg C) (X0 : XTxt K mg NV LE) (G : GO P w K mg base CX0 2 "is_within" ["value", "low", "high"] spWithin) :
    FnOk P w K mg base (L2.CX P w) 3 f fd ["self", "threads", "words", "records"] (spLInit C NV) := by
  refine F.okX scLInit (fun vs H Q E h => ?_) (fun cdv A outer s H vs Q E hr h => ?_)
  · obtain ⟨p, dx, t, w, r, rfl, _⟩ := h
    rfl
  · obtain ⟨p, dx, t, w, r, rfl, hp, k1, k2⟩ := h
    refine ⟨_, pss_cons (ps_if (pt_not (PW.pt (pw_and (pt_val (pc_ G hr (pa_cons (pv 1) (pa_cons pe_int (pa_cons pe_int pa_nil))))) (pw_and (pt_val (pc_ G hr (pa_cons (pv 2) (pa_cons pe_int (pa_cons pe_int pa_nil)))))
        (pw_and1 (pt_val (pc_ G hr (pa_cons (pv 3) (pa_cons pe_int (pa_cons pe_int pa_nil))))))))))
        (pss_one (ps_raise rfl (takes_of rfl rfl rfl rfl) (pmk_own0 PySem.F.excBase_ValueError X0.xN X0.gN X0.kN (raises_own X0.sN X0.tN) rfl))) pss_nil)
      (pss_cons (ps_fld (pv 0) (pv 1) rfl) (pss_cons (ps_fld (pv 0) (pv 2) rfl) (pss_one (ps_fld (pv 0) (pv 3) rfl)))), ?_⟩
    have fin : lok t w r = true → tSeq (sFld K (tVar 0) (tVar 1) "threads") (tSeq (sFld K (tVar 0) (tVar 2) "words") (sFld K (tVar 0) (tVar 3) "records")) { nx := fun _ H' => Q .non H', rt := Q } (L2.start ["self", "threads", "words", "records"] [.ref p, .int t, .int w, .int r]) H := fun q => by
      refine ⟨_, rfl, _, rfl, p, C, dx, [], rfl, hp, T.cl, T.nT, (by show 0 < 1000; decide), _, rfl, _, rfl, p, C, dx, _, rfl, upd_same, T.cl, T.nW, (by show 1 < 1000; decide), _, rfl, _, rfl, p, C, dx, _, rfl, upd_same, T.cl, T.nR, (by show 2 < 1000; decide), ?_⟩
      exact k1 q _ ⟨dx, upd_same⟩ fun b o e hb => by rw [upd_ne hb, upd_ne hb, upd_ne hb]; exact e
    refine ⟨_, rfl, _, _, _, _, rfl, rfl, _, rfl, ?_⟩
    cases h1 : inW 1 3 (V.int t) with
    | false => exact iteF (iteT (k2 (by unfold lok; rw [h1]; rfl)))
    | true =>
      refine iteT ⟨_, rfl, _, _, _, _, rfl, rfl, _, rfl, ?_⟩
      cases h2 : inW 1 4 (V.int w) with
      | false => exact iteF (iteT (k2 (by unfold lok; rw [h1, h2]; rfl)))
      | true =>
        refine iteT ⟨_, rfl, _, _, _, _, rfl, rfl, _, rfl, ?_⟩
        cases h3 : inW 4 200 (V.int r) with
        | false => exact (iteT (k2 (by unfold lok; rw [h1, h2, h3]; rfl)))
        | true => exact (iteF (fin (by unfold lok; rw [h1, h2, h3]; rfl)))
/-- passing_values -/
def spPass (C : Addr) : Sp := fun vs H Q _ => ∃ a t w r, vs = [.ref a] ∧ LayAt C H a t w r ∧ LOk t w r ∧ ∀ p H', H p = none → H' p = some (.lst (.int 0 :: List.replicate t.toNat .non)) → Same H H' → Q (.ref p) H'
theorem flat1 : ∀ n : Nat, (List.replicate n [V.non]).flatten = List.replicate n V.non
  | 0 => rfl
  | n + 1 => by
    rw [List.replicate_succ, List.flatten_cons, flat1 n]
    rfl
theorem scPass : FnScope ["layout"] ["layout"] (defScope sPass) := ⟨rfl, rfl, rfl, by decide +kernel, rfl, by decide +kernel, by decide +kernel⟩
theorem go_pass (F : GT K mg "passing_values" sPass ["layout"]) (T : LTxt K mg C) : GO P w K mg base CX0 1 "passing_values" ["layout"] (spPass C) := by
  obtain ⟨f, fd, F, hm, hb⟩ := F
  refine ⟨f, fd, ?_, hm, F.kp, hb⟩
  refine F.ok scPass (fun vs H Q E h => ?_) (fun cdv A outer s H vs Q E hr h => ?_)
  · obtain ⟨a, t, w, r, rfl, _⟩ := h
    rfl
  · obtain ⟨a, t, w, r, rfl, ⟨dx, h1⟩, ok, k⟩ := h
    have q1 := ok.t1
    have q3 := ok.t3
    refine ⟨_, pss_one (ps_ret (pe_op op_cat (pe_lst (pa_cons pe_int pa_nil)) (pe_op op_rep (pe_lst (pa_cons pe_non pa_nil)) (pe_fld (pv 0) rfl)))), ?_⟩
    refine ⟨(by show 1 ≤ sizeLine; decide), fun p1 n1 => ⟨(by show 1 ≤ sizeLine; decide), fun p2 n2 => ?_⟩⟩
    have a1 : a ≠ p1 := ne_of_none h1 n1
    have e1 : upd H p1 (HO.lst [V.int 0]) a = some (.ins C dx (lf t w r)) := by rw [upd_ne a1]; exact h1
    have a2 : a ≠ p2 := ne_of_none e1 n2
    have p12 : p1 ≠ p2 := ne_of_none (upd_same (H := H) (a := p1) (o := HO.lst [V.int 0])) n2
    have hs : [V.non].length * t.toNat ≤ sizeLine := by
      have : sizeLine = 16777216 := sizeLine_eq
      simp only [List.length_singleton]
      omega
    refine ⟨_, rfl, a, C, dx, _, _, rfl, (by rw [upd_ne a2]; exact e1), T.cl, T.nT, rfl, _, _, _, rfl, rfl, upd_same, (by omega), (by omega), hs, fun p3 n3 => ?_⟩
    have p13 : p1 ≠ p3 := ne_of_none (by rw [upd_ne p12]; exact upd_same) n3
    refine ⟨p1, p3, _, _, rfl, rfl, (by rw [upd_ne p13, upd_ne p12]; exact upd_same), upd_same, ?_, fun p4 n4 => ?_⟩
    · rw [flat1, List.length_replicate]
      have : sizeLine = 16777216 := sizeLine_eq
      simp only [List.length_singleton]
      omega
    · have sm : Same H (upd (upd (upd H p1 (HO.lst [V.int 0])) p2 (HO.lst [V.non])) p3 (HO.lst (List.replicate t.toNat [V.non]).flatten)) := fun b o e => by
        have b1 := ne_of_none e n1
        have e' : upd H p1 (HO.lst [V.int 0]) b = some o := by rw [upd_ne b1]; exact e
        have b2 := ne_of_none e' n2
        have e'' : upd (upd H p1 (HO.lst [V.int 0])) p2 (HO.lst [V.non]) b = some o := by rw [upd_ne b2]; exact e'
        rw [upd_ne (ne_of_none e'' n3)]
        exact e''
      refine k p4 _ (sm.free n4) (by rw [upd_same, flat1]; rfl) fun b o e => ?_
      rw [upd_ne (ne_of_none (sm b o e) n4)]
      exact sm b o e
end
end Dk

set_option maxHeartbeats 4000000
/-! dicts over cells; the rule of a name = {k: v for ..} -/
namespace Dk
open PySem PySem.Spec PyProof.Rows L2
section
variable {X : Cx}
theorem ps_setDc {i : Nat} {y : Str} {py : Pos} {kx vx tg iter : Expr} {ifs : List Expr} {scope : Scope} {own : List (Str × Nat)} {pos spos : Pos} {wi : TI} {g : TG} {tt : TT} {tk tv : TE} (hc : X.calm = true) (hN : X.N.Nodup) (hy : X.N[i]? = some y) (hyl : X.env.scope.names.lookup y = some .local)
    (hsw : swapsWith (.DictComp kx vx [⟨tg, iter, ifs, 0⟩] scope pos) (some (.Name y py)) spos.line X.env = pure true) (hi : PI X tg iter wi) (ok : BlkOk X.N X.env.scope scope own)
    (hg : ∀ (s : Shared) (H : Hp) (C : Addr) (cl : List (Str × Addr)) (fp : List Addr), PG (X.blk s H scope (compEnvC scope cl C X.env) fp) tg g) (ht : ∀ (s : Shared) (H : Hp) (C : Addr) (cl : List (Str × Addr)) (fp : List Addr), PTs (X.blk s H scope (compEnvC scope cl C X.env) fp) ifs tt)
    (hk : ∀ (s : Shared) (H : Hp) (C : Addr) (cl : List (Str × Addr)) (fp : List Addr), PE (X.blk s H scope (compEnvC scope cl C X.env) fp) kx tk)
    (he : ∀ (s : Shared) (H : Hp) (C : Addr) (cl : List (Str × Addr)) (fp : List Addr), PE (X.blk s H scope (compEnvC scope cl C X.env) fp) vx tv) (hs : ∀ x, foldedSetIterable iter X.env x = pure x := by intro _; rfl) :
    PS X (.Assign [.Name y py] (.DictComp kx vx [⟨tg, iter, ifs, 0⟩] scope pos) spos) (tAsg (tDc wi g tt tk tv (own.map (·.2))) (gName i)) := by
  refine ⟨fun pins s σ H D I h => ?_⟩
  rw [exec_Assign_Name_used _ _ _ _ hsw]
  refine wpAny_bind (wpAny_standAt (wpAny_bind ?_))
  show wpAny _ X.A (do let _ ← comprehension (.DictComp kx vx [⟨tg, iter, ifs, 0⟩] scope pos) scope X.env (firstIterPos [⟨tg, iter, ifs, 0⟩] pos) newDict false (eval iter X.env) (some (assign (.Name y py) X.env))) _ _ s
  have h : tDc wi g tt tk tv (own.map (·.2)) σ H (fun x H1 => gName i x σ H1 D.nx) := h
  refine wpAny_bind (thn (dc_core (Qf := fun _ s' => SP X pins D .next s') hc hN I hi ok hg ht hk he hs h fun L C s' m H' I' q hn f => ?_) fun _ s' hq => wpAny_pure (wpAny_pure hq))
  show wpAny _ _ (assign (.Name y py) X.env (.ref L)) _ _ _
  refine wpAny_assign_Name (store_ok2 (v := V.ref L) I' hN hy (.inl hyl) rfl (fun s2 I2 ⟨a, sb, ha⟩ => ?_) (.inr hyl))
  obtain ⟨f0, f1, f2, f3, f4, f5⟩ := f
  have haC : C ≠ a := by
    rcases ha with z | z
    · rw [z]; exact f1
    · exact fun e => f4 y a z e.symm
  refine ⟨m, hn.sameBut sb haC, fun h3 sb3 => ?_⟩
  exact ⟨_, H', I2.turned (t' := s2.toks) (fun b o hb e => (sb3.2 b hb).trans e) f0 f1 f3 f4 f5, q⟩
theorem sw_trueD {kx vx : Expr} {gs : List Comprehension} {scope : Scope} {pos py : Pos} {y : Str} {l : Nat} {env : Env} (hk : env.scope.kind = .function) (hy : env.scope.names.lookup y = some .local) (hl : (py.line == pos.line) = true)
    (ha : (scope.names.any fun (n, k) => n == y && (k == .local || k == .cell)) = false) : swapsWith (.DictComp kx vx gs scope pos) (some (.Name y py)) l env = pure true := by
  have ky : env.kindOf y = some .local := hy
  have hb : env.blockKind = .function := by unfold Env.blockKind; rw [hk]; rfl
  unfold swapsWith
  simp only [hb, ky, ha, Expr.pos, hl]
  rfl
end
/-! ### a dict whose keys are f, f + 1, .. -/
def kv (f : Int) (n : Nat) (g : Nat → V) : List (Key × V) := (List.range n).map fun (j : Nat) => ((Sum.inl (f + (j : Int)) : Key), g j)
def setf (g : Nat → V) (j : Nat) (v : V) : Nat → V := fun i => if i = j then v else g i
theorem kv_len (f : Int) (n : Nat) (g : Nat → V) : (kv f n g).length = n := by unfold kv; rw [List.length_map, List.length_range]
theorem kv_congr {f : Int} {n : Nat} {g h : Nat → V} (e : ∀ j, j < n → g j = h j) : kv f n g = kv f n h := by
  unfold kv
  exact List.map_congr_left fun (j : Nat) hj => by rw [e j (List.mem_range.mp hj)]
theorem kv_succ (f : Int) (n : Nat) (g : Nat → V) : kv f (n + 1) g = kv f n g ++ [((Sum.inl (f + (n : Int)) : Key), g n)] := by
  unfold kv
  rw [List.range_succ, List.map_append]
  rfl
theorem kv_no (f : Int) (g : Nat → V) (i : Int) : ∀ n : Nat, (∀ j : Nat, j < n → f + (j : Int) ≠ i) → valV (kv f n g) (Sum.inl i : Key) = none
  | 0, _ => rfl
  | n + 1, h => by
    have ih := kv_no f g i n fun j hj => h j (by omega)
    rw [kv_succ, valV_snoc _ _ _ _ (kv_no f g (f + (n : Int)) n fun j hj e => by omega), if_neg (fun e => h n (by omega) (Sum.inl.inj e).symm)]
    exact ih
theorem kv_val (f : Int) (g : Nat → V) (j : Nat) : ∀ n : Nat, j < n → valV (kv f n g) (Sum.inl (f + (j : Int)) : Key) = some (g j)
  | 0, h => by omega
  | n + 1, h => by
    rw [kv_succ, valV_snoc _ _ _ _ (kv_no f g (f + (n : Int)) n fun j hj e => by omega)]
    by_cases e : j = n
    · subst e
      rw [if_pos rfl]
    · rw [if_neg (fun q => e (by have := Sum.inl.inj q; omega))]
      exact kv_val f g j n (by omega)
theorem kv_new (f : Int) (n : Nat) (g : Nat → V) (v : V) : putK (kv f n g) (Sum.inl (f + (n : Int)) : Key) v = kv f (n + 1) (setf g n v) := by
  rw [putK_new v (kv_no f g (f + (n : Int)) n fun j hj e => by omega), kv_succ]
  rw [kv_congr (h := setf g n v) (n := n) (fun j hj => by unfold setf; rw [if_neg (by omega)])]
  unfold setf
  rw [if_pos rfl]
theorem kv_put (f : Int) (n : Nat) (g : Nat → V) (j : Nat) (v : V) (hj : j < n) : putK (kv f n g) (Sum.inl (f + (j : Int)) : Key) v = kv f n (setf g j v) := by
  unfold putK
  rw [valV_any, kv_val f g j n hj, if_pos (by rfl)]
  unfold kv
  rw [List.map_map]
  refine List.map_congr_left fun i hi => ?_
  show (if (Sum.inl (f + (i : Int)) : Key) = Sum.inl (f + (j : Int)) then _ else _) = _
  by_cases e : i = j
  · subst e
    rw [if_pos rfl]
    unfold setf
    rw [if_pos rfl]
  · rw [if_neg (fun q => e (by have := Sum.inl.inj q; omega))]
    unfold setf
    rw [if_neg e]
theorem kv_at {f : Int} {n : Nat} {g : Nat → V} {i : Nat} {k : Key} {v : V} (h : (kv f n g)[i]? = some (k, v)) : i < n ∧ k = Sum.inl (f + (i : Int)) ∧ v = g i := by
  unfold kv at h
  rw [List.getElem?_map] at h
  cases e : (List.range n)[i]? with
  | none => rw [e] at h; cases h
  | some j =>
    rw [e] at h
    have hi : i < n := by
      have := (List.getElem?_eq_some_iff.mp e).1
      rwa [List.length_range] at this
    rw [List.getElem?_range hi] at e
    have ej : i = j := Option.some.inj e
    subst ej
    have := Option.some.inj h
    exact ⟨hi, (congrArg Prod.fst this).symm, (congrArg Prod.snd this).symm⟩
end Dk

set_option maxHeartbeats 4000000
/-! the trails and the notes of a new memory -/
namespace Dk
open PySem PySem.Spec PyProof.Rows L2
abbrev sTrails : Stmt := top 19
abbrev sNotes : Stmt := top 20
/-- the value of the j-th lasting cell, behind k words; the empty record is at E0 -/
def Init (E0 : Addr) (t w r : Nat) (k j : Nat) (v : V) : Prop :=
  if t ≤ j ∧ j < t + k then v = .int ((1 + t + j + w : Nat) : Int)
  else if t + w ≤ j ∧ j < t + w + k then v = .ref E0
  else v = .non
def seta (tl : Nat → Addr) (i : Nat) (p : Addr) : Nat → Addr := fun j => if j = i then p else tl j
theorem seta_same {tl : Nat → Addr} {i : Nat} {p : Addr} : seta tl i p i = p := if_pos rfl
theorem seta_ne {tl : Nat → Addr} {i j : Nat} {p : Addr} (h : j ≠ i) : seta tl i p j = tl j := if_neg h
theorem setf_same {g : Nat → V} {i : Nat} {v : V} : setf g i v i = v := if_pos rfl
theorem setf_ne {g : Nat → V} {i j : Nat} {v : V} (h : j ≠ i) : setf g i v j = g j := if_neg h
def sett (tr : Nat → List V) (i : Nat) (l : List V) : Nat → List V := fun j => if j = i then l else tr j
theorem sett_same {tr : Nat → List V} {i : Nat} {l : List V} : sett tr i l i = l := if_pos rfl
theorem sett_ne {tr : Nat → List V} {i j : Nat} {l : List V} (h : j ≠ i) : sett tr i l j = tr j := if_neg h
theorem setf_ref (tl : Nat → Addr) (i : Nat) (p : Addr) : setf (fun j => .ref (tl j)) i (.ref p) = fun j => .ref (seta tl i p j) := by
  funext j
  unfold setf seta
  by_cases c : j = i
  · rw [if_pos c, if_pos c]
  · rw [if_neg c, if_neg c]
/-- the dict of the trails at D: the key f + j has the list at tl j, which holds tr j -/
structure TrG (H : Hp) (D : Addr) (f : Int) (n : Nat) (tl : Nat → Addr) (tr : Nat → List V) : Prop where
  d : H D = some (.dK (kv f n fun j => .ref (tl j)))
  l : ∀ j, j < n → H (tl j) = some (.lst (tr j))
  inj : ∀ i j, i < n → j < n → tl i = tl j → i = j
theorem TrG.same {H H' : Hp} {D : Addr} {f : Int} {n : Nat} {tl : Nat → Addr} {tr : Nat → List V} (R : TrG H D f n tl tr) (s : Same H H') : TrG H' D f n tl tr := ⟨s _ _ R.d, fun j hj => s _ _ (R.l j hj), R.inj⟩
/-- a new list p is put in the place of the i-th -/
theorem TrG.put {H H1 : Hp} {D p : Addr} {f : Int} {n i : Nat} {tl : Nat → Addr} {tr : Nat → List V} {l : List V} (R : TrG H D f n tl tr) (s : Same H H1) (hp : H p = none) (h1 : H1 p = some (.lst l)) (hi : i < n) :
    TrG (upd H1 D (.dK (putK (kv f n fun j => .ref (tl j)) (Sum.inl (f + (i : Int)) : Key) (.ref p)))) D f n (seta tl i p) (sett tr i l) := by
  have nD : p ≠ D := (ne_of_none R.d hp).symm
  refine ⟨?_, fun j hj => ?_, fun j l hj hl e => ?_⟩
  · rw [upd_same, kv_put _ _ _ _ _ hi, setf_ref]
  · by_cases c : j = i
    · rw [c, seta_same, sett_same, upd_ne nD]
      exact h1
    · rw [seta_ne c, sett_ne c]
      have e1 := s _ _ (R.l j hj)
      rw [upd_ne (ne_of (s _ _ (R.l j hj)) (s _ _ R.d) (by intro z; cases z))]
      exact e1
  · have np : ∀ j, j < n → tl j ≠ p := fun j hj => ne_of_none (R.l j hj) hp
    by_cases c : j = i
    · by_cases c2 : l = i
      · omega
      · rw [c, seta_same, seta_ne c2] at e
        exact absurd e.symm (np l hl)
    · by_cases c2 : l = i
      · rw [seta_ne c, c2, seta_same] at e
        exact absurd e (np j hj)
      · rw [seta_ne c, seta_ne c2] at e
        exact R.inj j l hj hl e
/-- a new list p comes for the key behind the last -/
theorem TrG.snoc {H H1 : Hp} {D p : Addr} {f : Int} {n : Nat} {tl : Nat → Addr} {tr : Nat → List V} {l : List V} (R : TrG H D f n tl tr) (s : Same H H1) (hp : H p = none) (h1 : H1 p = some (.lst l)) :
    TrG (upd H1 D (.dK (putK (kv f n fun j => .ref (tl j)) (Sum.inl (f + (n : Int)) : Key) (.ref p)))) D f (n + 1) (seta tl n p) (sett tr n l) := by
  have nD : p ≠ D := (ne_of_none R.d hp).symm
  refine ⟨?_, fun j hj => ?_, fun j l hj hl e => ?_⟩
  · rw [upd_same, kv_new, setf_ref]
  · by_cases c : j = n
    · rw [c, seta_same, sett_same, upd_ne nD]
      exact h1
    · rw [seta_ne c, sett_ne c]
      have e1 := s _ _ (R.l j (by omega))
      rw [upd_ne (ne_of e1 (s _ _ R.d) (by intro z; cases z))]
      exact e1
  · have np : ∀ j, j < n → tl j ≠ p := fun j hj => ne_of_none (R.l j hj) hp
    by_cases c : j = n
    · by_cases c2 : l = n
      · omega
      · rw [c, seta_same, seta_ne c2] at e
        exact absurd e.symm (np l (by omega))
    · by_cases c2 : l = n
      · rw [seta_ne c, c2, seta_same] at e
        exact absurd e (np j (by omega))
      · rw [seta_ne c, seta_ne c2] at e
        exact R.inj j l (by omega) (by omega) e
/-- the trails of a new memory behind k words -/
structure TrAt (E0 : Addr) (H : Hp) (D : Addr) (t w r : Nat) (tl : Nat → Addr) (tr : Nat → List V) (k : Nat) (H0 : Hp) : Prop where
  g : TrG H D ((1 + t : Nat) : Int) (t + w + r) tl tr
  ini : ∀ j, j < t + w + r → ∃ v, tr j = [v] ∧ Init E0 t w r k j v
  new : ∀ j, j < t + w + r → H0 (tl j) = none
  nD : H0 D = none
structure NOk (t w r : Nat) : Prop where
  t1 : 1 ≤ t
  t3 : t ≤ 3
  w1 : 1 ≤ w
  w4 : w ≤ 4
  r4 : 4 ≤ r
  r200 : r ≤ 200
theorem NOk.lok {t w r : Nat} (h : NOk t w r) : LOk (t : Int) w r := ⟨by have := h.t1; omega, by have := h.t3; omega, by have := h.w1; omega, by have := h.w4; omega, by have := h.r4; omega, by have := h.r200; omega⟩
theorem first_n (t : Nat) : first (t : Int) + 0 = ((1 + t : Nat) : Int) := by unfold first; omega
theorem cells_n (t w r : Nat) : cells (t : Int) w r = ((1 + t + (t + w + r) : Nat) : Int) := by unfold cells; omega
def spTrails (C E0 : Addr) : Sp := fun vs H Q _ => ∃ (a : Addr) (t w r : Nat), vs = [.ref a] ∧ LayAt C H a t w r ∧ NOk t w r ∧
  ∀ (D : Addr) (tl : Nat → Addr) (tr : Nat → List V) (H' : Hp), TrAt E0 H' D t w r tl tr w H → Same H H' → Q (.ref D) H'
def spNotes (C : Addr) : Sp := fun vs H Q _ => ∃ (a : Addr) (t w r : Nat), vs = [.ref a] ∧ LayAt C H a t w r ∧ NOk t w r ∧
  ∀ (D : Addr) (na : List Addr) (H' : Hp), H' D = some (.lst (na.map V.ref)) → na.length = t → na.Nodup → (∀ a, a ∈ na → H' a = some (.dK []) ∧ H a = none) → H D = none → Same H H' → Q (.ref D) H'
section
variable {P : Program} {w : World} {K : PySem.W.Frag} {mg : Str → Option Value} {base : Heap} {C E0 : Addr}
theorem scTrails : FnScope ["layout", "trails", "index", "cell"] ["layout"] (defScope sTrails) := ⟨rfl, rfl, rfl, by decide +kernel, rfl, by decide +kernel, by decide +kernel⟩
theorem go_trails (F : GT K mg "first_trails" sTrails ["layout"]) (T : LTxt K mg C) (gEm : mg "EMPTY" = some (.ref E0)) (GS : MO P w K mg base CX0 C 2 "call_slot" ["self", "thread"] (spL1 C fun t _ _ i => .int (first t + i)))
    (GW : MO P w K mg base CX0 C 3 "word" ["self", "index"] (spL1 C fun t _ _ i => .int (first t + t + i))) (GR : MO P w K mg base CX0 C 4 "record" ["self", "index"] (spL1 C fun t w _ i => .int (rec0 t w + i)))
    (GC : MO P w K mg base CX0 C 5 "cells" ["self"] (spL0 C fun t w r => .int (cells t w r))) : GO P w K mg base CX0 6 "first_trails" ["layout"] (spTrails C E0) := by
  obtain ⟨f, fd, F, hm, hb⟩ := F
  refine ⟨f, fd, ?_, hm, F.kp, hb⟩
  refine F.ok scTrails (fun vs H Q E h => ?_) (fun cdv A outer s H vs Q E hr h => ?_)
  · obtain ⟨a, t, w, r, rfl, _⟩ := h
    rfl
  · obtain ⟨a, t, w, r, rfl, L, ok, k⟩ := h
    obtain ⟨dx, h1⟩ := id L
    have hu := hu_of hr
    have hr2 : Room 2 _ := hr.mono (by decide)
    have hr3 : Room 3 _ := hr.mono (by decide)
    have hr4 : Room 4 _ := hr.mono (by decide)
    refine ⟨_, pss_cons (ps_setDc (i := 1) (own := [("cell", 3)]) (g := gName 3) (tt := tYes) rfl scTrails.nd rfl rfl (sw_trueD rfl rfl rfl (by decide +kernel))
        (pi_range2 rfl T.bn.range (pa_cons (pm_ GS T.cl hr2 (pv 0) (pa_cons pe_int pa_nil)) (pa_cons (pm0_ GC T.cl hr (pv 0)) pa_nil)))
        (blkOk_by (N := ["layout", "trails", "index", "cell"]) (sc := defScope sTrails) (by decide +kernel)) (fun _ _ _ _ _ => pg_name (i := 3) scTrails.nd rfl (Or.inl rfl)) (fun _ _ _ _ _ => pts_nil) (fun _ _ _ _ _ => pv 3) (fun _ _ _ _ _ => pe_lst (pa_cons pe_non pa_nil)))
      (pss_cons (ps_for PassesOwn.never rfl (pi_range1 rfl T.bn.range (pa_cons (pe_fld (pv 0) rfl) pa_nil)) (pg_name (i := 2) scTrails.nd rfl (Or.inl rfl))
        (pss_cons (ps_dput hu (pv 1) (pm_ GW T.cl hr3 (pv 0) (pa_cons (pv 2) pa_nil)) (pe_lst (pa_cons (pm_ GR T.cl hr4 (pv 0) (pa_cons (pv 2) pa_nil)) pa_nil)) rfl)
        (pss_one (ps_dput hu (pv 1) (pm_ GR T.cl hr4 (pv 0) (pa_cons (pv 2) pa_nil)) (pe_lst (pa_cons (pe_glob (v := .ref E0) rfl gEm rfl) pa_nil)) rfl))))
      (pss_one (ps_ret (pv 1)))), ?_⟩
    have hsl : sizeLine = 16777216 := sizeLine_eq
    have q1 := ok.t1
    have q2 := ok.t3
    have q3 := ok.w1
    have q4 := ok.w4
    have q5 := ok.r4
    have q6 := ok.r200
    have hf := first_n t
    have hc := cells_n t w r
    refine ⟨_, rfl, a, dx, _, rfl, h1, rfl, a, t, w, r, 0, rfl, L, _, rfl, a, dx, _, rfl, h1, rfl, a, t, w, r, rfl, L, _, _, rfl, ⟨by omega, by omega, by omega, by omega⟩, fun D hD => ?_⟩
    rw [hf, hc]
    have en : (((1 + t + (t + w + r) : Nat) : Int) - ((1 + t : Nat) : Int)).toNat = t + w + r := by omega
    rw [en]
    refine dc_it walk_range (fun i H' => ∃ (tl : Nat → Addr) (tr : Nat → List V), TrG H' D ((1 + t : Nat) : Int) i tl tr ∧ (∀ j, j < i → tr j = [.non] ∧ H (tl j) = none) ∧ Same H H')
      ⟨fun _ => 0, fun _ => [], ⟨upd_same, fun j h => by omega, fun j l h => by omega⟩, fun j h => by omega, fun b o e => by rw [upd_ne (ne_of_none e hD)]; exact e⟩ (fun _ _ _ _ => trivial) ?_ ?_
    · rintro i x H9 H1 hi ⟨tl, tr, R, hl, sm⟩ ⟨rfl, rfl⟩
      refine ⟨rfl, _, rfl, (by show 1 ≤ sizeLine; decide), fun p hp => ?_⟩
      have pD : D ≠ p := ne_of_none R.d hp
      have s1 : Same H1 (upd H1 p (.lst [.non])) := fun b o e => by rw [upd_ne (ne_of_none e hp)]; exact e
      refine ⟨_, Sum.inl _, rfl, (by rw [upd_ne pD]; exact R.d), (by rw [kv_len]; omega), _, _, R.snoc s1 hp upd_same, fun j hj => ?_, fun b o e => ?_⟩
      · by_cases c : j = i
        · rw [c, seta_same, sett_same]
          exact ⟨rfl, sm.free hp⟩
        · rw [seta_ne c, sett_ne c]
          exact hl j (by omega)
      · rw [upd_ne (ne_of_none e hD)]
        exact s1 _ _ (sm b o e)
    · rintro H1 ⟨tl, tr, R, hl, sm⟩
      have R0 : TrAt E0 H1 D t w r tl tr 0 H := by
        refine ⟨R, fun j hj => ⟨.non, (hl j hj).1, ?_⟩, fun j hj => (hl j hj).2, hD⟩
        unfold Init
        rw [if_neg (by omega), if_neg (by omega)]
      have h1' := sm _ _ h1
      refine ⟨_, rfl, a, C, dx, _, _, rfl, h1', T.cl, T.nW, rfl, _, rfl, by omega, by omega, for_range (lo := 0) (n := (w : Int).toNat)
        (fun i σ H2 => ∃ (v c : Option V) (tl : Nat → Addr) (tr : Nat → List V), σ = [some (.ref a), some (.ref D), v, c] ∧ TrAt E0 H2 D t w r tl tr i H ∧ Same H H2) ⟨_, _, tl, tr, rfl, R0, sm⟩ ?_ ?_⟩
      · rintro i σ H2 hi ⟨v, c, tl2, tr2, rfl, R, sm2⟩
        have g1 := sm2 _ _ h1
        have L2 : LayAt C H2 a t w r := ⟨dx, g1⟩
        have hw : i < w := by omega
        -- trails[layout.word(index)] = [layout.record(index)]
        refine ⟨_, rfl, a, dx, _, rfl, g1, rfl, _, rfl, a, t, w, r, _, rfl, L2, (by show 1 ≤ sizeLine; decide), fun p hp => ?_⟩
        have sp1 : Same H2 (upd H2 p (HO.lst [V.int (rec0 (t : Int) w + (0 + (i : Int)))])) := fun b o e => by rw [upd_ne (ne_of_none e hp)]; exact e
        have k1 : (first (t : Int) + t + (0 + (i : Int))) = ((1 + t : Nat) : Int) + ((t + i : Nat) : Int) := by unfold first; omega
        refine ⟨_, rfl, _, rfl, a, dx, _, rfl, sp1 _ _ g1, rfl, _, rfl, a, t, w, r, _, rfl, ⟨dx, sp1 _ _ g1⟩, D, _, rfl, DPut.k (k := Sum.inl _) (sp1 _ _ R.g.d) (by rw [kv_len]; omega), ?_⟩
        rw [k1]
        have R1 := R.g.put sp1 hp upd_same (i := t + i) (by omega)
        have s3 : Same H _ := fun b o e => (show upd (upd H2 p (HO.lst [V.int (rec0 (t : Int) w + (0 + (i : Int)))])) D (.dK (putK (kv ((1 + t : Nat) : Int) (t + w + r) fun j => .ref (tl2 j)) (Sum.inl (((1 + t : Nat) : Int) + ((t + i : Nat) : Int)) : Key) (.ref p))) b = some o from by
          rw [upd_ne (ne_of_none e hD)]
          exact sp1 _ _ (sm2 b o e))
        have it3 : ∀ j, j < t + w + r → ∃ v, sett tr2 (t + i) [V.int (rec0 (t : Int) w + (0 + (i : Int)))] j = [v] ∧ (j = t + i → v = .int (rec0 (t : Int) w + (0 + (i : Int)))) ∧ (j ≠ t + i → Init E0 t w r i j v) := fun j hj => by
          by_cases c : j = t + i
          · exact ⟨_, (by rw [c, sett_same]), fun _ => rfl, fun h => absurd c h⟩
          · obtain ⟨v, e1, e2⟩ := R.ini j hj
            exact ⟨v, (by rw [sett_ne c]; exact e1), fun h => absurd h c, fun _ => e2⟩
        generalize hH3 : upd (upd H2 p (HO.lst [V.int (rec0 (t : Int) w + (0 + (i : Int)))])) D (.dK (putK (kv ((1 + t : Nat) : Int) (t + w + r) fun j => .ref (tl2 j)) (Sum.inl (((1 + t : Nat) : Int) + ((t + i : Nat) : Int)) : Key) (.ref p))) = H3 at R1 s3 ⊢
        have n3 : ∀ j, j < t + w + r → H (seta tl2 (t + i) p j) = none := fun j hj => by
          by_cases c : j = t + i
          · rw [c, seta_same]
            exact sm2.free hp
          · rw [seta_ne c]
            exact R.new j hj
        generalize htr3 : sett tr2 (t + i) [V.int (rec0 (t : Int) w + (0 + (i : Int)))] = tr3 at R1 it3
        generalize htl3 : seta tl2 (t + i) p = tl3 at R1 n3
        -- trails[layout.record(index)] = [("items", ())]
        refine ⟨(by show 1 ≤ sizeLine; decide), fun p2 hp2 => ?_⟩
        have s36 : Same H3 (upd H3 p2 (.lst [.ref E0])) := fun b o e => by rw [upd_ne (ne_of_none e hp2)]; exact e
        have g3 := s36 _ _ (s3 _ _ h1)
        have hp23 : H3 p2 = none := hp2
        have k2 : (rec0 (t : Int) w + (0 + (i : Int))) = ((1 + t : Nat) : Int) + ((t + w + i : Nat) : Int) := by unfold rec0; omega
        refine ⟨_, rfl, _, rfl, a, dx, _, rfl, g3, rfl, _, rfl, a, t, w, r, _, rfl, ⟨dx, g3⟩, D, _, rfl, DPut.k (k := Sum.inl _) (s36 _ _ R1.d) (by rw [kv_len]; omega), ?_⟩
        rw [k2]
        have R2 := R1.put s36 hp23 upd_same (i := t + w + i) (by omega)
        refine ⟨_, _, _, _, rfl, ⟨R2, fun j hj => ?_, fun j hj => ?_, hD⟩, fun b o e => ?_⟩
        · by_cases c : j = t + w + i
          · refine ⟨.ref E0, (by rw [c, sett_same]), ?_⟩
            unfold Init
            rw [if_neg (by omega), if_pos (by omega)]
          · obtain ⟨v, e1, e2, e3⟩ := it3 j hj
            refine ⟨v, (by rw [sett_ne c]; exact e1), ?_⟩
            unfold Init
            by_cases c1 : j = t + i
            · rw [if_pos (by omega), e2 c1]
              exact congrArg V.int (by rw [c1]; unfold rec0; omega)
            · have e3 := e3 c1
              unfold Init at e3
              by_cases c2 : t ≤ j ∧ j < t + i
              · rw [if_pos c2] at e3
                rw [if_pos (by omega)]
                exact e3
              · rw [if_neg c2] at e3
                rw [if_neg (by omega)]
                by_cases c3 : t + w ≤ j ∧ j < t + w + i
                · rw [if_pos c3] at e3
                  rw [if_pos (by omega)]
                  exact e3
                · rw [if_neg c3] at e3
                  rw [if_neg (by omega)]
                  exact e3
        · by_cases c : j = t + w + i
          · rw [c, seta_same]
            exact s3.free hp23
          · rw [seta_ne c]
            exact n3 j hj
        · rw [upd_ne (ne_of_none e hD)]
          exact s36 _ _ (s3 b o e)
      · rintro σ H2 ⟨v, c, tl2, tr2, rfl, R, sm2⟩
        have ew : (w : Int).toNat = w := by omega
        rw [ew] at R
        exact ⟨_, rfl, k D tl2 tr2 H2 R sm2⟩
theorem scNotes : FnScope ["layout", "thread"] ["layout"] (defScope sNotes) := ⟨rfl, rfl, rfl, by decide +kernel, rfl, by decide +kernel, by decide +kernel⟩
theorem go_notes (F : GT K mg "no_notes" sNotes ["layout"]) (T : LTxt K mg C) : GO P w K mg base CX0 1 "no_notes" ["layout"] (spNotes C) := by
  obtain ⟨f, fd, F, hm, hb⟩ := F
  refine ⟨f, fd, ?_, hm, F.kp, hb⟩
  refine F.ok scNotes (fun vs H Q E h => ?_) (fun cdv A outer s H vs Q E hr h => ?_)
  · obtain ⟨a, t, w, r, rfl, _⟩ := h
    rfl
  · obtain ⟨a, t, w, r, rfl, L, ok, k⟩ := h
    obtain ⟨dx, h1⟩ := id L
    refine ⟨_, pss_one (ps_ret (pe_lc (own := [("thread", 1)]) (g := gName 1) (tt := tYes) rfl scNotes.nd (pi_range1 rfl T.bn.range (pa_cons (pe_fld (pv 0) rfl) pa_nil))
      (blkOk_by (N := ["layout", "thread"]) (sc := defScope sNotes) (by decide +kernel)) (fun _ _ _ _ _ => pg_name (i := 1) scNotes.nd rfl (Or.inl rfl)) (fun _ _ _ _ _ => pts_nil) (fun _ _ _ _ _ => pe_dnewK))), ?_⟩
    have q1 := ok.t1
    have q3 := ok.t3
    refine ⟨_, rfl, a, C, dx, _, _, rfl, h1, T.cl, T.nT, rfl, _, rfl, by omega, by omega, fun D hD => lc_range (lo := 0) (n := (t : Int).toNat)
      (fun i H' => ∃ na : List Addr, H' D = some (.lst (na.map V.ref)) ∧ na.length = i ∧ na.Nodup ∧ (∀ a, a ∈ na → H' a = some (.dK []) ∧ H a = none) ∧ Same H H') ⟨[], upd_same, rfl, List.nodup_nil, fun a h => by simp at h, fun b o e => by rw [upd_ne (ne_of_none e hD)]; exact e⟩ ?_ ?_⟩
    · rintro i H' hi ⟨na, hl, len, nd, all, sm⟩
      refine ⟨rfl, fun p hp => ?_⟩
      have pD : D ≠ p := ne_of_none hl hp
      have hsz : na.length < sizeLine := by
        have : sizeLine = 16777216 := sizeLine_eq
        omega
      refine ⟨na.map V.ref, (by rw [upd_ne pD]; exact hl), (by rw [List.length_map]; exact hsz), na ++ [p], ?_, by simp [len], ?_, ?_, ?_⟩
      · rw [upd_same, List.map_append]
        rfl
      · refine nd_snoc nd fun m => ?_
        have := (all p m).1
        rw [hp] at this
        cases this
      · intro b hb
        rcases List.mem_append.mp hb with m | m
        · obtain ⟨e1, e2⟩ := all b m
          have bD : b ≠ D := ne_of e1 hl (by intro z; cases z)
          rw [upd_ne bD, upd_ne (ne_of_none e1 hp)]
          exact ⟨e1, e2⟩
        · have e := List.mem_singleton.mp m
          subst e
          rw [upd_ne pD.symm, upd_same]
          exact ⟨rfl, sm.free hp⟩
      · intro b o e
        have e1 := sm b o e
        rw [upd_ne (ne_of_none e hD), upd_ne (ne_of_none e1 hp)]
        exact e1
    · rintro H' ⟨na, hl, len, nd, all, sm⟩
      exact k D na H' hl (by omega) nd all hD sm
end
end Dk

set_option maxHeartbeats 4000000
/-! a memory is made -/
namespace Dk
open PySem PySem.Spec PyProof.Rows L2
abbrev sMInit : Stmt := inClass (top 21) 0
/-- what a memory holds -/
structure MS where
  count : Int
  ps : List V
  tr : Nat → List V
  lost : Nat → Int
  notes : List (List (Key × V))
  log : List V
/-- where its parts stand -/
structure Adr where
  a : Addr
  pl : Addr
  td : Addr
  ld : Addr
  nl : Addr
  gl : Addr
  tl : Nat → Addr
  na : List Addr
def mf (A : Adr) (c : Int) : List (Str × V) := [("layout", .ref A.a), ("count", .int c), ("_passing", .ref A.pl), ("_trails", .ref A.td), ("_lost", .ref A.ld), ("_notes", .ref A.nl), ("_log", .ref A.gl)]
structure MemAt (C M : Addr) (H : Hp) (m : Addr) (t w r : Nat) (A : Adr) (S : MS) : Prop where
  ob : ∃ dx, H m = some (.ins M dx (mf A S.count))
  lay : LayAt C H A.a t w r
  ps : H A.pl = some (.lst S.ps)
  tr : TrG H A.td ((1 + t : Nat) : Int) (t + w + r) A.tl S.tr
  ld : H A.ld = some (.dK (kv ((1 + t : Nat) : Int) (t + w + r) fun j => .int (S.lost j)))
  nl : H A.nl = some (.lst (A.na.map V.ref))
  nn : A.na.length = t
  nd : A.na.Nodup
  no : ∀ (i : Nat) (b : Addr), A.na[i]? = some b → ∃ ns, S.notes[i]? = some ns ∧ H b = some (.dK ns)
  gl : H A.gl = some (.lst S.log)
  d1 : ∀ j, j < t + w + r → A.tl j ≠ A.pl ∧ A.tl j ≠ A.gl ∧ A.tl j ≠ A.nl
  d2 : A.pl ≠ A.gl ∧ A.pl ≠ A.nl ∧ A.gl ≠ A.nl
  d3 : A.td ≠ A.ld
  d4 : ∀ b, b ∈ A.na → b ≠ A.td ∧ b ≠ A.ld
  d5 : m ≠ A.a
/-- the addresses that are the memory's own -/
def Foot (m : Addr) (A : Adr) (n : Nat) (b : Addr) : Prop := b = m ∨ b = A.pl ∨ b = A.td ∨ b = A.ld ∨ b = A.nl ∨ b = A.gl ∨ (∃ j, j < n ∧ b = A.tl j) ∨ b ∈ A.na
def S0 (t : Nat) (tr : Nat → List V) : MS := ⟨0, .int 0 :: List.replicate t .non, tr, fun _ => 0, List.replicate t [], []⟩
structure MTxt (K : PySem.W.Frag) (M : Addr) : Prop where
  cl : Cls K M
  nL : NoAttr K M "layout"
  nC : NoAttr K M "count"
  nP : NoAttr K M "_passing"
  nT : NoAttr K M "_trails"
  nO : NoAttr K M "_lost"
  nN : NoAttr K M "_notes"
  nG : NoAttr K M "_log"
/-- all but what stands at p is as it was -/
def Keep (p : Addr) (H H' : Hp) : Prop := ∀ b o, H b = some o → b ≠ p → H' b = some o
theorem Keep.of {p : Addr} {H H' : Hp} (s : Same H H') : Keep p H H' := fun b o e _ => s b o e
theorem Keep.trans {p : Addr} {H H1 H2 : Hp} (a : Keep p H H1) (b : Keep p H1 H2) : Keep p H H2 := fun c o e h => b c o (a c o e h) h
theorem Keep.up {p : Addr} {H : Hp} {o : HO} : Keep p H (upd H p o) := fun b u e h => by rw [upd_ne h]; exact e
def spMInit (C M E0 : Addr) : Sp := fun vs H Q _ => ∃ (p dx a : Addr) (t w r : Nat), vs = [.ref p, .ref a] ∧ H p = some (.ins M dx []) ∧ LayAt C H a t w r ∧ NOk t w r ∧
  ∀ (A : Adr) (tr : Nat → List V) (H' : Hp), A.a = a → MemAt C M H' p t w r A (S0 t tr) → (∀ j, j < t + w + r → ∃ v, tr j = [v] ∧ Init E0 t w r w j v) → Keep p H H' → (∀ b, Foot p A (t + w + r) b → b = p ∨ H b = none) → Q .non H'
section
variable {P : Program} {w : World} {K : PySem.W.Frag} {mg : Str → Option Value} {base : Heap} {C M E0 : Addr}
theorem scMInit : FnScope ["self", "layout", "cell"] ["self", "layout"] (defScope sMInit) := ⟨rfl, rfl, rfl, by decide +kernel, rfl, by decide +kernel, by decide +kernel⟩
theorem ok_minit {f : Addr} {fd : FuncData} (F : Fun K "__init__" "Memory.__init__" sMInit f fd) (T : LTxt K mg C) (TM : MTxt K M) (GP : GO P w K mg base CX0 1 "passing_values" ["layout"] (spPass C))
    (GT : GO P w K mg base CX0 6 "first_trails" ["layout"] (spTrails C E0)) (GN : GO P w K mg base CX0 1 "no_notes" ["layout"] (spNotes C)) : FnOk P w K mg base CX0 7 f fd ["self", "layout"] (spMInit C M E0) := by
  refine F.ok scMInit (fun vs H Q E h => ?_) (fun cdv A outer s H vs Q E hr h => ?_)
  · obtain ⟨p, dx, a, t, w, r, rfl, _⟩ := h
    rfl
  · obtain ⟨p, dx, a, t, w, r, rfl, hp, L, ok, k⟩ := h
    obtain ⟨da, ha⟩ := id L
    have hr1 : Room 1 _ := hr.mono (by decide)
    have pa : p ≠ a := ne_of hp ha (by intro z; cases z)
    refine ⟨_, pss_cons (ps_fld (pv 0) (pv 1) rfl) (pss_cons (ps_fld (pv 0) pe_int rfl) (pss_cons (ps_fld (pv 0) (pc_ GP hr1 (pa_cons (pv 1) pa_nil)) rfl)
      (pss_cons (ps_fld (pv 0) (pc_ GT hr (pa_cons (pv 1) pa_nil)) rfl)
      (pss_cons (ps_fld (pv 0) (pe_lock (pe_dc (own := [("cell", 2)]) (g := gName 2) (tt := tYes) rfl scMInit.nd (pi_keys (pe_fld (pv 0) rfl)) (blkOk_by (N := ["self", "layout", "cell"]) (sc := defScope sMInit) (by decide +kernel))
        (fun _ _ _ _ _ => pg_name (i := 2) scMInit.nd rfl (Or.inl rfl)) (fun _ _ _ _ _ => pts_nil) (fun _ _ _ _ _ => pv 2) (fun _ _ _ _ _ => pe_int))) rfl)
      (pss_cons (ps_fld (pv 0) (pc_ GN hr1 (pa_cons (pv 1) pa_nil)) rfl) (pss_one (ps_fld (pv 0) (pe_lst pa_nil) rfl))))))), ?_⟩
    -- self.layout = layout; self.count = 0
    refine ⟨_, rfl, _, rfl, p, M, dx, [], rfl, hp, TM.cl, TM.nL, (by show 0 < 1000; decide), ?_⟩
    refine ⟨_, rfl, p, M, dx, _, rfl, upd_same, TM.cl, TM.nC, (by show 1 < 1000; decide), ?_⟩
    generalize hH2 : upd (upd H p _) p _ = H2
    have k2 : Keep p H H2 := by rw [← hH2]; exact Keep.up.trans Keep.up
    have p2 : H2 p = some (.ins M dx [("layout", .ref a), ("count", .int 0)]) := by rw [← hH2]; exact upd_same
    -- self._passing = passing_values(layout)
    refine ⟨_, rfl, a, t, w, r, rfl, ⟨da, k2 _ _ ha pa.symm⟩, ok.lok, fun pl H3 npl hpl s3 => ?_⟩
    refine ⟨_, rfl, p, M, dx, _, rfl, s3 _ _ p2, TM.cl, TM.nP, (by show 2 < 1000; decide), ?_⟩
    generalize hH4 : upd H3 p _ = H4
    have k4 : Keep p H2 H4 := by rw [← hH4]; exact (Keep.of s3).trans Keep.up
    have p4 : H4 p = some (.ins M dx [("layout", .ref a), ("count", .int 0), ("_passing", .ref pl)]) := by rw [← hH4]; exact upd_same
    have plp : pl ≠ p := (ne_of_none p2 npl).symm
    have e4 : H4 pl = some (.lst (.int 0 :: List.replicate (t : Int).toNat .non)) := by rw [← hH4, upd_ne plp]; exact hpl
    -- self._trails = first_trails(layout)
    refine ⟨_, rfl, a, t, w, r, rfl, ⟨da, k4 _ _ (k2 _ _ ha pa.symm) pa.symm⟩, ok, fun td tl tr H5 R s5 => ?_⟩
    refine ⟨_, rfl, p, M, dx, _, rfl, s5 _ _ p4, TM.cl, TM.nT, (by show 3 < 1000; decide), ?_⟩
    generalize hH6 : upd H5 p _ = H6
    have k56 : Keep p H5 H6 := by rw [← hH6]; exact Keep.up
    have k6 : Keep p H4 H6 := (Keep.of s5).trans k56
    have p6 : H6 p = some (.ins M dx [("layout", .ref a), ("count", .int 0), ("_passing", .ref pl), ("_trails", .ref td)]) := by rw [← hH6]; exact upd_same
    have tdp : td ≠ p := (ne_of_none p4 R.nD).symm
    have tlp : ∀ j, j < t + w + r → tl j ≠ p := fun j hj => (ne_of_none p4 (R.new j hj)).symm
    have G6 : TrG H6 td ((1 + t : Nat) : Int) (t + w + r) tl tr := ⟨k56 _ _ R.g.d tdp, fun j hj => k56 _ _ (R.g.l j hj) (tlp j hj), R.g.inj⟩
    -- self._lost = {cell: 0 for cell in self._trails}
    refine ⟨td, _, G6.d, trivial, fun od => ?_⟩
    have tdp' : p ≠ td := tdp.symm
    have f6 : upd H6 td (.frz od (.dK (kv ((1 + t : Nat) : Int) (t + w + r) fun j => .ref (tl j)))) p = some (.ins M dx [("layout", .ref a), ("count", .int 0), ("_passing", .ref pl), ("_trails", .ref td)]) := by rw [upd_ne tdp']; exact p6
    refine ⟨_, rfl, p, M, dx, _, _, rfl, f6, TM.cl, TM.nT, rfl, td, od, rfl, .inl ⟨_, upd_same, fun D hD => ?_⟩⟩
    have tdD : td ≠ D := ne_of_none upd_same hD
    refine dc_it walk_keys (fun i H' => H' D = some (.dK (kv ((1 + t : Nat) : Int) i fun _ => .int 0)) ∧ Same (upd H6 td (.frz od (.dK (kv ((1 + t : Nat) : Int) (t + w + r) fun j => .ref (tl j))))) H')
      ⟨upd_same, fun b o e => by rw [upd_ne (ne_of_none e hD)]; exact e⟩ (fun i H' _ q => q.2 _ _ upd_same) ?_ ?_
    · rintro i x H9 H1 hi ⟨hd, sm⟩ ⟨rfl, kk, v, e, rfl⟩
      obtain ⟨hi', rfl, rfl⟩ := kv_at e
      refine ⟨rfl, _, rfl, _, Sum.inl _, rfl, hd, (by rw [kv_len]; have : sizeLine = 16777216 := sizeLine_eq; have := ok.t3; have := ok.w4; have := ok.r200; omega), ?_, fun b o e => ?_⟩
      · rw [upd_same, kv_new]
        refine congrArg (fun q => some (HO.dK q)) (kv_congr fun j hj => ?_)
        unfold setf
        split <;> rfl
      · rw [upd_ne (ne_of_none e hD)]
        exact sm b o e
    · rintro H7 ⟨hd, sm⟩
      rw [kv_len] at hd
      refine ⟨sm _ _ upd_same, ?_⟩
      have e8 : Same H6 (upd H7 td (.dK (kv ((1 + t : Nat) : Int) (t + w + r) fun j => .ref (tl j)))) := fun b o e => by
        by_cases c : b = td
        · subst c
          rw [upd_same]
          exact G6.d.symm.trans e
        · rw [upd_ne c]
          refine sm b o ?_
          rw [upd_ne c]
          exact e
      have hd8 : upd H7 td (.dK (kv ((1 + t : Nat) : Int) (t + w + r) fun j => .ref (tl j))) D = some (.dK (kv ((1 + t : Nat) : Int) (t + w + r) fun _ => .int 0)) := by rw [upd_ne tdD.symm]; exact hd
      have nD6 : H6 D = none := by
        rw [upd_ne tdD.symm] at hD
        exact hD
      generalize hH8 : upd H7 td _ = H8 at e8 hd8 ⊢
      have pD : D ≠ p := (ne_of_none p6 nD6).symm
      refine ⟨_, rfl, p, M, dx, _, rfl, e8 _ _ p6, TM.cl, TM.nO, (by show 4 < 1000; decide), ?_⟩
      generalize hH9 : upd H8 p _ = H9
      have k9 : Keep p H6 H9 := by rw [← hH9]; exact (Keep.of e8).trans Keep.up
      have p9 : H9 p = some (.ins M dx [("layout", .ref a), ("count", .int 0), ("_passing", .ref pl), ("_trails", .ref td), ("_lost", .ref D)]) := by rw [← hH9]; exact upd_same
      have d9 : H9 D = some (.dK (kv ((1 + t : Nat) : Int) (t + w + r) fun _ => .int 0)) := by rw [← hH9, upd_ne pD]; exact hd8
      -- self._notes = no_notes(layout)
      have a9 := k9 _ _ (k6 _ _ (k4 _ _ (k2 _ _ ha pa.symm) pa.symm) pa.symm) pa.symm
      refine ⟨_, rfl, a, t, w, r, rfl, ⟨da, a9⟩, ok, fun nl na H10 hnl hlen hnd hall nnl s10 => ?_⟩
      refine ⟨_, rfl, p, M, dx, _, rfl, s10 _ _ p9, TM.cl, TM.nN, (by show 5 < 1000; decide), ?_⟩
      generalize hH11 : upd H10 p _ = H11
      have k10 : Keep p H10 H11 := by rw [← hH11]; exact Keep.up
      have k11 : Keep p H9 H11 := (Keep.of s10).trans k10
      have p11 : H11 p = some (.ins M dx [("layout", .ref a), ("count", .int 0), ("_passing", .ref pl), ("_trails", .ref td), ("_lost", .ref D), ("_notes", .ref nl)]) := by rw [← hH11]; exact upd_same
      have nlp : nl ≠ p := (ne_of_none p9 nnl).symm
      have nap : ∀ b, b ∈ na → b ≠ p := fun b hb => (ne_of_none p9 (hall b hb).2).symm
      -- self._log = []
      refine ⟨(by show 0 ≤ sizeLine; exact Nat.zero_le _), fun gl ngl => ?_⟩
      have glp : gl ≠ p := (ne_of_none p11 ngl).symm
      refine ⟨_, rfl, p, M, dx, _, rfl, (by rw [upd_ne glp.symm]; exact p11), TM.cl, TM.nG, (by show 6 < 1000; decide), ?_⟩
      generalize hH12 : upd (upd H11 gl _) p _ = H12
      have k12 : Keep p H11 H12 := by
        rw [← hH12]
        intro b o e h
        rw [upd_ne h, upd_ne (ne_of_none e ngl)]
        exact e
      have p12 : H12 p = some (.ins M dx [("layout", .ref a), ("count", .int 0), ("_passing", .ref pl), ("_trails", .ref td), ("_lost", .ref D), ("_notes", .ref nl), ("_log", .ref gl)]) := by rw [← hH12]; exact upd_same
      have g12 : H12 gl = some (.lst []) := by rw [← hH12, upd_ne glp, upd_same]
      have k6z : Keep p H6 H12 := (k9.trans k11).trans k12
      have k4z : Keep p H4 H12 := k6.trans k6z
      have pl12 := k4z _ _ e4 plp
      have et : (t : Int).toNat = t := by omega
      rw [et] at pl12
      have kz : Keep p H H12 := (k2.trans k4).trans k4z
      have nl11 : H11 nl = some (.lst (na.map V.ref)) := k10 _ _ hnl nlp
      have pl4 : H4 pl ≠ none := by rw [e4]; intro z; cases z
      have frN : ∀ {b : Addr}, b ≠ p → H4 b = none → H b = none := fun {b} hb e => by
        cases q : H b with
        | none => rfl
        | some o =>
          have := k4 _ _ (k2 _ _ q hb) hb
          rw [e] at this
          cases this
      have frN2 : ∀ {b : Addr}, b ≠ p → H6 b = none → H4 b = none := fun {b} hb e => by
        cases q : H4 b with
        | none => rfl
        | some o =>
          have := k6 _ _ q hb
          rw [e] at this
          cases this
      have frN3 : ∀ {b : Addr}, b ≠ p → H9 b = none → H6 b = none := fun {b} hb e => by
        cases q : H6 b with
        | none => rfl
        | some o =>
          have := k9 _ _ q hb
          rw [e] at this
          cases this
      have frN4 : ∀ {b : Addr}, b ≠ p → H11 b = none → H9 b = none := fun {b} hb e => by
        cases q : H9 b with
        | none => rfl
        | some o =>
          have := k11 _ _ q hb
          rw [e] at this
          cases this
      refine k ⟨a, pl, td, D, nl, gl, tl, na⟩ tr H12 rfl ⟨⟨dx, p12⟩, ⟨da, k12 _ _ (k11 _ _ a9 pa.symm) pa.symm⟩, pl12, ⟨k6z _ _ G6.d tdp, fun j hj => k6z _ _ (G6.l j hj) (tlp j hj), G6.inj⟩, k12 _ _ (k11 _ _ d9 pD) pD, k12 _ _ nl11 nlp, hlen, hnd, ?_, g12, ?_, ?_, ?_, ?_, pa⟩ ?_ kz ?_
      · intro i b hb
        have hm := List.mem_of_getElem? hb
        refine ⟨[], ?_, k12 _ _ (k10 _ _ (hall b hm).1 (nap b hm)) (nap b hm)⟩
        have hi : i < t := by
          have q : i < na.length := (List.getElem?_eq_some_iff.mp hb).1
          omega
        show (List.replicate t ([] : List (Key × V)))[i]? = some []
        rw [List.getElem?_replicate, if_pos hi]
      · intro j hj
        have e6 := k6z
        refine ⟨fun e => ?_, fun e => ?_, fun e => ?_⟩
        · have := R.new j hj
          have e : tl j = pl := e
          rw [e] at this
          exact pl4 this
        · have e : tl j = gl := e
          have := k11 _ _ (k9 _ _ (G6.l j hj) (tlp j hj)) (tlp j hj)
          rw [e, ngl] at this
          cases this
        · have e : tl j = nl := e
          have := k9 _ _ (G6.l j hj) (tlp j hj)
          rw [e, nnl] at this
          cases this
      · have q9 := k9 _ _ (k6 _ _ e4 plp) plp
        have q11 := k11 _ _ q9 plp
        refine ⟨fun e => ?_, fun e => ?_, fun e => ?_⟩
        · have e : pl = gl := e
          rw [e, ngl] at q11
          cases q11
        · have e : pl = nl := e
          rw [e, nnl] at q9
          cases q9
        · have e : gl = nl := e
          rw [← e, ngl] at nl11
          cases nl11
      · exact tdD
      · intro b hb
        have e9 := (hall b hb).2
        refine ⟨fun e => ?_, fun e => ?_⟩
        · have e : b = td := e
          have := k9 _ _ G6.d tdp
          rw [← e, e9] at this
          cases this
        · have e : b = D := e
          rw [← e, e9] at d9
          cases d9
      · intro j hj
        obtain ⟨v, e1, e2⟩ := R.ini j hj
        exact ⟨v, e1, e2⟩
      · intro b hb
        by_cases hbp : b = p
        · exact .inl hbp
        · refine .inr ?_
          rcases hb with e | e | e | e | e | e | ⟨j, hj, e⟩ | e
          · exact absurd e hbp
          · have e : b = pl := e
            rw [e]
            cases q : H pl with
            | none => rfl
            | some o =>
              have := k2 _ _ q plp
              rw [npl] at this
              cases this
          · have e : b = td := e
            rw [e]
            exact frN tdp R.nD
          · have e : b = D := e
            rw [e]
            exact frN pD (frN2 pD nD6)
          · have e : b = nl := e
            rw [e]
            exact frN nlp (frN2 nlp (frN3 nlp nnl))
          · have e : b = gl := e
            rw [e]
            exact frN glp (frN2 glp (frN3 glp (frN4 glp ngl)))
          · have e : b = tl j := e
            rw [e]
            exact frN (tlp j hj) (R.new j hj)
          · exact frN hbp (frN2 hbp (frN3 hbp (hall b e).2))
end
end Dk

set_option maxHeartbeats 4000000
/-! a memory is looked at -/
namespace Dk
open PySem PySem.Spec PyProof.Rows L2
abbrev sPeek : Stmt := inClass (top 21) 2
abbrev sLasting : Stmt := inClass (top 21) 3
abbrev sTrail : Stmt := inClass (top 21) 4
abbrev sAsk : Stmt := inClass (top 21) 8
/-- the present value of the cell i -/
def cellV (S : MS) (t i : Nat) : Option V := if i < 1 + t then S.ps[i]? else (S.tr (i - (1 + t))).getLast?
theorem inW_nat {n i : Nat} : inW 0 (((n : Nat) : Int) - 1) (.int (i : Int)) = decide (i < n) := by
  show (decide ((0 : Int) ≤ (i : Int)) && decide ((i : Int) ≤ (n : Int) - 1)) = _
  by_cases c : i < n
  · rw [decide_eq_true c, decide_eq_true (by omega), decide_eq_true (by omega)]
    rfl
  · rw [decide_eq_false c, decide_eq_false (p := (i : Int) ≤ (n : Int) - 1) (by omega)]
    exact Bool.and_false _
theorem lastB_nat {t w r i : Nat} : lastB (t : Int) w r (.int (i : Int)) = decide (1 + t ≤ i ∧ i < 1 + t + (t + w + r)) := by
  unfold lastB
  rw [cells_n, inW_nat, first_n]
  show (decide (i < 1 + t + (t + w + r)) && decide (((1 + t : Nat) : Int) ≤ (i : Int))) = _
  by_cases c : i < 1 + t + (t + w + r)
  · by_cases d : 1 + t ≤ i
    · rw [decide_eq_true c, decide_eq_true (by omega), decide_eq_true ⟨d, c⟩]
      rfl
    · rw [decide_eq_true c, decide_eq_false (p := ((1 + t : Nat) : Int) ≤ (i : Int)) (by omega), decide_eq_false (p := 1 + t ≤ i ∧ i < 1 + t + (t + w + r)) (fun z => d z.1)]
      rfl
  · rw [decide_eq_false c, decide_eq_false (p := 1 + t ≤ i ∧ i < 1 + t + (t + w + r)) (fun z => c z.2)]
    rfl
theorem recB_nat {t w r i : Nat} : recB (t : Int) w r (.int (i : Int)) = decide (1 + t + t + w ≤ i ∧ i < 1 + t + (t + w + r)) := by
  unfold recB
  rw [cells_n, inW_nat]
  show (decide (i < 1 + t + (t + w + r)) && decide (rec0 (t : Int) w + 0 ≤ (i : Int))) = _
  unfold rec0
  by_cases c : i < 1 + t + (t + w + r)
  · by_cases d : 1 + t + t + w ≤ i
    · rw [decide_eq_true c, decide_eq_true (by omega), decide_eq_true ⟨d, c⟩]
      rfl
    · rw [decide_eq_true c, decide_eq_false (p := (1 + (t : Int) + t + w + 0 ≤ (i : Int))) (by omega), decide_eq_false (p := 1 + t + t + w ≤ i ∧ i < 1 + t + (t + w + r)) (fun z => d z.1)]
      rfl
  · rw [decide_eq_false c, decide_eq_false (p := 1 + t + t + w ≤ i ∧ i < 1 + t + (t + w + r)) (fun z => c z.2)]
    rfl
theorem atI_getLast {xs : List V} {v : V} (h : xs.getLast? = some v) : atI xs (-1) = some v := by
  have : xs ≠ [] := by
    intro e
    rw [e] at h
    cases h
  have e := List.dropLast_concat_getLast this
  have h : xs.getLast this = v := by
    have e2 := List.getLast?_eq_some_getLast this
    rw [h] at e2
    exact (Option.some.inj e2).symm
  rw [h] at e
  rw [← e]
  exact atI_last _ _
def spPeek (C M : Addr) : Sp := fun vs H Q _ => ∃ (m : Addr) (t w r i : Nat) (A : Adr) (S : MS) (v : V), vs = [.ref m, .int (i : Int)] ∧ MemAt C M H m t w r A S ∧ i < 1 + t + (t + w + r) ∧ cellV S t i = some v ∧ Q v H
def spAsk (C M NV : Addr) : Sp := fun vs H Q E => ∃ (m : Addr) (t w r i : Nat) (A : Adr) (S : MS), vs = [.ref m, .int (i : Int)] ∧ MemAt C M H m t w r A S ∧
  ((1 + t ≤ i ∧ i < 1 + t + (t + w + r)) → Q .non H) ∧ (¬ (1 + t ≤ i ∧ i < 1 + t + (t + w + r)) → E (.ref NV) none H)
def spLasting (C M NV : Addr) : Sp := fun vs H Q E => ∃ (m : Addr) (t w r i : Nat) (A : Adr) (S : MS), vs = [.ref m, .int (i : Int)] ∧ MemAt C M H m t w r A S ∧
  ((1 + t ≤ i ∧ i < 1 + t + (t + w + r)) → ∃ v, (S.tr (i - (1 + t)))[0]? = some v ∧ Q v H) ∧ (¬ (1 + t ≤ i ∧ i < 1 + t + (t + w + r)) → E (.ref NV) none H)
def spTrail (C M NV : Addr) : Sp := fun vs H Q E => ∃ (m : Addr) (t w r i : Nat) (A : Adr) (S : MS), vs = [.ref m, .int (i : Int)] ∧ MemAt C M H m t w r A S ∧
  ((1 + t ≤ i ∧ i < 1 + t + (t + w + r)) → ∀ p, H p = none → Q (.ref p) (upd H p (.lst (S.tr (i - (1 + t)))))) ∧ (¬ (1 + t ≤ i ∧ i < 1 + t + (t + w + r)) → E (.ref NV) none H)
section
variable {P : Program} {w : World} {K : PySem.W.Frag} {mg : Str → Option Value} {base : Heap} {C M NV LE : Addr}
theorem scPeek : FnScope ["self", "cell"] ["self", "cell"] (defScope sPeek) := ⟨rfl, rfl, rfl, by decide +kernel, rfl, by decide +kernel, by decide +kernel⟩
theorem mo_peek (F : MT K M "peek" "Memory.peek" sPeek ["self", "cell"]) (T : LTxt K mg C) (TM : MTxt K M) (GI : MO P w K mg base CX0 C 6 "is_cell" ["self", "cell"] (spLV C fun t w r v => .bl (inW 0 (cells t w r - 1) v)))
    (GL : MO P w K mg base CX0 C 7 "is_lasting" ["self", "cell"] (spLV C fun t w r v => .bl (lastB t w r v))) : MO P w K mg base CX0 M 8 "peek" ["self", "cell"] (spPeek C M) := by
  obtain ⟨f, fd, F, hm, hb⟩ := F
  refine ⟨f, fd, ?_, hm, hb⟩
  refine F.ok scPeek (fun vs H Q E h => ?_) (fun cdv A outer s H vs Q E hr h => ?_)
  · obtain ⟨m, t, w, r, i, A, S, v, rfl, _⟩ := h
    rfl
  · obtain ⟨m, t, w, r, i, B, S, v, rfl, D, hi, hv, k⟩ := h
    obtain ⟨dx, h1⟩ := D.ob
    obtain ⟨da, ha⟩ := D.lay
    have hu := hu_of hr
    refine ⟨_, pss_cons (ps_if (pt_not (pt_val (pm_ GI T.cl (hr.mono (by decide)) (pe_fld (pv 0) rfl) (pa_cons (pv 1) pa_nil)))) (pss_one ps_never) pss_nil)
      (pss_cons (ps_if (pt_val (pm_ GL T.cl hr (pe_fld (pv 0) rfl) (pa_cons (pv 1) pa_nil))) (pss_one (ps_ret (pe_ix ix_list (pe_dget hu (pe_fld (pv 0) rfl) (pv 1) (fun _ _ => rfl)) (pe_un un_neg pe_int) (fun _ _ => rfl)))) pss_nil)
      (pss_one (ps_ret (pe_ix ix_list (pe_fld (pv 0) rfl) (pv 1) (fun _ _ => rfl))))), ?_⟩
    refine ⟨_, rfl, m, M, dx, _, _, rfl, h1, TM.cl, TM.nL, rfl, B.a, da, _, rfl, ha, rfl, _, rfl, B.a, t, w, r, _, "int", rfl, rfl, ⟨da, ha⟩, _, rfl, ?_⟩
    rw [cells_n, inW_nat, decide_eq_true hi]
    refine iteF ?_
    refine ⟨_, rfl, m, M, dx, _, _, rfl, h1, TM.cl, TM.nL, rfl, B.a, da, _, rfl, ha, rfl, _, rfl, B.a, t, w, r, _, "int", rfl, rfl, ⟨da, ha⟩, _, rfl, ?_⟩
    rw [lastB_nat]
    unfold cellV at hv
    by_cases c : i < 1 + t
    · rw [if_pos c] at hv
      rw [decide_eq_false (by omega)]
      refine iteF ?_
      exact ⟨_, rfl, m, M, dx, _, _, rfl, h1, TM.cl, TM.nP, rfl, _, rfl, B.pl, _, _, _, rfl, rfl, SqL.of D.ps, atI_nat hv, k⟩
    · rw [if_neg c] at hv
      rw [decide_eq_true (by omega)]
      refine iteT ?_
      have hj : i - (1 + t) < t + w + r := by omega
      have ei : ((1 + t : Nat) : Int) + ((i - (1 + t) : Nat) : Int) = (i : Int) := by omega
      have g : DGet H B.td (.int (i : Int)) (some (.ref (B.tl (i - (1 + t))))) := by
        have := DGet.k (k := (Sum.inl (i : Int) : Key)) D.tr.d
        rw [← ei, kv_val _ _ _ _ hj, ei] at this
        exact this
      exact ⟨_, rfl, m, M, dx, _, _, rfl, h1, TM.cl, TM.nT, rfl, _, rfl, B.td, _, rfl, g, 1, rfl, B.tl (i - (1 + t)), _, _, _, rfl, rfl, SqL.of (D.tr.l _ hj), atI_getLast hv, k⟩
theorem scAsk : FnScope ["self", "cell"] ["self", "cell"] (defScope sAsk) := ⟨rfl, rfl, rfl, by decide +kernel, rfl, by decide +kernel, by decide +kernel⟩
theorem mo_ask (F : MT K M "_ask_lasting" "Memory._ask_lasting" sAsk ["self", "cell"]) (T : LTxt K mg C) (TM : MTxt K M) (X0 : XTxt K mg NV LE)
    (GL : MO P w K mg base CX0 C 7 "is_lasting" ["self", "cell"] (spLV C fun t w r v => .bl (lastB t w r v))) : MO P w K mg base (L2.CX P w) M 8 "_ask_lasting" ["self", "cell"] (spAsk C M NV) := by
  obtain ⟨f, fd, F, hm, hb⟩ := F
  refine ⟨f, fd, ?_, hm, hb⟩
  refine F.okX scAsk (fun vs H Q E h => ?_) (fun cdv A outer s H vs Q E hr h => ?_)
  · obtain ⟨m, t, w, r, i, A, S, rfl, _⟩ := h
    rfl
  · obtain ⟨m, t, w, r, i, B, S, rfl, D, k1, k2⟩ := h
    obtain ⟨dx, h1⟩ := D.ob
    obtain ⟨da, ha⟩ := D.lay
    refine ⟨_, pss_one (ps_if (pt_not (pt_val (pm_ GL T.cl hr (pe_fld (pv 0) rfl) (pa_cons (pv 1) pa_nil))))
      (pss_one (ps_raise rfl (takes_of rfl rfl rfl rfl) (pmk_own0 PySem.F.excBase_ValueError X0.xN X0.gN X0.kN (raises_own X0.sN X0.tN) rfl))) pss_nil), ?_⟩
    refine ⟨_, rfl, m, M, dx, _, _, rfl, h1, TM.cl, TM.nL, rfl, B.a, da, _, rfl, ha, rfl, _, rfl, B.a, t, w, r, _, "int", rfl, rfl, ⟨da, ha⟩, _, rfl, ?_⟩
    rw [lastB_nat]
    by_cases c : 1 + t ≤ i ∧ i < 1 + t + (t + w + r)
    · rw [decide_eq_true c]
      exact iteF (k1 c)
    · rw [decide_eq_false c]
      exact iteT (k2 c)
theorem scLasting : FnScope ["self", "cell"] ["self", "cell"] (defScope sLasting) := ⟨rfl, rfl, rfl, by decide +kernel, rfl, by decide +kernel, by decide +kernel⟩
theorem mo_lasting (F : MT K M "lasting" "Memory.lasting" sLasting ["self", "cell"]) (TM : MTxt K M) (GA : MO P w K mg base (L2.CX P w) M 8 "_ask_lasting" ["self", "cell"] (spAsk C M NV)) :
    MO P w K mg base (L2.CX P w) M 9 "lasting" ["self", "cell"] (spLasting C M NV) := by
  obtain ⟨f, fd, F, hm, hb⟩ := F
  refine ⟨f, fd, ?_, hm, hb⟩
  refine F.okX scLasting (fun vs H Q E h => ?_) (fun cdv A outer s H vs Q E hr h => ?_)
  · obtain ⟨m, t, w, r, i, A, S, rfl, _⟩ := h
    rfl
  · obtain ⟨m, t, w, r, i, B, S, rfl, D, k1, k2⟩ := h
    obtain ⟨dx, h1⟩ := D.ob
    have hu := hu_of hr
    refine ⟨_, pss_cons (ps_expr (pmE_ (E := fun _ => E) GA TM.cl hr (fun σ => passAt (takes_of rfl rfl rfl rfl) σ) (pv 0) (pa_cons (pv 1) pa_nil)))
      (pss_one (ps_ret (pe_ix ix_list (pe_dget hu (pe_fld (pv 0) rfl) (pv 1) (fun _ _ => rfl)) pe_int (fun _ _ => rfl)))), ?_⟩
    refine ⟨_, rfl, m, dx, _, rfl, h1, rfl, _, rfl, m, t, w, r, i, B, S, rfl, D, fun c => ?_, k2⟩
    obtain ⟨v, hv, q⟩ := k1 c
    have hj : i - (1 + t) < t + w + r := by omega
    have ei : ((1 + t : Nat) : Int) + ((i - (1 + t) : Nat) : Int) = (i : Int) := by omega
    have g : DGet H B.td (.int (i : Int)) (some (.ref (B.tl (i - (1 + t))))) := by
      have := DGet.k (k := (Sum.inl (i : Int) : Key)) D.tr.d
      rw [← ei, kv_val _ _ _ _ hj, ei] at this
      exact this
    exact ⟨_, rfl, m, M, dx, _, _, rfl, h1, TM.cl, TM.nT, rfl, _, rfl, B.td, _, rfl, g, B.tl (i - (1 + t)), _, _, _, rfl, rfl, SqL.of (D.tr.l _ hj), atI_nat (j := 0) hv, q⟩
theorem scTrail : FnScope ["self", "cell"] ["self", "cell"] (defScope sTrail) := ⟨rfl, rfl, rfl, by decide +kernel, rfl, by decide +kernel, by decide +kernel⟩
theorem mo_trail (F : MT K M "trail" "Memory.trail" sTrail ["self", "cell"]) (T : LTxt K mg C) (TM : MTxt K M) (GA : MO P w K mg base (L2.CX P w) M 8 "_ask_lasting" ["self", "cell"] (spAsk C M NV)) :
    MO P w K mg base (L2.CX P w) M 9 "trail" ["self", "cell"] (spTrail C M NV) := by
  obtain ⟨f, fd, F, hm, hb⟩ := F
  refine ⟨f, fd, ?_, hm, hb⟩
  refine F.okX scTrail (fun vs H Q E h => ?_) (fun cdv A outer s H vs Q E hr h => ?_)
  · obtain ⟨m, t, w, r, i, A, S, rfl, _⟩ := h
    rfl
  · obtain ⟨m, t, w, r, i, B, S, rfl, D, k1, k2⟩ := h
    obtain ⟨dx, h1⟩ := D.ob
    have hu := hu_of hr
    refine ⟨_, pss_cons (ps_expr (pmE_ (E := fun _ => E) GA TM.cl hr (fun σ => passAt (takes_of rfl rfl rfl rfl) σ) (pv 0) (pa_cons (pv 1) pa_nil)))
      (pss_one (ps_ret (pe_callTy call_list_of (by rfl) T.bn.list (by decide +kernel) (pa_cons (pe_dget hu (pe_fld (pv 0) rfl) (pv 1) (fun _ _ => rfl)) pa_nil)))), ?_⟩
    refine ⟨_, rfl, m, dx, _, rfl, h1, rfl, _, rfl, m, t, w, r, i, B, S, rfl, D, fun c => ?_, k2⟩
    have q := k1 c
    have hj : i - (1 + t) < t + w + r := by omega
    have ei : ((1 + t : Nat) : Int) + ((i - (1 + t) : Nat) : Int) = (i : Int) := by omega
    have g : DGet H B.td (.int (i : Int)) (some (.ref (B.tl (i - (1 + t))))) := by
      have := DGet.k (k := (Sum.inl (i : Int) : Key)) D.tr.d
      rw [← ei, kv_val _ _ _ _ hj, ei] at this
      exact this
    exact ⟨_, rfl, m, M, dx, _, _, rfl, h1, TM.cl, TM.nT, rfl, _, rfl, B.td, _, rfl, g, B.tl (i - (1 + t)), _, rfl, .inl (SqL.of (D.tr.l _ hj)), q⟩
end
end Dk

set_option maxHeartbeats 4000000
/-! the tape of a law -/
namespace Dk
open PySem PySem.Spec PyProof.Rows L2
abbrev sTape : Stmt := top 28
abbrev sAt : Stmt := top 29
def Small (ms : List Int) : Prop := ∀ v, v ∈ ms → 0 ≤ v ∧ v < 1000
theorem Small.snoc {ms : List Int} {v : Int} (h : Small ms) (a : 0 ≤ v) (b : v < 1000) : Small (ms ++ [v]) := fun x hx => by
  rcases List.mem_append.mp hx with m | m
  · exact h x m
  · rw [List.mem_singleton.mp m]
    exact ⟨a, b⟩
def atD (ms : List Int) (k : Nat) : Int := (ms[k]?).getD 0
theorem atD_small {ms : List Int} {k : Nat} (h : Small ms) : 0 ≤ atD ms k ∧ atD ms k < 1000 := by
  unfold atD
  cases e : ms[k]? with
  | none => exact ⟨by decide, by decide⟩
  | some v => exact h v (List.mem_of_getElem? e)
def spTape (K : PySem.W.Frag) : Sp := fun vs H Q _ => ∃ (a : Addr) (ns : List Int), vs = [.ref a] ∧ SqL K H a (ns.map V.int) ∧ ns.length ≤ 63 ∧
  ∀ (p : Addr) (ms : List Int) (H' : Hp), H p = none → H' p = some (.lst (ms.map V.int)) → Small ms → ms.length ≤ 3780 → Same H H' → Q (.ref p) H'
def spAt (K : PySem.W.Frag) : Sp := fun vs H Q _ => ∃ (p : Addr) (ms : List Int) (k : Nat), vs = [.ref p, .int (k : Int)] ∧ SqL K H p (ms.map V.int) ∧ Q (.int (atD ms k)) H
section
variable {P : Program} {w : World} {K : PySem.W.Frag} {mg : Str → Option Value} {base : Heap}
theorem scTape : FnScope ["script", "tape", "k", "value", "step"] ["script"] (defScope sTape) := ⟨rfl, rfl, rfl, by decide +kernel, rfl, by decide +kernel, by decide +kernel⟩
theorem go_tape (F : GT K mg "_law_tape" sTape ["script"]) (T : Bn mg) : GO P w K mg base CX0 1 "_law_tape" ["script"] (spTape K) := by
  obtain ⟨f, fd, F, hm, hb⟩ := F
  refine ⟨f, fd, ?_, hm, F.kp, hb⟩
  refine F.ok scTape (fun vs H Q E h => ?_) (fun cdv A outer s H vs Q E hr h => ?_)
  · obtain ⟨a, ns, rfl, _⟩ := h
    rfl
  · obtain ⟨a, ns, rfl, hS, hlen, k⟩ := h
    have hsl : sizeLine = 16777216 := sizeLine_eq
    refine ⟨_, pss_cons (ps_set (i := 1) scTape.nd rfl (Or.inl rfl) (pe_lst pa_nil))
      (pss_cons (ps_for PassesOwn.never rfl (pi_range1 rfl T.range (pa_cons (pe_callB call_len_seq (by rfl) T.len PySem.boot_len (pa_cons (pv 0) pa_nil)) pa_nil)) (pg_name (i := 2) scTape.nd rfl (Or.inl rfl))
        (pss_cons (ps_set (i := 3) scTape.nd rfl (Or.inl rfl) (pe_callB call_abs (by rfl) T.abs (by decide +kernel) (pa_cons (pe_callTy call_int1 (by rfl) T.int (by decide +kernel) (pa_cons (pe_ix ix_list (pv 0) (pv 2) (fun _ _ => rfl)) pa_nil)) pa_nil)))
        (pss_one (ps_if (pt_cmpR op_ge (pv 3) (pe_op op_pow pe_int pe_int) (nomark _))
          (pss_one (ps_for PassesOwn.never rfl (pi_range1 rfl T.range (pa_cons pe_int pa_nil)) (pg_name (i := 4) scTape.nd rfl (Or.inl rfl))
            (pss_one (ps_if (pt_cmpR op_gt (pv 3) pe_int (nomark _))
              (pss_cons (ps_expr (pe_bm PySem.F.plainAttrs_list PySem.F.slot_list_append PySem.F.type_list_append mt_append (pv 1) (pa_cons (pe_op op_mod (pv 3) pe_int) pa_nil)))
              (pss_one (ps_set (i := 3) scTape.nd rfl (Or.inl rfl) (pe_op op_fdiv (pv 3) pe_int)))) pss_nil))))
          (pss_one (ps_for PassesOwn.never rfl (pi_range1 rfl T.range (pa_cons pe_int pa_nil)) (pg_name (i := 4) scTape.nd rfl (Or.inl rfl))
            (pss_cons (ps_set (i := 3) scTape.nd rfl (Or.inl rfl) (pe_op op_mod (pe_op op_add (pe_op op_add (pe_op op_mul (pv 3) pe_int) (pe_op op_mul pe_int (pe_op op_add (pv 2) pe_int))) (pe_op op_mul pe_int (pv 4))) pe_int))
            (pss_cons (ps_set (i := 3) scTape.nd rfl (Or.inl rfl) (pe_op op_mod (pe_op op_mul (pv 3) pe_int) pe_int))
            (pss_one (ps_expr (pe_bm PySem.F.plainAttrs_list PySem.F.slot_list_append PySem.F.type_list_append mt_append (pv 1) (pa_cons (pe_op op_mod (pe_op op_fdiv (pv 3) pe_int) pe_int) pa_nil))))))))))))
      (pss_one (ps_ret (pv 1)))), ?_⟩
    -- tape = []
    refine ⟨(by show 0 ≤ sizeLine; exact Nat.zero_le _), fun D hD => ?_⟩
    have s0 : Same H (upd H D (.lst [])) := fun b o e => by rw [upd_ne (ne_of_none e hD)]; exact e
    refine ⟨_, rfl, a, _, rfl, .inl (s0.seq hS), _, rfl, (by rw [List.length_map]; omega), (by rw [List.length_map]; omega), for_range (lo := 0) (n := ((ns.map V.int).length : Int).toNat)
      (fun i σ H2 => ∃ (x y z : Option V) (ms : List Int), σ = [some (.ref a), some (.ref D), x, y, z] ∧ H2 D = some (.lst (ms.map V.int)) ∧ Small ms ∧ ms.length ≤ 60 * i ∧ Same H H2) ⟨_, _, _, [], rfl, upd_same, fun v h => by simp at h, by simp, s0⟩ ?_ ?_⟩
    · rintro i σ H2 hi ⟨x, y, z, ms, rfl, hl, sm, len, s2⟩
      have hi' : i < ns.length := by
        rw [List.length_map] at hi
        omega
      have hv : (ns.map V.int)[i]? = some (V.int ns[i]) := by rw [List.getElem?_map, List.getElem?_eq_getElem hi']; rfl
      refine ⟨_, rfl, _, rfl, a, _, _, _, rfl, rfl, s2.seq hS, at_of (j := i) (by omega) hv, .inl ⟨_, rfl, _, rfl, ?_⟩⟩
      generalize hval : (if ns[i] < 0 then -ns[i] else ns[i]) = val
      refine ⟨_, rfl, _, _, rfl, rfl, ⟨by decide, by decide, by decide⟩, _, _, rfl, rfl, _, rfl, ite2 (fun _ => ?_) (fun _ => ?_)⟩
      · refine ⟨60, rfl, by decide, by decide, for_range (lo := 0) (n := (60 : Int).toNat)
          (fun l σ H2 => ∃ (val : Int) (z : Option V) (ms' : List Int), σ = [some (.ref a), some (.ref D), some (.int (0 + (i : Int))), some (.int val), z] ∧ H2 D = some (.lst (ms'.map V.int)) ∧ Small ms' ∧ ms'.length ≤ ms.length + l ∧ Same H H2) ⟨_, _, ms, rfl, hl, sm, by omega, s2⟩ ?_ ?_⟩
        · rintro l σ H3 hl3 ⟨val3, z3, ms3, rfl, hl3', sm3, len3, s3⟩
          refine ⟨_, rfl, _, _, rfl, rfl, _, rfl, ite2 (fun _ => ?_) (fun _ => ?_)⟩
          · refine ⟨_, rfl, .inl ⟨rfl, _, SqL.of hl3'⟩, _, rfl, _, _, rfl, rfl, (by show (0 : Int) < 1000; decide), D, _, _, rfl, rfl, hl3', ?_, ?_⟩
            · rw [List.length_map]
              have : (60 : Int).toNat = 60 := rfl
              omega
            · refine ⟨_, rfl, _, _, rfl, rfl, ⟨by decide, by decide⟩, ?_⟩
              refine ⟨_, _, ms3 ++ [val3 % 1000], rfl, ?_, sm3.snoc (Int.emod_nonneg _ (by decide)) (Int.emod_lt_of_pos _ (by decide)), ?_, fun b o e => ?_⟩
              · rw [upd_same, List.map_append]
                rfl
              · rw [List.length_append, List.length_singleton]
                omega
              · rw [upd_ne (ne_of_none e hD)]
                exact s3 b o e
          · exact ⟨_, _, ms3, rfl, hl3', sm3, by omega, s3⟩
        · rintro σ H3 ⟨val3, z3, ms3, rfl, hl3', sm3, len3, s3⟩
          exact ⟨_, _, _, ms3, rfl, hl3', sm3, (by have : (60 : Int).toNat = 60 := rfl; omega), s3⟩
      · refine ⟨4, rfl, by decide, by decide, for_range (lo := 0) (n := (4 : Int).toNat)
          (fun l σ H2 => ∃ (val : Int) (z : Option V) (ms' : List Int), σ = [some (.ref a), some (.ref D), some (.int (0 + (i : Int))), some (.int val), z] ∧ H2 D = some (.lst (ms'.map V.int)) ∧ Small ms' ∧ ms'.length ≤ ms.length + l ∧ Same H H2) ⟨_, _, ms, rfl, hl, sm, by omega, s2⟩ ?_ ?_⟩
        · rintro l σ H3 hl3 ⟨val3, z3, ms3, rfl, hl3', sm3, len3, s3⟩
          refine ⟨_, rfl, _, _, rfl, rfl, .inr ⟨by decide, by decide⟩, _, rfl, _, _, rfl, rfl, _, _, rfl, rfl, .inl ⟨by decide, by decide⟩, _, _, rfl, rfl, _, rfl, _, _, rfl, rfl, .inl ⟨by decide, by decide⟩, _, _, rfl, rfl, _, _, rfl, rfl, (by show (0 : Int) < 2147483647; decide), ?_⟩
          refine ⟨_, rfl, _, _, rfl, rfl, .inr ⟨by decide, by decide⟩, _, _, rfl, rfl, (by show (0 : Int) < 2147483647; decide), ?_⟩
          refine ⟨_, rfl, .inl ⟨rfl, _, SqL.of hl3'⟩, _, rfl, _, _, rfl, rfl, ⟨by decide, by decide⟩, _, _, rfl, rfl, (by show (0 : Int) < 1000; decide), D, _, _, rfl, rfl, hl3', ?_, ?_⟩
          · rw [List.length_map]
            have : (4 : Int).toNat = 4 := rfl
            omega
          · refine ⟨_, _, ms3 ++ [((val3 * 48271 + 69621 * (0 + (i : Int) + 1) + 7 * (0 + (l : Int))) % 2147483647 * 16807 % 2147483647 / 1000) % 1000], rfl, ?_, sm3.snoc (Int.emod_nonneg _ (by decide)) (Int.emod_lt_of_pos _ (by decide)), ?_, fun b o e => ?_⟩
            · rw [upd_same, List.map_append]
              rfl
            · rw [List.length_append, List.length_singleton]
              omega
            · rw [upd_ne (ne_of_none e hD)]
              exact s3 b o e
        · rintro σ H3 ⟨val3, z3, ms3, rfl, hl3', sm3, len3, s3⟩
          exact ⟨_, _, _, ms3, rfl, hl3', sm3, (by have : (4 : Int).toNat = 4 := rfl; omega), s3⟩
    · rintro σ H2 ⟨x, y, z, ms, rfl, hl, sm, len, s2⟩
      exact ⟨_, rfl, k D ms H2 hD hl sm (by rw [List.length_map] at len; omega) s2⟩
theorem scAt : FnScope ["tape", "k"] ["tape", "k"] (defScope sAt) := ⟨rfl, rfl, rfl, by decide +kernel, rfl, by decide +kernel, by decide +kernel⟩
theorem go_at (F : GT K mg "_law_at" sAt ["tape", "k"]) (T : Bn mg) : GO P w K mg base CX0 1 "_law_at" ["tape", "k"] (spAt K) := by
  obtain ⟨f, fd, F, hm, hb⟩ := F
  refine ⟨f, fd, ?_, hm, F.kp, hb⟩
  refine F.ok scAt (fun vs H Q E h => ?_) (fun cdv A outer s H vs Q E hr h => ?_)
  · obtain ⟨p, ms, k, rfl, _⟩ := h
    rfl
  · obtain ⟨p, ms, i, rfl, hS, k⟩ := h
    refine ⟨_, pss_cons (ps_if (pt_cmpR op_lt (pv 1) (pe_callB call_len_seq (by rfl) T.len PySem.boot_len (pa_cons (pv 0) pa_nil)) (nomark _)) (pss_one (ps_ret (pe_ix ix_list (pv 0) (pv 1) (fun _ _ => rfl)))) pss_nil)
      (pss_one (ps_ret pe_int)), ?_⟩
    refine ⟨_, rfl, _, rfl, p, _, rfl, .inl hS, _, _, rfl, rfl, _, rfl, ite2 (fun c => ?_) (fun c => ?_)⟩
    · have hi : i < ms.length := by
        have c := of_decide_eq_true c
        rw [List.length_map] at c
        omega
      have hv : (ms.map V.int)[i]? = some (V.int ms[i]) := by rw [List.getElem?_map, List.getElem?_eq_getElem hi]; rfl
      have ea : atD ms i = ms[i] := by unfold atD; rw [List.getElem?_eq_getElem hi]; rfl
      rw [ea] at k
      exact ⟨_, rfl, _, rfl, p, _, _, _, rfl, rfl, hS, atI_nat hv, k⟩
    · have hi : ¬ i < ms.length := fun h => c (decide_eq_true (by rw [List.length_map]; omega))
      have ea : atD ms i = 0 := by unfold atD; rw [List.getElem?_eq_none (by omega)]; rfl
      rw [ea] at k
      exact k
end
end Dk

set_option maxHeartbeats 4000000
/-! match over a tuple whose first item is a text -/
namespace Dk
open PySem PySem.Spec PyProof.Rows L2
/-- the captures of a pattern: names, each in its slot -/
inductive Caps (X : Cx) : List Pattern → List Str → List Nat → Prop where
  | nil : Caps X [] [] []
  | cons {n : Str} {i : Nat} {pos : Pos} {ps : List Pattern} {ns : List Str} {is : List Nat} (hi : X.N[i]? = some n) (hl : X.env.scope.names.lookup n = some .local) (h : Caps X ps ns is) : Caps X (.MatchAs none (some n) pos :: ps) (n :: ns) (i :: is)
theorem Caps.len {X : Cx} {ps : List Pattern} {ns : List Str} {is : List Nat} (h : Caps X ps ns is) : ns.length = ps.length ∧ is.length = ps.length := by
  induction h with
  | nil => exact ⟨rfl, rfl⟩
  | cons _ _ _ ih => exact ⟨by simp [ih.1], by simp [ih.2]⟩
theorem Caps.noStar {X : Cx} {ps : List Pattern} {ns : List Str} {is : List Nat} (h : Caps X ps ns is) : ∀ p, p ∈ ps → p.isStar = false := by
  induction h with
  | nil => intro p hp; cases hp
  | cons _ _ _ ih =>
    intro p hp
    rcases List.mem_cons.mp hp with e | m
    · subst e
      rfl
    · exact ih p m
/-- the slots stored one after the other -/
def setAll : L2.St → List Nat → List V → L2.St
  | σ, i :: is, v :: vs => setAll (σ.set i (some v)) is vs
  | σ, _, _ => σ
section
variable {X : Cx}
theorem caps_match {A : Around} {E : Value → Shared → Prop} {s : Shared} {Q : Option (List (Str × Value)) → Shared → Prop} {ps : List Pattern} {ns : List Str} {is : List Nat} (h : Caps X ps ns is) :
    ∀ {us : List Value}, us.length = ps.length → Q (some (ns.zip us)) s → wpAny (model X.prog X.w) A (matchEach ps X.env us) Q E s := by
  induction h generalizing Q with
  | nil =>
    intro us hl q
    cases us with
    | nil => exact wpAny_matchEach_nil q
    | cons _ _ => cases hl
  | @cons n i pos ps ns is hi hl h ih =>
    intro us hlen q
    cases us with
    | nil => cases hlen
    | cons u us =>
      refine wpAny_matchEach_cons (wpAny_matchPattern_Capture ?_)
      exact ih (by simpa using hlen) q
theorem caps_assign {ps : List Pattern} {ns : List Str} {is : List Nat} (h : Caps X ps ns is) (hN : X.N.Nodup) : ∀ {pins : List (Addr × Obj)} {s : Shared} {σ : L2.St} {H : Hp} {E : Value → Shared → Prop} {Q : Unit → Shared → Prop} {vs : List V} {us : List Value}, Inv X pins σ H s → Vals vs us → us.length = ns.length →
    (∀ s', Inv X pins (setAll σ is vs) H s' → Q () s') → wpAny (model X.prog X.w) X.A (assignInOrder ((ns.zip us).map fun (n, _) => bindName X.env n) ((ns.zip us).map (·.2))) Q E s := by
  induction h with
  | nil =>
    intro pins s σ H E Q vs us I r hl q
    refine wpAny_assignInOrder_none (q s ?_)
    cases vs <;> exact I
  | @cons n i pos ps ns is hi hl h ih =>
    intro pins s σ H E Q vs us I r hlen q
    cases r with
    | nil => cases hlen
    | @cons v u vs us rv rs =>
      show wpAny _ _ (assignInOrder ((fun (n, _) => bindName X.env n) (n, u) :: (ns.zip us).map fun (n, _) => bindName X.env n) (u :: (ns.zip us).map (·.2))) _ _ _
      refine wpAny_assignInOrder_more ?_
      show wpAny _ _ (bindName X.env n u) _ _ _
      refine wpAny_bindName (store_ok I hN hi (.inl hl) rv (fun s1 I1 => ?_) (.inr hl))
      exact ih I1 rs (by simpa using hlen) q
/-- the cases of a match whose subject is a tuple -/
structure PMs (X : Cx) (cs : List MatchCase) (t : Addr → List V → TS) : Prop where
  run : ∀ (fst : Bool) (pins : List (Addr × Obj)) (s : Shared) (σ : L2.St) (H : Hp) (D : Ends) (a : Addr) (xs : List V), Inv X pins σ H s → SqT X.K H a xs → t a xs D σ H → wpAny (model X.prog X.w) X.A (matchCases cs X.env (.ref a) fst) (SP X pins D) X.xe s
def mNil : Addr → List V → TS := fun _ _ D σ H => D.nx σ H
theorem pms_nil : PMs X [] mNil := ⟨fun fst pins s σ H D a xs I q h => wpAny_matchCases_nil ⟨σ, H, I, h⟩⟩
/-- case ("kind", a, b, ..) -/
def mCase (kind : Str) (is : List Nat) (tb : TS) (tr : Addr → List V → TS) : Addr → List V → TS := fun a xs D σ H =>
  if xs.length = is.length + 1 then ∃ z ys, xs = .str z :: ys ∧ (if z = kind then tb D (setAll σ is ys) H else tr a xs D σ H) else tr a xs D σ H
theorem pms_case {kind : Str} {j : Nat} {p1 p2 pos : Pos} {ps : List Pattern} {ns : List Str} {is : List Nat} {body : List Stmt} {rest : List MatchCase} {tb : TS} {tr : Addr → List V → TS} (hc : X.calm = true) (hN : X.N.Nodup) (h : Caps X ps ns is) (hb : PSs X body tb) (hr : PMs X rest tr) :
    PMs X (⟨.MatchSequence (.MatchValue (.Constant (.str kind) j p1) p2 :: ps) pos, none, body⟩ :: rest) (mCase kind is tb tr) := by
  refine ⟨fun fst pins s σ H D a xs I q hw => ?_⟩
  obtain ⟨its, rv, ht, hz⟩ := I.tuple q
  have hsl : sizeLine = 16777216 := sizeLine_eq
  have hfit : ((its.toArray.size : Nat) : Int) < 2 ^ 63 := by
    rw [List.size_toArray, ← rv.length]
    omega
  have hstar : (Pattern.MatchValue (.Constant (.str kind) j p1) p2 :: ps).findIdx? (·.isStar) = none := by
    refine List.findIdx?_eq_none_iff.mpr fun p hp => ?_
    rcases List.mem_cons.mp hp with e | m
    · subst e
      rfl
    · exact h.noStar p m
  have hwild : ((Pattern.MatchValue (.Constant (.str kind) j p1) p2 :: ps).all fun p => p.isWildcard || (p.isStar && p.names.isEmpty)) = false := by
    rw [List.all_cons]
    rfl
  unfold mCase at hw
  refine wpAny_matchCases_cons ?_
  by_cases hlen : xs.length = is.length + 1
  · rw [if_pos hlen] at hw
    obtain ⟨z, ys, rfl, hw⟩ := hw
    have hsz : its.toArray.size = (Pattern.MatchValue (.Constant (.str kind) j p1) p2 :: ps).length := by
      rw [List.size_toArray, ← rv.length, hlen, h.len.2]
      rfl
    refine matchSeq_tuple_hit ht hfit hsz ?_ hstar hwild
    have ht' : IsTup (({ s with toks := s.toks + 1 + 1 } : Shared)).heap a its.toArray := ht
    rw [← hsz]
    refine unpackItems_tuple (I.ok.hd hc) ht' fun h' hx => ?_
    have I1 : Inv X pins σ H { s with heap := h', toks := s.toks + 1 + 1 } := I.kept (t' := s.toks + 1 + 1) fun b o e => hx b o (Nat.ne_of_lt (Heap.lt_size e)) e
    show wpAny _ _ (matchEach _ _ its.toArray.toList) _ _ _
    rw [List.toList_toArray]
    cases rv with
    | @cons _ u _ us ru rs =>
      refine wpAny_matchEach_cons ?_
      refine wpAny_matchPattern_Value ?_
      refine thn ((pe_str (X := X) (x := kind) (j := j) (pos := p1)).run pins _ σ H (fun y H1 => y = .str kind ∧ H1 = H) I1 ⟨rfl, rfl⟩) fun ku s2 ⟨y, H2, I2, r2, ey, eH⟩ => ?_
      subst ey
      subst eH
      refine thn (op_eq pins s2 σ H2 (.str z) (.str kind) u ku (fun c H3 => c = .bl (decide (V.str z = V.str kind)) ∧ H3 = H2) I2 ru r2 ⟨rfl, rfl, rfl⟩) fun cv s3 ⟨c, H3, I3, r3, ec, eH⟩ => ?_
      subst ec
      subst eH
      cases r3
      refine wpAny_truthy_bool ?_
      have hus : us.length = ps.length := by
        have := rs.length
        have := h.len.2
        simp only [List.length_cons] at hlen
        omega
      by_cases hk : z = kind
      · rw [if_pos hk] at hw
        subst hk
        have et : decide (V.str z = V.str z) = true := decide_eq_true rfl
        rw [if_pos et]
        refine caps_match h hus ?_
        show wpAny _ _ (assignInOrder (((ns.zip us)).map fun (n, _) => bindName X.env n) ((ns.zip us).map (·.2))) _ _ _
        refine caps_assign h hN I3 rs (by rw [hus, h.len.1]) fun s4 I4 => ?_
        exact hb.run pins s4 _ _ D I4 hw
      · rw [if_neg hk] at hw
        have et : decide (V.str z = V.str kind) = false := decide_eq_false fun e => hk (V.str.inj e)
        rw [if_neg (by rw [et]; exact Bool.false_ne_true)]
        exact hr.run false pins s3 σ _ D a _ I3 q hw
  · rw [if_neg hlen] at hw
    have hsz : its.toArray.size ≠ (Pattern.MatchValue (.Constant (.str kind) j p1) p2 :: ps).length := by
      rw [List.size_toArray, ← rv.length]
      have := h.len.2
      simp only [List.length_cons]
      omega
    exact matchSeq_tuple_miss ht hfit hsz (hr.run false pins _ σ H D a xs (I.tok _) q hw) hstar hwild
/-- match e: .. -/
def tMatch (K : PySem.W.Frag) (te : TE) (tm : Addr → List V → TS) : TS := fun D σ H => te σ H fun x H1 => ∃ a xs, x = .ref a ∧ SqT K H1 a xs ∧ tm a xs D σ H1
theorem ps_match {e : Expr} {te : TE} {cs : List MatchCase} {tm : Addr → List V → TS} {pos : Pos} (he : PE X e te) (hm : PMs X cs tm) : PS X (.Match e cs pos) (tMatch X.K te tm) := by
  refine ⟨fun pins s σ H D I h => ?_⟩
  refine wpAny_Match (thn (he.run pins s σ H _ I h) fun u s1 ⟨x, H1, I1, r1, a, xs, ex, q, hw⟩ => ?_)
  subst ex
  cases r1
  exact hm.run true pins s1 σ H1 D a xs I1 q hw
end
end Dk

set_option maxHeartbeats 4000000
/-! del xs[a:c] -/
namespace Dk
open PySem PySem.Spec PyProof.Rows L2
def mySel (start stop step : Int) (i : Nat) : Bool :=
  if step > 0 then decide (start ≤ i) && decide ((i : Int) < stop) && ((i : Int) - start) % step == 0
  else decide (stop < i) && decide ((i : Int) ≤ start) && (start - (i : Int)) % (-step) == 0
theorem mySel_one {a c k : Nat} : mySel (a : Int) (c : Int) 1 k = (decide (a ≤ k) && decide (k < c)) := by
  unfold mySel
  rw [if_pos (by decide), Int.emod_one]
  have e1 : decide ((a : Int) ≤ (k : Int)) = decide (a ≤ k) := decide_eq_decide.mpr (by omega)
  have e2 : decide ((k : Int) < (c : Int)) = decide (k < c) := decide_eq_decide.mpr (by omega)
  rw [e1, e2]
  simp
def keepF (a c : Nat) : Value × Nat → Option Value := fun p => if mySel (a : Int) (c : Int) 1 p.2 = true then none else some p.1
theorem kept_eq {a c : Nat} (hac : a ≤ c) : ∀ (l : List Value) (m : Nat), (l.zipIdx m).filterMap (keepF a c) = l.take (a - m) ++ l.drop (c - m)
  | [], m => by simp
  | x :: l, m => by
    have ih := kept_eq hac l (m + 1)
    rw [List.zipIdx_cons, List.filterMap_cons]
    by_cases h1 : m < a
    · have e : keepF a c (x, m) = some x := by
        unfold keepF
        rw [mySel_one, decide_eq_false (by omega)]
        rfl
      rw [e, show a - m = (a - (m + 1)) + 1 by omega, show c - m = (c - (m + 1)) + 1 by omega]
      show x :: (l.zipIdx (m + 1)).filterMap (keepF a c) = _
      rw [ih]
      rfl
    · by_cases h2 : m < c
      · have e : keepF a c (x, m) = none := by
          unfold keepF
          rw [mySel_one, decide_eq_true (by omega), decide_eq_true h2]
          rfl
        rw [e, show a - m = 0 by omega, show c - m = (c - (m + 1)) + 1 by omega]
        show (l.zipIdx (m + 1)).filterMap (keepF a c) = _
        rw [ih, show a - (m + 1) = 0 by omega]
        rfl
      · have e : keepF a c (x, m) = some x := by
          unfold keepF
          rw [mySel_one, decide_eq_false (p := m < c) h2, Bool.and_false]
          rfl
        rw [e, show a - m = 0 by omega, show c - m = 0 by omega]
        show x :: (l.zipIdx (m + 1)).filterMap (keepF a c) = _
        rw [ih, show a - (m + 1) = 0 by omega, show c - (m + 1) = 0 by omega]
        rfl
section
variable {prog : Program} {w : World} {A : Around} {E : Value → Shared → Prop} {s : Shared}
theorem delItem_slice {l sl : Addr} {items : Array Value} {n : Nat} {vl vu : Value} {lo hi : Option Int} {a c : Nat} {Q : Unit → Shared → Prop}
    (e : s.heap.get? l = some { cls := .type "list", data := .seq items n }) (hs : s.heap.IsSliceOf sl vl vu .none) (pl : IsPart vl lo) (pu : IsPart vu hi) (hb : sliceBounds lo hi none items.size = ((a : Int), (c : Int), 1)) (hac : a ≤ c)
    (hsz : items.size ≤ sizeLine) (h : ∀ f : Array Value → Array Value, f items = (items.toList.take a ++ items.toList.drop c).toArray → Q () { s with heap := s.heap.update l (Obj.mapSeq f) }) :
    wpAny (model prog w) A (delItem (.ref l) (.ref sl)) Q E s := by
  have hl : s.heap.IsList l items := PySem.IsL.isList e
  obtain ⟨os, hos, hcs, hds⟩ := id hs
  have hTs : s.TypeIs (.ref sl) "slice" := ⟨os, hos, hcs⟩
  have hstep : ¬ ((rawPart none == rawInt 0) = true) := Bool.false_ne_true
  refine PySem.wpAny_delItem_slot hl.typeIs (by decide) PySem.F.slot_list_delitem ?_
  refine wpAny_call_entry PySem.F.slot_list_delitem hl.typeIs PySem.F.entry_list_delitem ?_ (PySem.F.args_list_delitem_2 _ _)
  show wpAny _ _ (Builtin.List.listSubscript? (.ref sl) >>= _) _ _ s
  refine wpAny_bind ?_
  unfold Builtin.List.listSubscript?
  refine wpAny_bind (wpAny_specialOf hTs slice_no_index ?_)
  simp only [Option.isNone_none, if_true]
  refine wpAny_pure ?_
  show wpAny _ _ (typeOf (.ref sl) >>= _) _ _ s
  refine wpAny_bind (wpAny_typeOf hTs ?_)
  first
    | rw [if_neg (by decide)]
    | refine PySem.W.KFB.if_not (by decide) ?_
  rw [listSliceParts_eq]
  refine wpAny_bind (wpAny_bind (wpAny_field hos hds (x := .none) rfl (wpAny_bind (wpAny_listPart .none ?_))))
  rw [if_neg hstep]
  refine wpAny_bind (wpAny_field hos hds (x := vl) rfl (wpAny_bind (wpAny_listPart pl ?_)))
  refine wpAny_bind (wpAny_field hos hds (x := vu) rfl (wpAny_bind (wpAny_listPart pu (wpAny_pure ?_))))
  refine wpAny_bind (m := Builtin.List.listItems (.ref l)) ?_
  unfold Builtin.List.listItems
  refine wpAny_bind (wpAny_seqItems e rfl (wpAny_pure ?_))
  refine wpAny_bind (wpAny_of_eq ((sliceIndices_raw lo hi none items.size (by simp)).trans (congrArg (pure : Int × Int × Int → Sem (Int × Int × Int)) hb)) ?_)
  refine wpAny_bind (wpAny_rule ?_)
  have hf : (fun xs : Array Value => (xs.toList.zipIdx.filterMap (keepF a c)).toArray) items = (items.toList.take a ++ items.toList.drop c).toArray := by
    show (items.toList.zipIdx.filterMap (keepF a c)).toArray = _
    rw [kept_eq hac]
    rfl
  have hz' : ((fun xs : Array Value => (xs.toList.zipIdx.filterMap (keepF a c)).toArray) items).size ≤ sizeLine + 1 := by
    rw [hf, List.size_toArray, List.length_append, List.length_take, List.length_drop, Array.length_toList]
    omega
  show wpAny _ _ (updateSeq l (fun xs => (xs.toList.zipIdx.filterMap (keepF a c)).toArray) >>= _) _ _ s
  refine wpAny_bind (wpAny_updateSeq (hz := hsz) (_hz' := hz') e rfl ?_)
  refine wpAny_bind (wpAny_letGo ?_)
  first
    | exact wpAny_pure ⟨_, rfl, h _ hf⟩
    | exact wpAny_pure ⟨.none, rfl, wpAny_pure (h _ hf)⟩
    | exact wpAny_bind (wpAny_pure (wpAny_pure ⟨.none, rfl, h _ hf⟩))
end
theorem bounds_head {c n : Nat} (hc : c ≤ n) : sliceBounds none (some (c : Int)) none n = (((0 : Nat) : Int), (c : Int), 1) := by
  simp only [sliceBounds, Option.getD_none]
  have h2 : ¬ ((c : Int) < 0) := by omega
  simp only [h2, if_false, show (1 : Int) > 0 by decide, if_true]
  congr 1
  congr 1; omega
theorem bounds_tail {a n : Nat} (ha : a ≤ n) : sliceBounds (some (a : Int)) none none n = ((a : Int), (n : Int), 1) := by
  simp only [sliceBounds, Option.getD_none]
  have h1 : ¬ ((a : Int) < 0) := by omega
  simp only [h1, if_false, show (1 : Int) > 0 by decide, if_true]
  congr 1
  omega
section
variable {X : Cx}
/-- del xs[lo:hi] -/
def tDelSl (to : TE) (tl th : TO) : TS := fun D σ H => to σ H fun x H1 => tl σ H1 fun lo H2 => th σ H2 fun hi H3 => ∃ (l : Addr) (xs : List V) (a c : Nat), x = .ref l ∧ H3 l = some (.lst xs) ∧ sliceBounds lo hi none xs.length = ((a : Int), (c : Int), 1) ∧ a ≤ c ∧
  D.nx σ (upd H3 l (.lst (xs.take a ++ xs.drop c)))
theorem ps_delSl {o : Expr} {lo hi : Option Expr} {to : TE} {tl th : TO} {p2 tpos pos : Pos} (ho : PE X o to) (hl : PO X lo tl) (hu : PO X hi th) : PS X (.Delete [.Subscript o (.Slice lo hi none p2) tpos] pos) (tDelSl to tl th) := by
  refine ⟨fun pins s σ H D I h => ?_⟩
  refine wpAny_Delete (wpAny_deleteEach_cons (wpAny_delete_Subscript (thn (ho.run pins s σ H _ I h) fun u s1 ⟨x, H1, I1, rx, q1⟩ => ?_)))
  refine wpAny_Slice (thn (hl.run pins s1 σ H1 _ I1 q1) fun vl s2 ⟨lo', H2, I2, pl, q2⟩ => thn (hu.run pins s2 σ H2 _ I2 q2) fun vu s3 ⟨hi', H3, I3, pu, q3⟩ => ?_)
  rw [evalPart_none]
  refine wpAny_pure ?_
  have I4 : Inv X pins σ H3 { s3 with heap := s3.heap.push { cls := .type "slice", data := .fields #[vl, vu, .none] } } := I3.kept (t' := s3.toks) fun b ob q => Heap.get?_push_of_some _ q
  obtain ⟨l, xs, a, c, rfl, hH, hb, hac, q⟩ := q3
  cases rx
  obtain ⟨z, its, n, r, hlen, e⟩ := I4.lstM hH
  show wpAny (model X.prog X.w) X.A (delItem (.ref l) (.ref s3.heap.objs.size)) _ _ _
  refine delItem_slice (a := a) (c := c) e (Heap.IsSliceOf.new ..) pl pu (by rw [List.size_toArray, ← hlen]; exact hb) hac (by rw [List.size_toArray]; omega) fun f hf => ?_
  refine wpAny_deleteEach_nil ⟨σ, _, I4.lset (its' := its.take a ++ its.drop c) (t' := s3.toks) hH e ?_ (Vals.append (r.take _) (r.drop _)) ?_, q⟩
  · exact hf
  · rw [List.length_append, List.length_take, List.length_drop]
    omega
end
end Dk

set_option maxHeartbeats 4000000
/-! values that are no tuples; what an access may be -/
namespace Dk
open PySem PySem.Spec PyProof.Rows L2
abbrev sIsValue : Stmt := top 11
abbrev sIsSame : Stmt := top 12
abbrev sIsAcc : Stmt := top 17
theorem iteD {c A B : Prop} [Decidable c] (hc : c) (h : A) : if decide c = true then A else B := by
  rw [decide_eq_true hc]
  exact iteT h
theorem iteND {c A B : Prop} [Decidable c] (hc : ¬ c) (h : B) : if decide c = true then A else B := by
  rw [decide_eq_false hc]
  exact iteF h
theorem iteNT {c A B : Prop} [Decidable c] (hc : ¬ c) (h : A) : if (!decide c) = true then A else B := by
  rw [decide_eq_false hc]
  exact iteT h
def manyB : V → Bool
  | .int i => decide (0 ≤ i)
  | _ => false
theorem notTup {x : V} {t : String} (h : vty x = some t) : kitB t "tuple" = some false := by
  cases x <;> cases h <;> decide +kernel
def isB : V → Bool
  | .bl _ => true
  | _ => false
theorem kit_bool {x : V} {t : String} (h : vty x = some t) : kitB t "bool" = some (isB x) := by
  cases x with
  | non => cases h; show kitB "NoneType" "bool" = some false; decide +kernel
  | bl b => cases h; show kitB "bool" "bool" = some true; decide +kernel
  | int i => cases h; show kitB "int" "bool" = some false; decide +kernel
  | str y => cases h; show kitB "str" "bool" = some false; decide +kernel
  | _ => cases h
theorem kit_ok {x : V} {t : String} (h : vty x = some t) (hx : x ≠ .non) (K : PySem.W.Frag) : PySem.W.kitAny K (.type t) [.type "bool", .type "int", .type "str"] = some true := by
  cases x with
  | non => exact absurd rfl hx
  | bl b =>
    cases h
    exact kitAny_cons (b := true) (kit_ty (by decide +kernel)) (fun z => nomatch z) fun _ => rfl
  | int i =>
    cases h
    exact kitAny_cons (b := false) (kit_ty (by decide +kernel)) (fun _ => kitAny_cons (b := true) (kit_ty (by decide +kernel)) (fun z => nomatch z) fun _ => rfl) fun z => nomatch z
  | str y =>
    cases h
    exact kitAny_cons (b := false) (kit_ty (by decide +kernel)) (fun _ => kitAny_cons (b := false) (kit_ty (by decide +kernel)) (fun _ => kitAny_cons (b := true) (kit_ty (by decide +kernel)) (fun z => nomatch z) fun _ => rfl) fun z => nomatch z) fun z => nomatch z
  | _ => cases h
section
variable {P : Program} {w : World} {K : PySem.W.Frag} {mg : Str → Option Value} {base : Heap} {C M NV LE : Addr}
theorem scIsValue : FnScope ["value", "waiting", "part"] ["value"] (defScope sIsValue) := ⟨rfl, rfl, rfl, by decide +kernel, rfl, by decide +kernel, by decide +kernel⟩
theorem scIsSame : FnScope ["one", "other", "waiting", "left", "right"] ["one", "other"] (defScope sIsSame) := ⟨rfl, rfl, rfl, by decide +kernel, rfl, by decide +kernel, by decide +kernel⟩
theorem scal_flat {x y : V} {t u : String} (hx : vty x = some t) (hy : vty y = some u) (hb : isB x = isB y) : scal x y = true := by
  cases x <;> cases hx <;> cases y <;> cases hy <;> first | rfl | cases hb
end
end Dk

set_option maxHeartbeats 4000000
/-! is_value of nested tuples -/
namespace Dk
open PySem PySem.Spec PyProof.Rows L2
/-- the shape of a value of a cell -/
inductive Tr where
  | sc (v : V)
  | tup (l : List Tr)
mutual
def Tr.sz : Tr → Nat
  | .sc _ => 1
  | .tup l => 1 + szs l
def szs : List Tr → Nat
  | [] => 0
  | t :: l => t.sz + szs l
end
theorem _root_.L2.SqT.same {K : PySem.W.Frag} {H H' : Hp} {a : Addr} {xs : List V} (h : SqT K H a xs) (s : Same H H') : SqT K H' a xs :=
  h.elim (fun h => .inl (h.elim (fun h => .inl (s _ _ h)) fun ⟨o, h⟩ => .inr ⟨o, s _ _ h⟩)) fun h => .inr h
theorem tyT {K : PySem.W.Frag} {H : Hp} {a : Addr} {xs : List V} (h : SqT K H a xs) : TyX K H (.ref a) (.type "tuple") := by
  rcases h with (h | ⟨o, h⟩) | ⟨o, its, n, h, c, _⟩
  · exact .base (.tup h)
  · exact .fTuple h
  · exact .kTuple h c
mutual
inductive DV (K : PySem.W.Frag) (H : Hp) : V → Tr → Prop
  | sc {v : V} {t : String} : vty v = some t → DV K H v (.sc v)
  | tup {a : Addr} {xs : List V} {l : List Tr} : SqT K H a xs → DVs K H xs l → DV K H (.ref a) (.tup l)
inductive DVs (K : PySem.W.Frag) (H : Hp) : List V → List Tr → Prop
  | nil : DVs K H [] []
  | cons {x : V} {xs : List V} {t : Tr} {l : List Tr} : DV K H x t → DVs K H xs l → DVs K H (x :: xs) (t :: l)
end
mutual
theorem DV.ext {K : PySem.W.Frag} {H H' : Hp} (s : Same H H') : ∀ (t : Tr) (v : V), DV K H v t → DV K H' v t
  | .sc _, _, h => by
    cases h with
    | sc e => exact .sc e
  | .tup l, _, h => by
    cases h with
    | tup e d => exact .tup (e.same s) (DVs.ext s l _ d)
theorem DVs.ext {K : PySem.W.Frag} {H H' : Hp} (s : Same H H') : ∀ (l : List Tr) (xs : List V), DVs K H xs l → DVs K H' xs l
  | [], _, h => by
    cases h
    exact .nil
  | t :: l, _, h => by
    cases h with
    | cons d e => exact .cons (DV.ext s t _ d) (DVs.ext s l _ e)
end
theorem sz_pos (t : Tr) : 0 < t.sz := by
  cases t with
  | sc v => show 0 < 1; decide
  | tup l => show 0 < 1 + szs l; omega
theorem DVs.len {K : PySem.W.Frag} {H : Hp} : ∀ {xs : List V} {l : List Tr}, DVs K H xs l → xs.length = l.length ∧ xs.length ≤ szs l
  | _, _, .nil => ⟨rfl, Nat.le_refl _⟩
  | _, _, .cons (t := t) (l := l) d e => by
    have h := DVs.len e
    have p := sz_pos t
    refine ⟨by rw [List.length_cons, List.length_cons, h.1], ?_⟩
    show _ + 1 ≤ t.sz + szs l
    omega
theorem szs_app : ∀ (a b : List Tr), szs (a ++ b) = szs a + szs b
  | [], b => by show szs b = 0 + szs b; omega
  | t :: a, b => by
    show t.sz + szs (a ++ b) = t.sz + szs a + szs b
    rw [szs_app a b]
    omega
theorem DVs.app {K : PySem.W.Frag} {H : Hp} : ∀ {xs ys : List V} {l m : List Tr}, DVs K H xs l → DVs K H ys m → DVs K H (xs ++ ys) (l ++ m)
  | _, _, _, _, .nil, e => e
  | _, _, _, _, .cons d f, e => .cons d (DVs.app f e)
theorem DVs.last {K : PySem.W.Frag} {H : Hp} : ∀ {xs : List V} {l : List Tr} {y : V}, DVs K H xs l → xs[xs.length - 1]? = some y → ∃ m t, DVs K H xs.dropLast m ∧ DV K H y t ∧ szs l = szs m + t.sz
  | _, _, _, .nil, h => by simp at h
  | _, _, y, .cons (x := x) (xs := []) (t := t) d .nil, h => by
    have h : some x = some y := h
    cases h
    exact ⟨[], t, .nil, d, by show t.sz + 0 = 0 + t.sz; omega⟩
  | _, _, y, .cons (x := x) (xs := x2 :: xs) (t := t) (l := l) d e, h => by
    have h' : (x2 :: xs)[(x2 :: xs).length - 1]? = some y := h
    obtain ⟨m, t2, q1, q2, q3⟩ := DVs.last e h'
    exact ⟨t :: m, t2, .cons d q1, q2, by show t.sz + szs l = t.sz + szs m + t2.sz; omega⟩
theorem while_rel {c : TT} {tb : TS} {D : Ends} {σ : L2.St} {H : Hp} (W : Nat → L2.St → Hp → Prop) (h0 : ∃ m, W m σ H)
    (hs : ∀ m σ H, W m σ H → c σ H fun b H1 => if b = true then tb { D with nx := fun σ' H' => ∃ m', m' < m ∧ W m' σ' H', ct := fun σ' H' => ∃ m', m' < m ∧ W m' σ' H', bk := D.nx } σ H1 else D.nx σ H1)
    (mono : ∀ σ H Q Q', (∀ b H1, Q b H1 → Q' b H1) → c σ H Q → c σ H Q') : tWhile c tb D σ H := by
  refine ⟨W, h0, fun m σ H w => mono σ H _ _ (fun b H1 q => ?_) (hs m σ H w)⟩
  cases b with
  | true => exact ⟨_, fun σ' H' h => h, q⟩
  | false => exact q
/-- any value of a cell -/
def spIsValueD (K : PySem.W.Frag) : Sp := fun vs H Q _ => ∃ v t, vs = [v] ∧ DV K H v t ∧ t.sz < sizeLine ∧ ∀ H', Same H H' → Q (.bl true) H'
section
variable {P : Program} {w : World} {K : PySem.W.Frag} {mg : Str → Option Value} {base : Heap} {C M NV LE : Addr}
theorem go_isvalueD (F : GT K mg "is_value" sIsValue ["value"]) (T : Bn mg) : GO P w K mg base CX0 1 "is_value" ["value"] (spIsValueD K) := by
  obtain ⟨f, fd, F, hm, hb⟩ := F
  refine ⟨f, fd, ?_, hm, F.kp, hb⟩
  refine F.ok scIsValue (fun vs H Q E h => ?_) (fun cdv A outer s H vs Q E hr h => ?_)
  · obtain ⟨v, t, rfl, _⟩ := h
    rfl
  · obtain ⟨v, t, rfl, hd, hz, k⟩ := h
    refine ⟨_, pss_cons (ps_set (i := 1) scIsValue.nd rfl (Or.inl rfl) (pe_lst (pa_cons (pv 0) pa_nil)))
      (pss_cons (ps_while PassesOwn.never (pt_truth (pv 1) (by intro _; rfl))
        (pss_cons (ps_set (i := 2) scIsValue.nd rfl (Or.inl rfl) (pe_bm0 PySem.F.plainAttrs_list PySem.F.slot_list_pop PySem.F.type_list_pop mt_pop (pv 1)))
        (pss_one (ps_if (pt_val (pe_callB call_isi (by rfl) T.isi (by decide +kernel) (pa_cons (pv 2) (pa_cons (pe_bltn (v := .ty "tuple") (by rfl) T.tuple (by decide +kernel) rfl) pa_nil))))
          (pss_one (ps_expr (pe_bm PySem.F.plainAttrs_list PySem.F.slot_list_extend PySem.F.type_list_extend mt_extend (pv 1) (pa_cons (pe_callTy call_list_of (by rfl) T.list (by decide +kernel) (pa_cons (pv 2) pa_nil)) pa_nil))))
          (pss_one (ps_if (PW.pt (pw_and (pt_cmpR op_notN (pv 2) pe_non (nomark _)) (pw_and1 (pt_not (pt_val (pe_callB call_isiT (by rfl) T.isi (by decide +kernel) (pa_cons (pv 2) (pa_cons (pe_tup (pa_cons (pe_bltn (v := .ty "bool") (by rfl) T.bool (by decide +kernel) rfl)
            (pa_cons (pe_bltn (v := .ty "int") (by rfl) T.int (by decide +kernel) rfl) (pa_cons (pe_bltn (v := .ty "str") (by rfl) T.str (by decide +kernel) rfl) pa_nil)))) pa_nil))))))))
            (pss_one (ps_ret pe_bl)) pss_nil))))))
      (pss_one (ps_ret pe_bl))), ?_⟩
    refine ⟨_, rfl, (by show 1 ≤ sizeLine; decide), fun D hD => ?_⟩
    have s0 : Same H (upd H D (.lst [v])) := fun b o e => by rw [upd_ne (ne_of_none e hD)]; exact e
    dsimp only [gName, tSeq]
    refine while_rel (fun m σ H2 => Same H H2 ∧ ∃ (p : Option V) (xs : List V) (ts : List Tr), σ = [some v, some (.ref D), p] ∧ H2 D = some (.lst xs) ∧ DVs K H xs ts ∧ m = szs ts ∧ szs ts ≤ t.sz)
      ⟨_, s0, _, [v], [t], rfl, upd_same, .cons hd .nil, rfl, by show t.sz + 0 ≤ t.sz; omega⟩ ?_ ?_
    · rintro m σ H2 ⟨sm, p, xs, ts, rfl, hx, dv, rfl, hle⟩
      cases xs with
      | nil => exact ⟨_, rfl, false, .inl ⟨_, SqL.of hx, rfl⟩, iteF (k _ sm)⟩
      | cons x0 xr =>
        obtain ⟨y, hy⟩ : ∃ y, (x0 :: xr)[(x0 :: xr).length - 1]? = some y := ⟨_, List.getElem?_eq_getElem (by simp)⟩
        obtain ⟨ms, ty, q1, q2, q3⟩ := dv.last hy
        refine ⟨_, rfl, true, .inl ⟨_, SqL.of hx, rfl⟩, iteT ?_⟩
        refine ⟨_, rfl, .inl ⟨rfl, _, SqL.of hx⟩, D, _, y, rfl, rfl, hx, hy, ?_⟩
        have sp : ∀ {H3 : Hp} (l : List V), Same H H3 → Same H (upd H3 D (.lst l)) := fun {H3} l sm b o e => by rw [upd_ne (ne_of_none e hD)]; exact sm b o e
        have sm3 := sp (x0 :: xr).dropLast sm
        have pz := sz_pos ty
        generalize hH3 : upd H2 D (.lst (x0 :: xr).dropLast) = H3 at sm3 ⊢
        have hx3 : H3 D = some (.lst (x0 :: xr).dropLast) := by rw [← hH3]; exact upd_same
        cases q2 with
        | sc ht =>
          refine ⟨_, rfl, _, _, _, _, false, rfl, .ty "tuple", ty_of ht, kit_ty (notTup ht), _, rfl, iteF ?_⟩
          by_cases hn : y = .non
          · refine ⟨_, rfl, rfl, _, rfl, iteNS hn ?_⟩
            exact iteF ⟨_, by omega, sm3, _, _, ms, rfl, hx3, q1, rfl, by omega⟩
          · refine ⟨_, rfl, rfl, _, rfl, ?_⟩
            rw [decide_eq_false hn]
            refine iteT ⟨_, rfl, (by show 3 ≤ sizeLine; decide), fun q hq => ?_⟩
            have qD : D ≠ q := ne_of_none hx3 hq
            refine ⟨_, q, _, _, [.type "bool", .type "int", .type "str"], true, rfl, upd_same, .cons (.ty _) (.cons (.ty _) (.cons (.ty _) .nil)), ty_of ht, kit_ok ht hn K, _, rfl, iteF ?_⟩
            exact ⟨_, by omega, fun b o e => by rw [upd_ne (ne_of_none (sm3 b o e) hq)]; exact sm3 b o e, _, _, ms, rfl, by rw [upd_ne qD]; exact hx3, q1, rfl, by omega⟩
        | tup hq dl =>
          rename_i a ys l
          have ell := dl.len
          have em := q1.len
          have e3 : (Tr.tup l).sz = 1 + szs l := rfl
          refine ⟨_, rfl, _, _, _, _, true, rfl, .ty "tuple", tyT (hq.same sm3), kit_ty (by decide +kernel), _, rfl, iteT ?_⟩
          refine ⟨_, rfl, .inl ⟨rfl, _, SqL.of hx3⟩, _, rfl, a, ys, rfl, .inr (hq.same sm3), fun b hb => ?_⟩
          have bD : D ≠ b := ne_of_none hx3 hb
          have sb : Same H (upd H3 b (.lst ys)) := fun c o e => by rw [upd_ne (ne_of_none (sm3 c o e) hb)]; exact sm3 c o e
          refine ⟨D, b, _, ys, rfl, rfl, by rw [upd_ne bD]; exact hx3, upd_same, by omega, ?_⟩
          exact ⟨szs (ms ++ l), by rw [szs_app]; omega, sp _ sb, _, _, ms ++ l, rfl, upd_same, q1.app dl, rfl, by rw [szs_app]; omega⟩
    · rintro σ H2 Q1 Q2 imp ⟨x, e, kk, t, q⟩
      exact ⟨x, e, kk, t, imp _ _ q⟩
end
end Dk

set_option maxHeartbeats 8000000
/-! is_same of nested tuples -/
namespace Dk
open PySem PySem.Spec PyProof.Rows L2
mutual
def Tr.data : Tr → PyData
  | .sc .non => .none
  | .sc (.bl b) => .bool b
  | .sc (.int i) => .int i
  | .sc (.str s) => .str s
  | .sc _ => .none
  | .tup l => .tuple (datas l)
def datas : List Tr → List PyData
  | [] => []
  | t :: l => t.data :: datas l
end
mutual
theorem DV.dp {K : PySem.W.Frag} {H : Hp} : ∀ (t : Tr) (v : V), DV K H v t → Dp K H v t.data
  | .sc v, _, h => by
    cases h with
    | sc e => cases v <;> cases e <;> constructor
  | .tup l, _, h => by
    cases h with
    | tup e d => exact .tup e (DVs.dp l _ d)
theorem DVs.dp {K : PySem.W.Frag} {H : Hp} : ∀ (l : List Tr) (xs : List V), DVs K H xs l → DpAll K H xs (datas l)
  | [], _, h => by
    cases h
    exact .nil
  | t :: l, _, h => by
    cases h with
    | cons d e => exact .cons (DV.dp t _ d) (DVs.dp l _ e)
end
def Tr.ok (t : Tr) : Prop := SeqAt.shaped t.data = true
theorem shaped_iff {d : PyData} : SeqAt.shaped d = true ↔ d.canLay0 = true ∧ d.depth ≤ 64 := by
  show (d.canLay0 && decide (d.depth ≤ 64)) = true ↔ _
  rw [Bool.and_eq_true, decide_eq_true_iff]
theorem oks : ∀ {l : List Tr}, PyData.canLayAll0 (datas l) = true → PyData.depthAll (datas l) ≤ 64 → ∀ t, t ∈ l → t.ok
  | [], _, _, t, h => by cases h
  | u :: l, h1, h2, t, h => by
    simp only [datas, PyData.canLayAll0, Bool.and_eq_true] at h1
    simp only [datas, PyData.depthAll] at h2
    rcases List.mem_cons.mp h with e | e
    · rw [e]
      exact shaped_iff.mpr ⟨h1.1, by omega⟩
    · exact oks h1.2 (by omega) t e
theorem ok_tup {l : List Tr} (h : (Tr.tup l).ok) : ∀ t, t ∈ l → t.ok := by
  obtain ⟨h1, h2⟩ := shaped_iff.mp h
  simp only [Tr.data, PyData.canLay0] at h1
  simp only [Tr.data, PyData.depth] at h2
  exact oks h1 (by omega)
theorem zip_all {l m : List Tr} : l.length = m.length → ((∀ p, p ∈ l.zip m → p.1 = p.2) ↔ l = m) := by
  induction l generalizing m with
  | nil =>
    intro h
    cases m with
    | nil => simp
    | cons t m => cases h
  | cons t l ih =>
    intro h
    cases m with
    | nil => cases h
    | cons u m =>
      have ih := ih (m := m) (by simpa using h)
      rw [List.zip_cons_cons]
      constructor
      · intro q
        have h1 : t = u := q (t, u) List.mem_cons_self
        rw [h1, ih.mp fun p hp => q p (List.mem_cons_of_mem _ hp)]
      · intro e
        injection e with e1 e2
        intro p hp
        rcases List.mem_cons.mp hp with z | z
        · rw [z]; exact e1
        · exact ih.mpr e2 p z
/-- what waits -/
def wt : List (Tr × Tr) → Nat
  | [] => 0
  | p :: l => p.1.sz + wt l
theorem wt_app : ∀ (a b : List (Tr × Tr)), wt (a ++ b) = wt a + wt b
  | [], b => by show wt b = 0 + wt b; omega
  | p :: a, b => by
    show p.1.sz + wt (a ++ b) = p.1.sz + wt a + wt b
    rw [wt_app a b]
    omega
theorem wt_zip : ∀ {l m : List Tr}, l.length = m.length → wt (l.zip m) = szs l
  | [], _, _ => by simp [wt, szs]
  | t :: l, [], h => by cases h
  | t :: l, u :: m, h => by
    show t.sz + wt (l.zip m) = t.sz + szs l
    rw [wt_zip (by simpa using h)]
theorem wt_len : ∀ (l : List (Tr × Tr)), l.length ≤ wt l
  | [] => Nat.le_refl _
  | p :: l => by
    have := wt_len l
    have := sz_pos p.1
    show l.length + 1 ≤ p.1.sz + wt l
    omega
def Tr.isT : Tr → Bool
  | .sc _ => false
  | .tup _ => true
theorem eqv_ne {K : PySem.W.Frag} {H : Hp} {a b : V} {t u : Tr} (ha : DV K H a t) (hb : DV K H b u) (h : ¬ (t.isT = true ∧ u.isT = true)) (hB : isB a = isB b) (ne : t ≠ u) : PyData.eqv t.data u.data = false := by
  cases ha with
  | sc e1 =>
    cases hb with
    | sc e2 =>
      cases a <;> cases e1 <;> cases b <;> cases e2 <;> first
        | exact absurd rfl ne
        | rfl
        | (exfalso; revert hB; simp [isB]; done)
        | (simp only [Tr.data, PyData.eqv]; rename_i p q; exact beq_eq_false_iff_ne.mpr fun z => ne (by rw [z]))
        | simp [Tr.data, PyData.eqv]
    | tup e2 d2 => cases a <;> cases e1 <;> simp [Tr.data, PyData.eqv]
  | tup e1 d1 =>
    cases hb with
    | sc e2 => cases b <;> cases e2 <;> simp [Tr.data, PyData.eqv]
    | tup e2 d2 => exact absurd ⟨rfl, rfl⟩ h
theorem isB_eq {K : PySem.W.Frag} {H : Hp} {a b : V} {t u : Tr} (ha : DV K H a t) (hb : DV K H b u) (e : t = u) : isB a = isB b := by
  subst e
  cases ha with
  | sc e1 =>
    cases hb with
    | sc e2 => rfl
  | tup e1 d1 =>
    cases hb with
    | tup e2 d2 => rfl
theorem ty_dv {K : PySem.W.Frag} {H : Hp} {a : V} {t : Tr} (h : DV K H a t) : ∃ ty, TyX K H a (.type ty) ∧ kitB ty "bool" = some (isB a) := by
  cases h with
  | sc e => exact ⟨_, ty_of e, kit_bool e⟩
  | tup e d => exact ⟨"tuple", tyT e, by show kitB "tuple" "bool" = some false; decide +kernel⟩
def PVs (K : PySem.W.Frag) (H H2 : Hp) (qs : List Addr) (ps : List (Tr × Tr)) : Prop := qs.length = ps.length ∧ ∀ (i : Nat) (q : Addr) (p : Tr × Tr), qs[i]? = some q → ps[i]? = some p → ∃ a b, H2 q = some (.tup [a, b]) ∧ DV K H a p.1 ∧ DV K H b p.2 ∧ p.1.ok ∧ p.2.ok
theorem PVs.keep {K : PySem.W.Frag} {H H2 H3 : Hp} {qs : List Addr} {ps : List (Tr × Tr)} (h : PVs K H H2 qs ps) (k : ∀ (q : Addr) (a b : V), H2 q = some (.tup [a, b]) → H3 q = some (.tup [a, b])) : PVs K H H3 qs ps :=
  ⟨h.1, fun i q p h1 h2 => let ⟨a, b, e1, e2⟩ := h.2 i q p h1 h2; ⟨a, b, k q a b e1, e2⟩⟩
theorem PVs.init {K : PySem.W.Frag} {H H2 : Hp} {qs : List Addr} {q : Addr} {ps : List (Tr × Tr)} {p : Tr × Tr} (h : PVs K H H2 (qs ++ [q]) (ps ++ [p])) : PVs K H H2 qs ps ∧ ∃ a b, H2 q = some (.tup [a, b]) ∧ DV K H a p.1 ∧ DV K H b p.2 ∧ p.1.ok ∧ p.2.ok := by
  obtain ⟨h1, h2⟩ := h
  have hl : qs.length = ps.length := by simpa using h1
  refine ⟨⟨hl, fun i q' p' e1 e2 => h2 i q' p' ?_ ?_⟩, h2 qs.length q p ?_ ?_⟩
  · rw [List.getElem?_append_left (List.getElem?_eq_some_iff.mp e1).1]; exact e1
  · rw [List.getElem?_append_left (List.getElem?_eq_some_iff.mp e2).1]; exact e2
  · simp
  · rw [hl]; simp
theorem PVs.app {K : PySem.W.Frag} {H H2 : Hp} {qs qt : List Addr} {ps pt : List (Tr × Tr)} (h : PVs K H H2 qs ps) (g : PVs K H H2 qt pt) : PVs K H H2 (qs ++ qt) (ps ++ pt) := by
  refine ⟨by rw [List.length_append, List.length_append, h.1, g.1], fun i q p e1 e2 => ?_⟩
  by_cases c : i < qs.length
  · rw [List.getElem?_append_left c] at e1
    rw [List.getElem?_append_left (by rw [← h.1]; exact c)] at e2
    exact h.2 i q p e1 e2
  · rw [List.getElem?_append_right (by omega)] at e1
    rw [List.getElem?_append_right (by rw [← h.1]; omega), ← h.1] at e2
    exact g.2 _ q p e1 e2
theorem DVs.get {K : PySem.W.Frag} {H : Hp} : ∀ {xs : List V} {l : List Tr} {i : Nat} {x : V} {t : Tr}, DVs K H xs l → xs[i]? = some x → l[i]? = some t → DV K H x t
  | _, _, _, _, _, .nil, h, _ => by simp at h
  | _, _, 0, _, _, .cons d e, h, g => by
    cases h
    cases g
    exact d
  | _, _, i + 1, _, _, .cons d e, h, g => DVs.get (i := i) e (by simpa using h) (by simpa using g)
def spIsSameD (K : PySem.W.Frag) : Sp := fun vs H Q _ => ∃ x y t u, vs = [x, y] ∧ DV K H x t ∧ DV K H y u ∧ t.ok ∧ u.ok ∧ t.sz < sizeLine ∧ ∀ (b : Bool) H', Same H H' → (b = true ↔ t = u) → Q (.bl b) H'
section
variable {P : Program} {w : World} {K : PySem.W.Frag} {mg : Str → Option Value} {base : Heap} {C M NV LE : Addr}
theorem go_issameD (F : GT K mg "is_same" sIsSame ["one", "other"]) (T : Bn mg) (zz : mg "zip" = none) : GO P w K mg base CX0 1 "is_same" ["one", "other"] (spIsSameD K) := by
  obtain ⟨f, fd, F, hm, hb⟩ := F
  refine ⟨f, fd, ?_, hm, F.kp, hb⟩
  refine F.ok scIsSame (fun vs H Q E h => ?_) (fun cdv A outer s H vs Q E hr h => ?_)
  · obtain ⟨x, y, t, u, rfl, _⟩ := h
    rfl
  · obtain ⟨x, y, t, u, rfl, hx, hy, ox, oy, hz, k⟩ := h
    refine ⟨_, pss_cons (ps_set (i := 2) scIsSame.nd rfl (Or.inl rfl) (pe_lst (pa_cons (pe_tup (pa_cons (pv 0) (pa_cons (pv 1) pa_nil))) pa_nil)))
      (pss_cons (ps_while PassesOwn.never (pt_truth (pv 2) (by intro _; rfl))
        (pss_cons (ps_asg (pe_bm0 PySem.F.plainAttrs_list PySem.F.slot_list_pop PySem.F.type_list_pop mt_pop (pv 2)) (pg_tup (by rfl) (pgs_cons (pg_name (i := 3) scIsSame.nd rfl (Or.inl rfl)) (pgs_cons (pg_name (i := 4) scIsSame.nd rfl (Or.inl rfl)) pgs_nil))))
        (pss_one (ps_if (PW.pt (pw_and (pt_val (pe_callB call_isi (by rfl) T.isi (by decide +kernel) (pa_cons (pv 3) (pa_cons (pe_bltn (v := .ty "tuple") (by rfl) T.tuple (by decide +kernel) rfl) pa_nil)))) (pw_and1 (pt_val (pe_callB call_isi (by rfl) T.isi (by decide +kernel) (pa_cons (pv 4) (pa_cons (pe_bltn (v := .ty "tuple") (by rfl) T.tuple (by decide +kernel) rfl) pa_nil)))))))
          (pss_cons (ps_if (pt_cmpR op_ne (pe_callB call_len_seq (by rfl) T.len PySem.boot_len (pa_cons (pv 3) pa_nil)) (pe_callB call_len_seq (by rfl) T.len PySem.boot_len (pa_cons (pv 4) pa_nil)) (nomark _)) (pss_one (ps_ret pe_bl)) pss_nil)
          (pss_one (ps_expr (pe_bm PySem.F.plainAttrs_list PySem.F.slot_list_extend PySem.F.type_list_extend mt_extend (pv 2) (pa_cons (Lz.pe_listZip rfl (by rfl) T.list (by rfl) zz (pa_cons (pv 3) (pa_cons (pv 4) pa_nil))) pa_nil)))))
          (pss_one (ps_if (PW.pt (pw_or (pt_cmpR op_ne (pe_callB call_isi (by rfl) T.isi (by decide +kernel) (pa_cons (pv 3) (pa_cons (pe_bltn (v := .ty "bool") (by rfl) T.bool (by decide +kernel) rfl) pa_nil))) (pe_callB call_isi (by rfl) T.isi (by decide +kernel) (pa_cons (pv 4) (pa_cons (pe_bltn (v := .ty "bool") (by rfl) T.bool (by decide +kernel) rfl) pa_nil))) (nomark _))
              (pw_or1 (pt_cmpR (op_neD hr.units) (pv 3) (pv 4) (nomark _)))))
            (pss_one (ps_ret pe_bl)) pss_nil))))))
      (pss_one (ps_ret pe_bl))), ?_⟩
    refine ⟨_, rfl, _, rfl, (by show 2 ≤ sizeLine; decide), fun p0 hp0 => ⟨(by show 1 ≤ sizeLine; decide), fun D hD => ?_⟩⟩
    have s1 : Same H (upd H p0 (.tup [x, y])) := fun b o e => by rw [upd_ne (ne_of_none e hp0)]; exact e
    have pD : p0 ≠ D := ne_of_none upd_same hD
    have nHD : H D = none := s1.free hD
    have sp : ∀ {H3 : Hp} (l : List V), Same H H3 → Same H (upd H3 D (.lst l)) := fun {H3} l sm b o e => by rw [upd_ne (ne_of_none e nHD)]; exact sm b o e
    dsimp only [gName, tSeq]
    refine while_rel (fun m σ H2 => Same H H2 ∧ ∃ (l r : Option V) (qs : List Addr) (ps : List (Tr × Tr)), σ = [some x, some y, some (.ref D), l, r] ∧ H2 D = some (.lst (qs.map V.ref)) ∧ PVs K H H2 qs ps ∧ m = wt ps ∧ wt ps ≤ t.sz ∧ ((∀ p, p ∈ ps → p.1 = p.2) ↔ t = u))
      ⟨_, sp _ s1, _, _, [p0], [(t, u)], rfl, upd_same, ⟨rfl, fun i q p h1 h2 => ?_⟩, rfl, by show t.sz + 0 ≤ t.sz; omega, by simp⟩ ?_ ?_
    · cases i with
      | zero =>
        cases h1
        cases h2
        exact ⟨x, y, by rw [upd_ne pD]; exact upd_same, hx, hy, ox, oy⟩
      | succ n => simp at h1
    · rintro m σ H2 ⟨sm, l, r, qs, ps, rfl, hD2, pv', rfl, hle, hiff⟩
      rcases List.eq_nil_or_concat qs with rfl | ⟨qi, q, rfl⟩
      · have e : ps = [] := List.eq_nil_of_length_eq_zero (by rw [← pv'.1]; rfl)
        subst e
        exact ⟨_, rfl, false, .inl ⟨_, SqL.of hD2, rfl⟩, iteF (k true _ sm ⟨fun _ => hiff.mp fun p hp => (by cases hp), fun _ => rfl⟩)⟩
      · rcases List.eq_nil_or_concat ps with rfl | ⟨pi, p, rfl⟩
        · have := pv'.1
          simp at this
        · rw [List.concat_eq_append] at pv' hD2
          rw [List.concat_eq_append] at pv' hle hiff ⊢
          obtain ⟨pvi, a, b, hq, da, db, oa, ob⟩ := pv'.init
          rw [List.map_append] at hD2
          have hw : wt (pi ++ [p]) = wt pi + p.1.sz := by rw [wt_app]; rfl
          have hpz := sz_pos p.1
          have hall : (∀ z, z ∈ pi ++ [p] → z.1 = z.2) ↔ (∀ z, z ∈ pi → z.1 = z.2) ∧ p.1 = p.2 := by
            constructor
            · exact fun h => ⟨fun z hz => h z (List.mem_append_left _ hz), h p (by simp)⟩
            · rintro ⟨h1, h2⟩ z hz
              rcases List.mem_append.mp hz with q | q
              · exact h1 z q
              · rw [List.mem_singleton.mp q]
                exact h2
          have hno : p.1 ≠ p.2 → ∀ H', Same H H' → Q (.bl false) H' := fun h H' s' => k false H' s' ⟨fun e => (by cases e), fun e => absurd (hall.mp (hiff.mpr e)).2 h⟩
          refine ⟨_, rfl, true, .inl ⟨_, SqL.of hD2, by simp⟩, iteT ?_⟩
          refine ⟨_, rfl, .inl ⟨rfl, _, SqL.of hD2⟩, D, _, .ref q, rfl, rfl, hD2, by simp, ?_⟩
          rw [show (qi.map V.ref ++ [q].map V.ref).dropLast = qi.map V.ref by simp]
          have sm3 := sp (qi.map V.ref) sm
          have kp : ∀ (z : Addr) (c d : V), H2 z = some (.tup [c, d]) → upd H2 D (.lst (qi.map V.ref)) z = some (.tup [c, d]) := fun z c d e => by rw [upd_ne (ne_of e hD2 (by intro w; cases w))]; exact e
          have pv3 := pvi.keep kp
          have hq3 := kp q a b hq
          have hD3 : upd H2 D (.lst (qi.map V.ref)) D = some (.lst (qi.map V.ref)) := upd_same
          generalize upd H2 D (.lst (qi.map V.ref)) = H3 at sm3 pv3 hq3 hD3 ⊢
          refine ⟨q, [a, b], rfl, SqT.of hq3, rfl, _, _, rfl, _, _, rfl, rfl, ?_⟩
          have da3 := DV.ext sm3 _ _ da
          have db3 := DV.ext sm3 _ _ db
          obtain ⟨tya, qa, ka⟩ := ty_dv (K := K) da3
          obtain ⟨tyb, qb, kb⟩ := ty_dv (K := K) db3
          obtain ⟨t1, t2⟩ := p
          dsimp only at da db da3 db3 oa ob hw hpz hno hall ka kb
          cases t1 with
          | sc v1 =>
            obtain ⟨ty1, h1⟩ : ∃ ty, vty a = some ty := by
              cases da with
              | sc e => exact ⟨_, e⟩
            refine ⟨_, rfl, _, _, _, _, false, rfl, .ty "tuple", ty_of h1, kit_ty (notTup h1), _, rfl, iteF (iteF ?_)⟩
            have nb : ¬ (Tr.isT (Tr.sc v1) = true ∧ Tr.isT t2 = true) := fun h => Bool.noConfusion h.1
            refine ⟨_, rfl, _, _, _, _, _, rfl, .ty "bool", qa, kit_ty ka, _, rfl, _, _, _, _, _, rfl, .ty "bool", qb, kit_ty kb, rfl, _, rfl, ?_⟩
            by_cases hbb : isB a = isB b
            · refine iteNS (congrArg V.bl hbb) ?_
              refine ⟨_, rfl, _, rfl, Tr.data (Tr.sc v1), Tr.data t2, DV.dp _ _ da3, DV.dp _ _ db3, oa, ob, _, rfl, ?_⟩
              by_cases e : (Tr.sc v1) = t2
              · have hev : PyData.eqv (Tr.data (Tr.sc v1)) (Tr.data t2) = true := by rw [← e]; exact SeqAt.eqv_refl _ (SeqAt.canLay_of_shaped oa)
                rw [hev]
                exact iteF ⟨wt pi, by omega, sm3, _, _, qi, pi, rfl, hD3, pv3, rfl, by omega, ⟨fun h => hiff.mp (hall.mpr ⟨h, e⟩), fun h => (hall.mp (hiff.mpr h)).1⟩⟩
              · rw [eqv_ne da db nb hbb e]
                exact iteT (hno e _ sm3)
            · refine iteNT (fun e => hbb (V.bl.inj e)) (iteT ?_)
              exact hno (fun e => hbb (isB_eq da db e)) _ sm3
          | tup l1 =>
            obtain ⟨a1, xs1, rfl, ha1, dl1⟩ : ∃ a1 xs1, a = .ref a1 ∧ SqT K H a1 xs1 ∧ DVs K H xs1 l1 := by
              cases da with
              | tup e d => exact ⟨_, _, rfl, e, d⟩
            cases t2 with
            | sc v2 =>
              obtain ⟨ty2, h2⟩ : ∃ ty, vty b = some ty := by
                cases db with
                | sc e => exact ⟨_, e⟩
              refine ⟨_, rfl, _, _, _, _, true, rfl, .ty "tuple", tyT (ha1.same sm3), kit_ty (by decide +kernel), _, rfl, iteT ⟨_, rfl, _, _, _, _, false, rfl, .ty "tuple", ty_of h2, kit_ty (notTup h2), _, rfl, iteF ?_⟩⟩
              have nb : ¬ (Tr.isT (Tr.tup l1) = true ∧ Tr.isT (Tr.sc v2) = true) := fun h => Bool.noConfusion h.2
              refine ⟨_, rfl, _, _, _, _, _, rfl, .ty "bool", qa, kit_ty ka, _, rfl, _, _, _, _, _, rfl, .ty "bool", qb, kit_ty kb, rfl, _, rfl, ?_⟩
              by_cases hbb : isB (V.ref a1) = isB b
              · refine iteNS (congrArg V.bl hbb) ?_
                refine ⟨_, rfl, _, rfl, Tr.data (Tr.tup l1), Tr.data (Tr.sc v2), DV.dp _ _ da3, DV.dp _ _ db3, oa, ob, _, rfl, ?_⟩
                by_cases e : (Tr.tup l1) = (Tr.sc v2)
                · have hev : PyData.eqv (Tr.data (Tr.tup l1)) (Tr.data (Tr.sc v2)) = true := by rw [← e]; exact SeqAt.eqv_refl _ (SeqAt.canLay_of_shaped oa)
                  rw [hev]
                  exact iteF ⟨wt pi, by omega, sm3, _, _, qi, pi, rfl, hD3, pv3, rfl, by omega, ⟨fun h => hiff.mp (hall.mpr ⟨h, e⟩), fun h => (hall.mp (hiff.mpr h)).1⟩⟩
                · rw [eqv_ne da db nb hbb e]
                  exact iteT (hno e _ sm3)
              · refine iteNT (fun e => hbb (V.bl.inj e)) (iteT ?_)
                exact hno (fun e => hbb (isB_eq da db e)) _ sm3
            | tup l2 =>
              obtain ⟨b1, xs2, rfl, hb1, dl2⟩ : ∃ b1 xs2, b = .ref b1 ∧ SqT K H b1 xs2 ∧ DVs K H xs2 l2 := by
                cases db with
                | tup e d => exact ⟨_, _, rfl, e, d⟩
              have L1 := dl1.len
              have L2 := dl2.len
              have e3 : (Tr.tup l1).sz = 1 + szs l1 := rfl
              have wl := wt_len pi
              have pl := pv3.1
              refine ⟨_, rfl, _, _, _, _, true, rfl, .ty "tuple", tyT (ha1.same sm3), kit_ty (by decide +kernel), _, rfl, iteT ⟨_, rfl, _, _, _, _, true, rfl, .ty "tuple", tyT (hb1.same sm3), kit_ty (by decide +kernel), _, rfl, iteT ?_⟩⟩
              refine ⟨_, rfl, a1, _, rfl, .inr ((ha1.same sm3)), _, rfl, b1, _, rfl, .inr ((hb1.same sm3)), rfl, _, rfl, ?_⟩
              by_cases hlen : xs1.length = xs2.length
              · refine iteNS (by rw [hlen]) ?_
                refine ⟨_, rfl, .inl ⟨rfl, _, SqL.of hD3⟩, _, rfl, _, rfl, a1, b1, xs1, xs2, rfl, (ha1.same sm3), (hb1.same sm3), hlen, by omega, fun S q2 H4 nS hS lq prs ex => ?_⟩
                refine ⟨D, S, _, _, rfl, rfl, ex _ _ hD3, hS, by rw [List.length_map, List.length_map]; omega, ?_⟩
                have hll : l1.length = l2.length := by omega
                have sm4 : Same H H4 := fun c o e => ex _ _ (sm3 c o e)
                have pz : PVs K H H4 q2 (l1.zip l2) := by
                  refine ⟨by rw [List.length_zip]; omega, fun i q p e1 e2 => ?_⟩
                  obtain ⟨g1, g2⟩ := List.getElem?_zip_eq_some.mp e2
                  obtain ⟨_, _, x1, y1, g3, g4, g5⟩ := prs i q e1
                  exact ⟨x1, y1, g5, dl1.get g3 g1, dl2.get g4 g2, ok_tup oa _ (List.mem_of_getElem? g1), ok_tup ob _ (List.mem_of_getElem? g2)⟩
                have pv4 := (pv3.keep fun z c d e => ex _ _ e).app pz
                have hw2 : wt (pi ++ l1.zip l2) = wt pi + szs l1 := by rw [wt_app, wt_zip hll]
                refine ⟨wt (pi ++ l1.zip l2), by omega, sp _ sm4, _, _, qi ++ q2, pi ++ l1.zip l2, rfl, by rw [upd_same, List.map_append], pv4.keep (fun z c d e => ?_), rfl, by omega, ?_⟩
                · rw [upd_ne (ne_of e (ex _ _ hD3) (by intro w; cases w))]
                  exact e
                · rw [← hiff, hall]
                  constructor
                  · intro h
                    exact ⟨fun z hz => h z (List.mem_append_left _ hz), congrArg Tr.tup ((zip_all hll).mp fun z hz => h z (List.mem_append_right _ hz))⟩
                  · rintro ⟨h1, h2⟩ z hz
                    rcases List.mem_append.mp hz with q | q
                    · exact h1 z q
                    · exact (zip_all hll).mpr (Tr.tup.inj h2) z q
              · refine iteNT (fun e => hlen (by have := V.int.inj e; omega)) ?_
                exact hno (fun e => hlen (by rw [L1.1, L2.1, Tr.tup.inj e])) _ sm3
    · rintro σ H2 Q1 Q2 imp ⟨x, e, kk, t, q⟩
      exact ⟨x, e, kk, t, imp _ _ q⟩
end
end Dk

set_option maxHeartbeats 4000000
/-! accesses: what they may be -/
namespace Dk
open PySem PySem.Spec PyProof.Rows L2
inductive Rq where
  | read (i : Nat)
  | write (i : Nat) (v : V)
  | swap (i : Nat) (o n : V)
  | decide (i : Nat) (x : Str)
  | flush (i : Nat)
  | fence
def Rq.vs : Rq → List V
  | .read i => [.str "read", .int (i : Int)]
  | .write i v => [.str "write", .int (i : Int), v]
  | .swap i o n => [.str "swap", .int (i : Int), o, n]
  | .decide i x => [.str "decide", .int (i : Int), .str x]
  | .flush i => [.str "flush", .int (i : Int)]
  | .fence => [.str "fence"]
/-- a value of a cell, of moderate size -/
structure Dvl (K : PySem.W.Frag) (H : Hp) (v : V) (t : Tr) : Prop where
  d : DV K H v t
  o : t.ok
  z : t.sz < 100000
theorem Dvl.same {K : PySem.W.Frag} {H H' : Hp} {v : V} {t : Tr} (h : Dvl K H v t) (s : Same H H') : Dvl K H' v t := ⟨DV.ext s _ _ h.d, h.o, h.z⟩
/-- tuples are kept -/
def ExT (H H' : Hp) : Prop := (∀ b xs, H b = some (.tup xs) → H' b = some (.tup xs)) ∧ ∀ b o xs, H b = some (.frz o (.tup xs)) → H' b = some (.frz o (.tup xs))
theorem ExT.of {H H' : Hp} (s : Same H H') : ExT H H' := ⟨fun _ _ e => s _ _ e, fun _ _ _ e => s _ _ e⟩
theorem ExT.trans {H H1 H2 : Hp} (h : ExT H H1) (k : ExT H1 H2) : ExT H H2 := ⟨fun _ _ e => k.1 _ _ (h.1 _ _ e), fun _ _ _ e => k.2 _ _ _ (h.2 _ _ _ e)⟩
theorem _root_.L2.SqT.extT {K : PySem.W.Frag} {H H' : Hp} {a : Addr} {xs : List V} (h : SqT K H a xs) (s : ExT H H') : SqT K H' a xs :=
  h.elim (fun h => .inl (h.elim (fun h => .inl (s.1 _ _ h)) fun ⟨o, h⟩ => .inr ⟨o, s.2 _ _ _ h⟩)) fun h => .inr h
mutual
theorem DV.extT {K : PySem.W.Frag} {H H' : Hp} (s : ExT H H') : ∀ (t : Tr) (v : V), DV K H v t → DV K H' v t
  | .sc _, _, h => by
    cases h with
    | sc e => exact .sc e
  | .tup l, _, h => by
    cases h with
    | tup e d => exact .tup (e.extT s) (DVs.extT s l _ d)
theorem DVs.extT {K : PySem.W.Frag} {H H' : Hp} (s : ExT H H') : ∀ (l : List Tr) (xs : List V), DVs K H xs l → DVs K H' xs l
  | [], _, h => by
    cases h
    exact .nil
  | t :: l, _, h => by
    cases h with
    | cons d e => exact .cons (DV.extT s t _ d) (DVs.extT s l _ e)
end
theorem Dvl.ext {K : PySem.W.Frag} {H H' : Hp} {v : V} {t : Tr} (h : Dvl K H v t) (s : ExT H H') : Dvl K H' v t := ⟨DV.extT s _ _ h.d, h.o, h.z⟩
theorem Dvl.int {K : PySem.W.Frag} {H : Hp} (i : Int) : Dvl K H (.int i) (.sc (.int i)) := ⟨.sc (t := "int") rfl, by show SeqAt.shaped (.int i) = true; rfl, by show 1 < 100000; decide⟩
theorem Dvl.non {K : PySem.W.Frag} {H : Hp} : Dvl K H .non (.sc .non) := ⟨.sc (t := "NoneType") rfl, by show SeqAt.shaped .none = true; rfl, by show 1 < 100000; decide⟩
def Rq.ok (t w r : Nat) : Rq → Prop
  | .read i => i < 1 + t + (t + w + r)
  | .write i _ => i < 1 + t + (t + w + r)
  | .swap i _ _ => i < 1 + t + (t + w + r)
  | .decide i _ => i < 1 + t + (t + w + r)
  | .flush i => 1 + t ≤ i ∧ i < 1 + t + (t + w + r)
  | .fence => True
/-- its values -/
def Rq.vals (K : PySem.W.Frag) (H : Hp) : Rq → Prop
  | .write _ v => ∃ t, Dvl K H v t
  | .swap _ o n => (∃ t, Dvl K H o t) ∧ ∃ t, Dvl K H n t
  | _ => True
theorem Rq.vals_same {K : PySem.W.Frag} {H H' : Hp} {rq : Rq} (h : rq.vals K H) (s : Same H H') : rq.vals K H' := by
  cases rq with
  | write i v => exact let ⟨t, h⟩ := h; ⟨t, h.same s⟩
  | swap i o n => exact let ⟨⟨t, h⟩, u, h2⟩ := h; ⟨⟨t, h.same s⟩, u, h2.same s⟩
  | _ => trivial
theorem mhit {kind : Str} {is : List Nat} {tb : TS} {tr : Addr → List V → TS} {a : Addr} {ys : List V} {D : Ends} {σ : L2.St} {H : Hp} (hlen : ys.length = is.length) (h : tb D (setAll σ is ys) H) : mCase kind is tb tr a (.str kind :: ys) D σ H := by
  unfold mCase
  rw [if_pos (by rw [List.length_cons, hlen])]
  exact ⟨kind, ys, rfl, by rw [if_pos rfl]; exact h⟩
theorem mmiss {kind z : Str} {is : List Nat} {tb : TS} {tr : Addr → List V → TS} {a : Addr} {ys : List V} {D : Ends} {σ : L2.St} {H : Hp} (hk : z ≠ kind) (h : tr a (.str z :: ys) D σ H) : mCase kind is tb tr a (.str z :: ys) D σ H := by
  unfold mCase
  split
  · exact ⟨z, ys, rfl, by rw [if_neg hk]; exact h⟩
  · exact h
def spHasT (C : Addr) : Sp := fun vs H Q _ => ∃ a t w r v ty, vs = [.ref a, v] ∧ vty v = some ty ∧ LayAt C H a t w r ∧ Q (.bl (inW 0 (t - 1) v)) H
def spIsAcc (K : PySem.W.Frag) (C : Addr) : Sp := fun vs H Q _ => ∃ (la q : Addr) (t w r : Nat) (rq : Rq), vs = [.ref la, .ref q] ∧ LayAt C H la t w r ∧ H q = some (.tup rq.vs) ∧ rq.ok t w r ∧ rq.vals K H ∧ ∀ H', Same H H' → Q (.bl true) H'
section
variable {P : Program} {w : World} {K : PySem.W.Frag} {mg : Str → Option Value} {base : Heap} {C M NV LE : Addr}
theorem scHasT : FnScope ["self", "thread"] ["self", "thread"] (defScope sHasT) := ⟨rfl, rfl, rfl, by decide +kernel, rfl, by decide +kernel, by decide +kernel⟩
theorem mo_hast (F : MT K C "has_thread" "Layout.has_thread" sHasT ["self", "thread"]) (T : LTxt K mg C) (GW : GO P w K mg base CX0 2 "is_within" ["value", "low", "high"] spWithin) : MO P w K mg base CX0 C 3 "has_thread" ["self", "thread"] (spHasT C) := by
  obtain ⟨f, fd, F, hm, hb⟩ := F
  refine ⟨f, fd, ?_, hm, hb⟩
  refine F.ok scHasT (fun vs H Q E h => ?_) (fun cdv A outer s H vs Q E hr h => ?_)
  · obtain ⟨a, t, w, r, v, ty, rfl, _⟩ := h
    rfl
  · obtain ⟨a, t, w, r, v, ty, rfl, hv, ⟨dx, h1⟩, k⟩ := h
    refine ⟨_, pss_one (ps_ret (pc_ GW hr (pa_cons (pv 1) (pa_cons pe_int (pa_cons (pe_op op_sub (pe_fld (pv 0) rfl) pe_int) pa_nil))))), ?_⟩
    exact ⟨_, rfl, _, rfl, a, C, dx, _, _, rfl, h1, T.cl, T.nT, rfl, _, _, rfl, rfl, v, ty, _, _, rfl, hv, k⟩
abbrev NA : List Str := ["layout", "request", "cell", "value", "old", "new", "word"]
theorem scIsAcc : FnScope NA ["layout", "request"] (defScope sIsAcc) := ⟨rfl, rfl, rfl, by decide +kernel, rfl, by decide +kernel, by decide +kernel⟩
theorem go_isacc (F : GT K mg "is_access" sIsAcc ["layout", "request"]) (T : LTxt K mg C) (GI : MO P w K mg base CX0 C 6 "is_cell" ["self", "cell"] (spLV C fun t w r v => .bl (inW 0 (cells t w r - 1) v)))
    (GL : MO P w K mg base CX0 C 7 "is_lasting" ["self", "cell"] (spLV C fun t w r v => .bl (lastB t w r v))) (GV : GO P w K mg base CX0 1 "is_value" ["value"] (spIsValueD K)) : GO P w K mg base CX0 8 "is_access" ["layout", "request"] (spIsAcc K C) := by
  obtain ⟨f, fd, F, hm, hb⟩ := F
  refine ⟨f, fd, ?_, hm, F.kp, hb⟩
  refine F.ok scIsAcc (fun vs H Q E h => ?_) (fun cdv A outer s H vs Q E hr h => ?_)
  · obtain ⟨la, q, t, w, r, rq, rfl, _⟩ := h
    rfl
  · obtain ⟨la, q, t, w, r, rq, rfl, L, hq, ok, vals, k⟩ := h
    obtain ⟨da, ha⟩ := id L
    have nd := scIsAcc.nd
    have hr6 : Room 6 _ := hr.mono (by decide)
    have hr1 : Room 1 _ := hr.mono (by decide)
    refine ⟨_, pss_cons (ps_if (pt_not (pt_val (pe_callB call_isi (by rfl) T.bn.isi (by decide +kernel) (pa_cons (pv 1) (pa_cons (pe_bltn (v := .ty "tuple") (by rfl) T.bn.tuple (by decide +kernel) rfl) pa_nil))))) (pss_one ps_never) pss_nil)
      (pss_cons (ps_match (pv 1)
        (pms_case (is := [2]) rfl nd (.cons rfl rfl .nil) (pss_one (ps_ret (pm_ GI T.cl hr6 (pv 0) (pa_cons (pv 2) pa_nil))))
        (pms_case (is := [2, 3]) rfl nd (.cons rfl rfl (.cons rfl rfl .nil)) (pss_one (ps_ret (pe_and (pm_ GI T.cl hr6 (pv 0) (pa_cons (pv 2) pa_nil)) (pe_one (pc_ GV hr1 (pa_cons (pv 3) pa_nil))))))
        (pms_case (is := [2, 4, 5]) rfl nd (.cons rfl rfl (.cons rfl rfl (.cons rfl rfl .nil))) (pss_one (ps_ret (pe_and (pm_ GI T.cl hr6 (pv 0) (pa_cons (pv 2) pa_nil)) (pe_and (pc_ GV hr1 (pa_cons (pv 4) pa_nil)) (pe_one (pc_ GV hr1 (pa_cons (pv 5) pa_nil)))))))
        (pms_case (is := [2, 6]) rfl nd (.cons rfl rfl (.cons rfl rfl .nil)) (pss_one (ps_ret (pe_and (pm_ GI T.cl hr6 (pv 0) (pa_cons (pv 2) pa_nil)) (pe_one (pe_callB call_isi (by rfl) T.bn.isi (by decide +kernel) (pa_cons (pv 6) (pa_cons (pe_bltn (v := .ty "str") (by rfl) T.bn.str (by decide +kernel) rfl) pa_nil)))))))
        (pms_case (is := [2]) rfl nd (.cons rfl rfl .nil) (pss_one (ps_ret (pm_ GL T.cl hr (pv 0) (pa_cons (pv 2) pa_nil))))
        (pms_case (is := []) rfl nd .nil (pss_one (ps_ret pe_bl)) pms_nil)))))))
      (pss_one (ps_ret pe_bl))), ?_⟩
    refine ⟨_, rfl, _, _, _, _, true, rfl, .ty "tuple", .base (.tup hq), kit_ty (by decide +kernel), _, rfl, iteF ?_⟩
    refine ⟨_, rfl, q, _, rfl, SqT.of hq, ?_⟩
    have cell : ∀ {i : Nat} {Q : VK}, i < 1 + t + (t + w + r) → Q (.bl true) H → Q (.bl (inW 0 (cells (t : Int) w r - 1) (.int (i : Int)))) H := fun {i Q} hi q => by
      rw [cells_n, inW_nat, decide_eq_true hi]
      exact q
    cases rq with
    | read i =>
      refine mhit rfl ?_
      exact ⟨_, rfl, la, da, _, rfl, ha, rfl, _, rfl, la, t, w, r, _, "int", rfl, rfl, L, cell ok (k _ (Same.refl H))⟩
    | write i v =>
      have ok : i < 1 + t + (t + w + r) := ok
      obtain ⟨tv, hv⟩ := vals
      have hsl : sizeLine = 16777216 := sizeLine_eq
      have hz := hv.z
      refine mmiss (by decide +kernel) (mhit rfl ?_)
      refine ⟨_, rfl, la, da, _, rfl, ha, rfl, _, rfl, la, t, w, r, _, "int", rfl, rfl, L, _, rfl, ?_⟩
      rw [cells_n, inW_nat, decide_eq_true ok]
      refine iteT ?_
      exact ⟨_, rfl, v, tv, rfl, hv.d, by omega, fun H' s => k H' s⟩
    | swap i o n =>
      have ok : i < 1 + t + (t + w + r) := ok
      obtain ⟨⟨to, ho⟩, tn, hn⟩ := vals
      have hsl : sizeLine = 16777216 := sizeLine_eq
      have hz := ho.z
      have hz2 := hn.z
      refine mmiss (by decide +kernel) (mmiss (by decide +kernel) (mhit rfl ?_))
      refine ⟨_, rfl, la, da, _, rfl, ha, rfl, _, rfl, la, t, w, r, _, "int", rfl, rfl, L, _, rfl, ?_⟩
      rw [cells_n, inW_nat, decide_eq_true ok]
      refine iteT ?_
      exact ⟨_, rfl, o, to, rfl, ho.d, by omega, fun H' s => ⟨_, rfl, iteT ⟨_, rfl, n, tn, rfl, (hn.same s).d, by omega, fun H2 s2 => k H2 (s.trans s2)⟩⟩⟩
    | decide i x =>
      have ok : i < 1 + t + (t + w + r) := ok
      refine mmiss (by decide +kernel) (mmiss (by decide +kernel) (mmiss (by decide +kernel) (mhit rfl ?_)))
      refine ⟨_, rfl, la, da, _, rfl, ha, rfl, _, rfl, la, t, w, r, _, "int", rfl, rfl, L, _, rfl, ?_⟩
      rw [cells_n, inW_nat, decide_eq_true ok]
      refine iteT ?_
      exact ⟨_, rfl, _, _, _, _, true, rfl, .ty "str", .base (.str _), kit_ty (by decide +kernel), k H (Same.refl H)⟩
    | flush i =>
      refine mmiss (by decide +kernel) (mmiss (by decide +kernel) (mmiss (by decide +kernel) (mmiss (by decide +kernel) (mhit rfl ?_))))
      refine ⟨_, rfl, la, da, _, rfl, ha, rfl, _, rfl, la, t, w, r, _, "int", rfl, rfl, L, ?_⟩
      have e : V.bl (lastB (t : Int) w r (.int (i : Int))) = .bl true := by rw [lastB_nat, decide_eq_true (p := 1 + t ≤ i ∧ i < 1 + t + (t + w + r)) ok]
      show Q (V.bl (lastB (t : Int) w r (.int (i : Int)))) H
      rw [e]
      exact k _ (Same.refl H)
    | fence =>
      refine mmiss (by decide +kernel) (mmiss (by decide +kernel) (mmiss (by decide +kernel) (mmiss (by decide +kernel) (mmiss (by decide +kernel) (mhit rfl ?_)))))
      exact k _ (Same.refl H)
end
end Dk

set_option maxHeartbeats 4000000
/-! what a memory holds, changed part by part -/
namespace Dk
open PySem PySem.Spec PyProof.Rows L2
theorem MemAt.same {C M : Addr} {H H' : Hp} {m : Addr} {t w r : Nat} {A : Adr} {S : MS} (D : MemAt C M H m t w r A S) (s1 : Same H H') : MemAt C M H' m t w r A S :=
  ⟨let ⟨x, hx⟩ := D.ob; ⟨x, s1 _ _ hx⟩, let ⟨x, hx⟩ := D.lay; ⟨x, s1 _ _ hx⟩, s1 _ _ D.ps, D.tr.same s1, s1 _ _ D.ld, s1 _ _ D.nl, D.nn, D.nd,
      fun j b hb => let ⟨ns, e1, e2⟩ := D.no j b hb; ⟨ns, e1, s1 _ _ e2⟩, s1 _ _ D.gl, D.d1, D.d2, D.d3, D.d4, D.d5⟩
/-- what stands outside of the memory stands still; what comes into it is new -/
structure Step (m : Addr) (n : Nat) (A : Adr) (H : Hp) (A' : Adr) (H' : Hp) : Prop where
  chg : ∀ b o, H b = some o → ¬ Foot m A n b → H' b = some o
  foot : ∀ b, Foot m A' n b → Foot m A n b ∨ H b = none
theorem Step.refl {m : Addr} {n : Nat} {A : Adr} {H : Hp} : Step m n A H A H := ⟨fun _ _ h _ => h, fun _ h => .inl h⟩
theorem Step.same {m : Addr} {n : Nat} {A : Adr} {H H' : Hp} (s : Same H H') : Step m n A H A H' := ⟨fun b o h _ => s b o h, fun _ h => .inl h⟩
theorem Step.up {m : Addr} {n : Nat} {A : Adr} {H : Hp} {b : Addr} {o : HO} (hb : Foot m A n b) : Step m n A H A (upd H b o) := ⟨fun c u e hc => by
    rw [upd_ne (fun q => hc (by rw [q]; exact hb))]
    exact e, fun _ h => .inl h⟩
theorem Step.trans {m : Addr} {n : Nat} {A A1 A2 : Adr} {H H1 H2 : Hp} (a : Step m n A H A1 H1) (b : Step m n A1 H1 A2 H2) : Step m n A H A2 H2 := by
  have keep : ∀ c o, H c = some o → ¬ Foot m A n c → ¬ Foot m A1 n c := fun c o e hc h => by
    rcases a.foot c h with q | q
    · exact hc q
    · rw [e] at q
      cases q
  refine ⟨fun c o e hc => b.chg c o (a.chg c o e hc) (keep c o e hc), fun c h => ?_⟩
  rcases b.foot c h with q | q
  · exact a.foot c q
  · by_cases hc : Foot m A n c
    · exact .inl hc
    · refine .inr ?_
      cases e : H c with
      | none => rfl
      | some o =>
        rw [a.chg c o e hc] at q
        cases q
/-- what is tracked outside stays so -/
theorem Step.out {m : Addr} {n : Nat} {A A1 : Adr} {H H1 : Hp} (a : Step m n A H A1 H1) {c : Addr} {o : HO} (e : H c = some o) (hc : ¬ Foot m A n c) : H1 c = some o ∧ ¬ Foot m A1 n c := by
  refine ⟨a.chg c o e hc, fun h => ?_⟩
  rcases a.foot c h with q | q
  · exact hc q
  · rw [e] at q
    cases q
def MS.withTr (S : MS) (tr : Nat → List V) : MS := ⟨S.count, S.ps, tr, S.lost, S.notes, S.log⟩
def MS.withPs (S : MS) (ps : List V) : MS := ⟨S.count, ps, S.tr, S.lost, S.notes, S.log⟩
def MS.withLost (S : MS) (l : Nat → Int) : MS := ⟨S.count, S.ps, S.tr, l, S.notes, S.log⟩
def MS.withNotes (S : MS) (n : List (List (Key × V))) : MS := ⟨S.count, S.ps, S.tr, S.lost, n, S.log⟩
def MS.withCount (S : MS) (c : Int) : MS := ⟨c, S.ps, S.tr, S.lost, S.notes, S.log⟩
def MS.withLog (S : MS) (l : List V) : MS := ⟨S.count, S.ps, S.tr, S.lost, S.notes, l⟩
section
variable {C M : Addr} {H : Hp} {m : Addr} {t w r : Nat} {A : Adr} {S : MS}
theorem MemAt.setTr (D : MemAt C M H m t w r A S) {j : Nat} (hj : j < t + w + r) (l : List V) : MemAt C M (upd H (A.tl j) (.lst l)) m t w r A (S.withTr (sett S.tr j l)) := by
  have hl := D.tr.l j hj
  obtain ⟨dx, ho⟩ := D.ob
  obtain ⟨da, hlay⟩ := D.lay
  obtain ⟨d1, d2, d3⟩ := D.d1 j hj
  refine ⟨⟨dx, ?_⟩, ⟨da, ?_⟩, ?_, ⟨?_, fun i hi => ?_, D.tr.inj⟩, ?_, ?_, D.nn, D.nd, fun i b hb => ?_, ?_, D.d1, D.d2, D.d3, D.d4, D.d5⟩
  · rw [upd_ne (ne_of ho hl (by intro z; cases z))]; exact ho
  · rw [upd_ne (ne_of hlay hl (by intro z; cases z))]; exact hlay
  · rw [upd_ne d1.symm]; exact D.ps
  · rw [upd_ne (ne_of D.tr.d hl (by intro z; cases z))]; exact D.tr.d
  · show upd H (A.tl j) (.lst l) (A.tl i) = some (.lst (sett S.tr j l i))
    by_cases c : i = j
    · rw [c, upd_same, sett_same]
    · rw [sett_ne c, upd_ne (fun e => c (D.tr.inj i j hi hj e))]; exact D.tr.l i hi
  · rw [upd_ne (ne_of D.ld hl (by intro z; cases z))]; exact D.ld
  · rw [upd_ne d3.symm]; exact D.nl
  · obtain ⟨ns, e1, e2⟩ := D.no i b hb
    exact ⟨ns, e1, by rw [upd_ne (ne_of e2 hl (by intro z; cases z))]; exact e2⟩
  · rw [upd_ne d2.symm]; exact D.gl
theorem MemAt.setPs (D : MemAt C M H m t w r A S) (l : List V) : MemAt C M (upd H A.pl (.lst l)) m t w r A (S.withPs l) := by
  have hl := D.ps
  obtain ⟨dx, ho⟩ := D.ob
  obtain ⟨da, hlay⟩ := D.lay
  refine ⟨⟨dx, ?_⟩, ⟨da, ?_⟩, upd_same, ⟨?_, fun i hi => ?_, D.tr.inj⟩, ?_, ?_, D.nn, D.nd, fun i b hb => ?_, ?_, D.d1, D.d2, D.d3, D.d4, D.d5⟩
  · rw [upd_ne (ne_of ho hl (by intro z; cases z))]; exact ho
  · rw [upd_ne (ne_of hlay hl (by intro z; cases z))]; exact hlay
  · rw [upd_ne (ne_of D.tr.d hl (by intro z; cases z))]; exact D.tr.d
  · rw [upd_ne (D.d1 i hi).1]; exact D.tr.l i hi
  · rw [upd_ne (ne_of D.ld hl (by intro z; cases z))]; exact D.ld
  · rw [upd_ne D.d2.2.1.symm]; exact D.nl
  · obtain ⟨ns, e1, e2⟩ := D.no i b hb
    exact ⟨ns, e1, by rw [upd_ne (ne_of e2 hl (by intro z; cases z))]; exact e2⟩
  · rw [upd_ne D.d2.1.symm]; exact D.gl
theorem MemAt.setLost (D : MemAt C M H m t w r A S) (lo : Nat → Int) : MemAt C M (upd H A.ld (.dK (kv ((1 + t : Nat) : Int) (t + w + r) fun j => .int (lo j)))) m t w r A (S.withLost lo) := by
  have hl := D.ld
  obtain ⟨dx, ho⟩ := D.ob
  obtain ⟨da, hlay⟩ := D.lay
  refine ⟨⟨dx, ?_⟩, ⟨da, ?_⟩, ?_, ⟨?_, fun i hi => ?_, D.tr.inj⟩, upd_same, ?_, D.nn, D.nd, fun i b hb => ?_, ?_, D.d1, D.d2, D.d3, D.d4, D.d5⟩
  · rw [upd_ne (ne_of ho hl (by intro z; cases z))]; exact ho
  · rw [upd_ne (ne_of hlay hl (by intro z; cases z))]; exact hlay
  · rw [upd_ne (ne_of D.ps hl (by intro z; cases z))]; exact D.ps
  · rw [upd_ne D.d3]; exact D.tr.d
  · rw [upd_ne (ne_of (D.tr.l i hi) hl (by intro z; cases z))]; exact D.tr.l i hi
  · rw [upd_ne (ne_of D.nl hl (by intro z; cases z))]; exact D.nl
  · obtain ⟨ns, e1, e2⟩ := D.no i b hb
    exact ⟨ns, e1, by rw [upd_ne (D.d4 b (List.mem_of_getElem? hb)).2]; exact e2⟩
  · rw [upd_ne (ne_of D.gl hl (by intro z; cases z))]; exact D.gl
theorem MemAt.setCount (D : MemAt C M H m t w r A S) (c : Int) (dx : Addr) : MemAt C M (upd H m (.ins M dx (mf A c))) m t w r A (S.withCount c) := by
  obtain ⟨dx', hl⟩ := D.ob
  obtain ⟨da, hlay⟩ := D.lay
  refine ⟨⟨dx, upd_same⟩, ⟨da, ?_⟩, ?_, ⟨?_, fun i hi => ?_, D.tr.inj⟩, ?_, ?_, D.nn, D.nd, fun i b hb => ?_, ?_, D.d1, D.d2, D.d3, D.d4, D.d5⟩
  · rw [upd_ne D.d5.symm]; exact hlay
  · rw [upd_ne (ne_of D.ps hl (by intro z; cases z))]; exact D.ps
  · rw [upd_ne (ne_of D.tr.d hl (by intro z; cases z))]; exact D.tr.d
  · rw [upd_ne (ne_of (D.tr.l i hi) hl (by intro z; cases z))]; exact D.tr.l i hi
  · rw [upd_ne (ne_of D.ld hl (by intro z; cases z))]; exact D.ld
  · rw [upd_ne (ne_of D.nl hl (by intro z; cases z))]; exact D.nl
  · obtain ⟨ns, e1, e2⟩ := D.no i b hb
    exact ⟨ns, e1, by rw [upd_ne (ne_of e2 hl (by intro z; cases z))]; exact e2⟩
  · rw [upd_ne (ne_of D.gl hl (by intro z; cases z))]; exact D.gl
theorem MemAt.setLog (D : MemAt C M H m t w r A S) (l : List V) : MemAt C M (upd H A.gl (.lst l)) m t w r A (S.withLog l) := by
  have hl := D.gl
  obtain ⟨dx, ho⟩ := D.ob
  obtain ⟨da, hlay⟩ := D.lay
  refine ⟨⟨dx, ?_⟩, ⟨da, ?_⟩, ?_, ⟨?_, fun i hi => ?_, D.tr.inj⟩, ?_, ?_, D.nn, D.nd, fun i b hb => ?_, upd_same, D.d1, D.d2, D.d3, D.d4, D.d5⟩
  · rw [upd_ne (ne_of ho hl (by intro z; cases z))]; exact ho
  · rw [upd_ne (ne_of hlay hl (by intro z; cases z))]; exact hlay
  · rw [upd_ne D.d2.1]; exact D.ps
  · rw [upd_ne (ne_of D.tr.d hl (by intro z; cases z))]; exact D.tr.d
  · rw [upd_ne (D.d1 i hi).2.1]; exact D.tr.l i hi
  · rw [upd_ne (ne_of D.ld hl (by intro z; cases z))]; exact D.ld
  · rw [upd_ne D.d2.2.2.symm]; exact D.nl
  · obtain ⟨ns, e1, e2⟩ := D.no i b hb
    exact ⟨ns, e1, by rw [upd_ne (ne_of e2 hl (by intro z; cases z))]; exact e2⟩
theorem MemAt.setNotes (D : MemAt C M H m t w r A S) {i : Nat} {b : Addr} (hb : A.na[i]? = some b) (ns : List (Key × V)) : MemAt C M (upd H b (.dK ns)) m t w r A (S.withNotes (S.notes.set i ns)) := by
  obtain ⟨ns0, n1, hl⟩ := D.no i b hb
  obtain ⟨dx, ho⟩ := D.ob
  obtain ⟨da, hlay⟩ := D.lay
  obtain ⟨d1, d2⟩ := D.d4 b (List.mem_of_getElem? hb)
  refine ⟨⟨dx, ?_⟩, ⟨da, ?_⟩, ?_, ⟨?_, fun k hk => ?_, D.tr.inj⟩, ?_, ?_, D.nn, D.nd, fun k c hc => ?_, ?_, D.d1, D.d2, D.d3, D.d4, D.d5⟩
  · rw [upd_ne (ne_of ho hl (by intro z; cases z))]; exact ho
  · rw [upd_ne (ne_of hlay hl (by intro z; cases z))]; exact hlay
  · rw [upd_ne (ne_of D.ps hl (by intro z; cases z))]; exact D.ps
  · rw [upd_ne d1.symm]; exact D.tr.d
  · rw [upd_ne (ne_of (D.tr.l k hk) hl (by intro z; cases z))]; exact D.tr.l k hk
  · rw [upd_ne d2.symm]; exact D.ld
  · rw [upd_ne (ne_of D.nl hl (by intro z; cases z))]; exact D.nl
  · by_cases e : k = i
    · subst e
      have ec : c = b := Option.some.inj (hc.symm.trans hb)
      subst ec
      refine ⟨ns, ?_, upd_same⟩
      show (S.notes.set k ns)[k]? = some ns
      exact List.getElem?_set_self (List.getElem?_eq_some_iff.mp n1).1
    · obtain ⟨ns', e1, e2⟩ := D.no k c hc
      refine ⟨ns', ?_, ?_⟩
      · show (S.notes.set i ns)[k]? = some ns'
        rw [List.getElem?_set_ne (fun z => e z.symm)]
        exact e1
      · rw [upd_ne (fun z => e (nd_ix D.nd hc (by rw [z]; exact hb)))]
        exact e2
  · rw [upd_ne (ne_of D.gl hl (by intro z; cases z))]; exact D.gl
/-- a thread's notes are a new dict -/
theorem MemAt.newNotes (D : MemAt C M H m t w r A S) {i : Nat} (hi : i < t) {H1 : Hp} {p : Addr} (s : Same H H1) (hp : H p = none) (h1 : H1 p = some (.dK [])) :
    MemAt C M (upd H1 A.nl (.lst ((A.na.set i p).map V.ref))) m t w r { A with na := A.na.set i p } (S.withNotes (S.notes.set i [])) := by
  have hl := s _ _ D.nl
  obtain ⟨dx, ho⟩ := D.ob
  obtain ⟨da, hlay⟩ := D.lay
  have pn : ∀ {b : Addr} {o : HO}, H b = some o → b ≠ p := fun {b o} e => ne_of_none e hp
  have hlen : i < A.na.length := by rw [D.nn]; exact hi
  have memP : ∀ b, b ∈ A.na.set i p → b = p ∨ b ∈ A.na := fun b hb => by
    rcases List.mem_or_eq_of_mem_set hb with q | q
    · exact .inr q
    · exact .inl q
  refine ⟨⟨dx, ?_⟩, ⟨da, ?_⟩, ?_, ⟨?_, fun k hk => ?_, D.tr.inj⟩, ?_, upd_same, ?_, ?_, fun k c hc => ?_, ?_, D.d1, D.d2, D.d3, fun b hb => ?_, D.d5⟩
  · rw [upd_ne (ne_of (s _ _ ho) hl (by intro z; cases z))]; exact s _ _ ho
  · rw [upd_ne (ne_of (s _ _ hlay) hl (by intro z; cases z))]; exact s _ _ hlay
  · rw [upd_ne D.d2.2.1]; exact s _ _ D.ps
  · rw [upd_ne (ne_of (s _ _ D.tr.d) hl (by intro z; cases z))]; exact s _ _ D.tr.d
  · rw [upd_ne (D.d1 k hk).2.2]; exact s _ _ (D.tr.l k hk)
  · rw [upd_ne (ne_of (s _ _ D.ld) hl (by intro z; cases z))]; exact s _ _ D.ld
  · show (A.na.set i p).length = t
    rw [List.length_set]
    exact D.nn
  · show (A.na.set i p).Nodup
    have np : p ∉ A.na := fun hm => by
      obtain ⟨k, hk⟩ := List.getElem?_of_mem hm
      obtain ⟨ns, _, e2⟩ := D.no k p hk
      rw [hp] at e2
      cases e2
    refine List.pairwise_iff_getElem.mpr fun x y hx hy hxy => ?_
    rw [List.length_set] at hx hy
    rw [List.getElem_set, List.getElem_set]
    by_cases c1 : i = x
    · rw [if_pos c1, if_neg (by omega)]
      exact fun e => np (by rw [e]; exact List.getElem_mem hy)
    · rw [if_neg c1]
      by_cases c2 : i = y
      · rw [if_pos c2]
        exact fun e => np (by rw [← e]; exact List.getElem_mem hx)
      · rw [if_neg c2]
        exact fun e => absurd ((List.getElem_inj D.nd).mp e) (by omega)
  · have hc : (A.na.set i p)[k]? = some c := hc
    by_cases e : k = i
    · subst e
      rw [List.getElem?_set_self hlen] at hc
      have ec : p = c := Option.some.inj hc
      subst ec
      obtain ⟨b0, hb0⟩ : ∃ b0, A.na[k]? = some b0 := ⟨A.na[k], List.getElem?_eq_getElem hlen⟩
      obtain ⟨ns0, n1, _⟩ := D.no k b0 hb0
      refine ⟨[], ?_, ?_⟩
      · show (S.notes.set k [])[k]? = some []
        exact List.getElem?_set_self (List.getElem?_eq_some_iff.mp n1).1
      · rw [upd_ne (pn D.nl).symm]
        exact h1
    · rw [List.getElem?_set_ne (fun z => e z.symm)] at hc
      obtain ⟨ns', e1, e2⟩ := D.no k c hc
      refine ⟨ns', ?_, ?_⟩
      · show (S.notes.set i [])[k]? = some ns'
        rw [List.getElem?_set_ne (fun z => e z.symm)]
        exact e1
      · rw [upd_ne (ne_of (s _ _ e2) hl (by intro z; cases z))]
        exact s _ _ e2
  · rw [upd_ne D.d2.2.2]; exact s _ _ D.gl
  · rcases memP b hb with e | e
    · rw [e]
      exact ⟨(pn D.tr.d).symm, (pn D.ld).symm⟩
    · exact D.d4 b e
end
end Dk

set_option maxHeartbeats 4000000
/-! a value is given, a trail is shortened -/
namespace Dk
open PySem PySem.Spec PyProof.Rows L2
abbrev sGive : Stmt := inClass (top 21) 10
abbrev sGiveIf : Stmt := inClass (top 21) 11
abbrev sFence : Stmt := inClass (top 21) 12
abbrev sShort : Stmt := inClass (top 21) 13
def MS.give (S : MS) (t i : Nat) (v : V) : MS := if i < 1 + t then S.withPs (S.ps.set i v) else S.withTr (sett S.tr (i - (1 + t)) (S.tr (i - (1 + t)) ++ [v]))
/-- by how much a trail of that length becomes shorter -/
def cutN (len : Nat) (k : Int) : Nat := min k.toNat (len - 1)
def setl (g : Nat → Int) (j : Nat) (v : Int) : Nat → Int := fun i => if i = j then v else g i
theorem setf_int (g : Nat → Int) (j : Nat) (x : Int) : setf (fun i => .int (g i)) j (.int x) = fun i => .int (setl g j x i) := by
  funext i
  unfold setf setl
  by_cases c : i = j
  · rw [if_pos c, if_pos c]
  · rw [if_neg c, if_neg c]
def MS.short (S : MS) (j : Nat) (k : Int) : MS := (S.withTr (sett S.tr j ((S.tr j).drop (cutN (S.tr j).length k)))).withLost (setl S.lost j (S.lost j + (cutN (S.tr j).length k : Nat)))
theorem many_eq {len : Nat} (hl : 0 < len) (k : Int) : (if (if (len : Int) - 1 < k then (len : Int) - 1 else k) > 0 then (if (len : Int) - 1 < k then (len : Int) - 1 else k) else 0) = ((cutN len k : Nat) : Int) := by
  unfold cutN
  by_cases c : (len : Int) - 1 < k
  · rw [if_pos c]
    split <;> omega
  · rw [if_neg c]
    split <;> omega
def spGive (C M : Addr) : Sp := fun vs H Q _ => ∃ (m : Addr) (t w r i : Nat) (A : Adr) (S : MS) (v : V), vs = [.ref m, .int (i : Int), v] ∧ MemAt C M H m t w r A S ∧ i < 1 + t + (t + w + r) ∧ (i < 1 + t → i < S.ps.length) ∧ (1 + t ≤ i → (S.tr (i - (1 + t))).length < sizeLine) ∧
  ∀ H', MemAt C M H' m t w r A (S.give t i v) → Step m (t + w + r) A H A H' → Q .non H'
def spShort (C M : Addr) : Sp := fun vs H Q _ => ∃ (m : Addr) (t w r j : Nat) (A : Adr) (S : MS) (k : Int), vs = [.ref m, .int ((1 + t + j : Nat) : Int), .int k] ∧ NOk t w r ∧ MemAt C M H m t w r A S ∧ j < t + w + r ∧ S.tr j ≠ [] ∧
  ∀ H', MemAt C M H' m t w r A (S.short j k) → Step m (t + w + r) A H A H' → Q .non H'
def spGiveIf (K : PySem.W.Frag) (C M : Addr) : Sp := fun vs H Q _ => ∃ (m : Addr) (t w r i : Nat) (A : Adr) (S : MS) (o v p : V) (tp to : Tr), vs = [.ref m, .int (i : Int), o, v] ∧ MemAt C M H m t w r A S ∧ i < 1 + t + (t + w + r) ∧ cellV S t i = some p ∧ Dvl K H p tp ∧ Dvl K H o to ∧ (i < 1 + t → i < S.ps.length) ∧ (1 + t ≤ i → (S.tr (i - (1 + t))).length < sizeLine) ∧
  (tp = to → ∀ H', MemAt C M H' m t w r A (S.give t i v) → Step m (t + w + r) A H A H' → Q (.bl true) H') ∧ (tp ≠ to → ∀ H', Same H H' → Q (.bl false) H')
section
variable {P : Program} {w : World} {K : PySem.W.Frag} {mg : Str → Option Value} {base : Heap} {C M NV LE : Addr}
theorem tr_get {H : Hp} {m : Addr} {t w r : Nat} {A : Adr} {S : MS} (D : MemAt C M H m t w r A S) {i : Nat} (h1 : 1 + t ≤ i) (h2 : i < 1 + t + (t + w + r)) : DGet H A.td (.int (i : Int)) (some (.ref (A.tl (i - (1 + t))))) := by
  have hj : i - (1 + t) < t + w + r := by omega
  have ei : ((1 + t : Nat) : Int) + ((i - (1 + t) : Nat) : Int) = (i : Int) := by omega
  have := DGet.k (k := (Sum.inl (i : Int) : Key)) D.tr.d
  rw [← ei, kv_val _ _ _ _ hj, ei] at this
  exact this
theorem scGive : FnScope ["self", "cell", "value"] ["self", "cell", "value"] (defScope sGive) := ⟨rfl, rfl, rfl, by decide +kernel, rfl, by decide +kernel, by decide +kernel⟩
theorem mo_give (F : MT K M "_give" "Memory._give" sGive ["self", "cell", "value"]) (T : LTxt K mg C) (TM : MTxt K M) (GL : MO P w K mg base CX0 C 7 "is_lasting" ["self", "cell"] (spLV C fun t w r v => .bl (lastB t w r v))) :
    MO P w K mg base CX0 M 8 "_give" ["self", "cell", "value"] (spGive C M) := by
  obtain ⟨f, fd, F, hm, hb⟩ := F
  refine ⟨f, fd, ?_, hm, hb⟩
  refine F.ok scGive (fun vs H Q E h => ?_) (fun cdv A outer s H vs Q E hr h => ?_)
  · obtain ⟨m, t, w, r, i, A, S, v, rfl, _⟩ := h
    rfl
  · obtain ⟨m, t, w, r, i, B, S, v, rfl, D, hi, hp, hs, k⟩ := h
    obtain ⟨dx, h1⟩ := D.ob
    obtain ⟨da, ha⟩ := D.lay
    have hu := hu_of hr
    refine ⟨_, pss_one (ps_if (pt_val (pm_ GL T.cl hr (pe_fld (pv 0) rfl) (pa_cons (pv 1) pa_nil)))
      (pss_one (ps_expr (pe_bm PySem.F.plainAttrs_list PySem.F.slot_list_append PySem.F.type_list_append mt_append (pe_dget hu (pe_fld (pv 0) rfl) (pv 1) (fun _ _ => rfl)) (pa_cons (pv 2) pa_nil))))
      (pss_one (ps_asg (pv 2) (pg_sub (pe_fld (pv 0) rfl) (pv 1) set_list)))), ?_⟩
    refine ⟨_, rfl, m, M, dx, _, _, rfl, h1, TM.cl, TM.nL, rfl, B.a, da, _, rfl, ha, rfl, _, rfl, B.a, t, w, r, _, "int", rfl, rfl, ⟨da, ha⟩, _, rfl, ?_⟩
    rw [lastB_nat]
    unfold MS.give at k
    by_cases c : i < 1 + t
    · rw [if_pos c] at k
      refine iteND (by omega) ?_
      have hx : ixN S.ps.length (i : Int) = some i := by
        unfold ixN
        have := hp c
        rw [if_pos (by omega), if_pos (by omega)]
        rfl
      exact ⟨_, rfl, _, rfl, m, M, dx, _, _, rfl, h1, TM.cl, TM.nP, rfl, _, rfl, B.pl, _, _, i, rfl, rfl, D.ps, hx, k _ (D.setPs _) (Step.up (.inr (.inl rfl)))⟩
    · rw [if_neg c] at k
      refine iteD ⟨by omega, hi⟩ ?_
      have hj : i - (1 + t) < t + w + r := by omega
      have hl := D.tr.l _ hj
      exact ⟨_, rfl, m, M, dx, _, _, rfl, h1, TM.cl, TM.nT, rfl, _, rfl, B.td, _, rfl, tr_get D (by omega) hi, .inl ⟨rfl, _, SqL.of hl⟩, _, rfl, _, _, _, rfl, rfl, hl, hs (by omega),
        k _ (D.setTr hj _) (Step.up (.inr (.inr (.inr (.inr (.inr (.inr (.inl ⟨_, hj, rfl⟩))))))))⟩
theorem scShort : FnScope ["self", "cell", "steps", "trail", "many"] ["self", "cell", "steps"] (defScope sShort) := ⟨rfl, rfl, rfl, by decide +kernel, rfl, by decide +kernel, by decide +kernel⟩
theorem mo_short (F : MT K M "_shorten" "Memory._shorten" sShort ["self", "cell", "steps"]) (T : LTxt K mg C) (TM : MTxt K M) (zx : mg "max" = none) (zn : mg "min" = none) : MO P w K mg base CX0 M 1 "_shorten" ["self", "cell", "steps"] (spShort C M) := by
  obtain ⟨f, fd, F, hm, hb⟩ := F
  refine ⟨f, fd, ?_, hm, hb⟩
  refine F.ok scShort (fun vs H Q E h => ?_) (fun cdv A outer s H vs Q E hr h => ?_)
  · obtain ⟨m, t, w, r, j, A, S, k, rfl, _⟩ := h
    rfl
  · obtain ⟨m, t, w, r, j, B, S, x, rfl, nok, D, hj, hne, k⟩ := h
    obtain ⟨dx, h1⟩ := D.ob
    have hu := hu_of hr
    have nd := scShort.nd
    refine ⟨_, pss_cons (ps_set (i := 3) nd rfl (Or.inl rfl) (pe_dget hu (pe_fld (pv 0) rfl) (pv 1) (fun _ _ => rfl)))
      (pss_cons (ps_set (i := 4) nd rfl (Or.inl rfl) (pe_callB (call_max2 rfl) (by rfl) zx (by decide +kernel) (pa_cons pe_int (pa_cons (pe_callB (call_min2 rfl) (by rfl) zn (by decide +kernel) (pa_cons (pv 2)
        (pa_cons (pe_op op_sub (pe_callB call_len_seq (by rfl) T.bn.len PySem.boot_len (pa_cons (pv 3) pa_nil)) pe_int) pa_nil))) pa_nil))))
      (pss_cons (ps_delSl (pv 3) po_none (po_some (pv 4)))
      (pss_one (ps_daug hu (pe_fld (pv 0) rfl) (pv 1) (pv 4) in_add (fun _ _ _ => rfl))))), ?_⟩
    have hl := D.tr.l j hj
    have hg : DGet H B.td (.int ((1 + t + j : Nat) : Int)) (some (.ref (B.tl j))) := by
      have := tr_get D (i := 1 + t + j) (by omega) (by omega)
      rw [show 1 + t + j - (1 + t) = j by omega] at this
      exact this
    have hpos : 0 < (S.tr j).length := List.length_pos_iff.mpr hne
    refine ⟨_, rfl, m, M, dx, _, _, rfl, h1, TM.cl, TM.nT, rfl, _, rfl, B.td, _, rfl, hg, ?_⟩
    refine ⟨_, rfl, _, rfl, B.tl j, _, rfl, .inl (SqL.of hl), _, _, rfl, rfl, _, _, rfl, _, _, rfl, ?_⟩
    rw [many_eq hpos x]
    have hc : cutN (S.tr j).length x ≤ (S.tr j).length := by unfold cutN; omega
    refine ⟨_, rfl, _, rfl, _, rfl, B.tl j, S.tr j, 0, cutN (S.tr j).length x, rfl, hl, bounds_head hc, Nat.zero_le _, ?_⟩
    rw [List.take_zero, List.nil_append]
    have D2 := D.setTr hj ((S.tr j).drop (cutN (S.tr j).length x))
    obtain ⟨dx2, h2⟩ := D2.ob
    have hg2 : DGet (upd H (B.tl j) (.lst ((S.tr j).drop (cutN (S.tr j).length x)))) B.ld (.int ((1 + t + j : Nat) : Int)) (some (.int (S.lost j))) := by
      have := DGet.k (k := (Sum.inl ((1 + t + j : Nat) : Int) : Key)) D2.ld
      rw [show ((1 + t + j : Nat) : Int) = ((1 + t : Nat) : Int) + (j : Int) by omega, kv_val _ _ _ _ hj, show ((1 + t : Nat) : Int) + (j : Int) = ((1 + t + j : Nat) : Int) by omega] at this
      exact this
    have hsl : sizeLine = 16777216 := sizeLine_eq
    refine ⟨_, rfl, m, M, dx2, _, _, rfl, h2, TM.cl, TM.nO, rfl, _, rfl, B.ld, _, rfl, hg2, _, rfl, _, _, rfl, rfl, _, DPut.k (k := Sum.inl _) D2.ld (by rw [kv_len]; have := nok.t3; have := nok.w4; have := nok.r200; omega), ?_⟩
    rw [show ((1 + t + j : Nat) : Int) = ((1 + t : Nat) : Int) + (j : Int) by omega, kv_put _ _ _ _ _ hj]
    have e3 : setf (fun j => .int (S.lost j)) j (.int (S.lost j + (cutN (S.tr j).length x : Nat))) = fun i => .int (setl S.lost j (S.lost j + (cutN (S.tr j).length x : Nat)) i) := setf_int _ _ _
    have e4 : (fun j => V.int ((S.withTr (sett S.tr j ((S.tr j).drop (cutN (S.tr j).length x)))).lost j)) = fun j => V.int (S.lost j) := rfl
    refine k _ ?_ ((Step.up (.inr (.inr (.inr (.inr (.inr (.inr (.inl ⟨_, hj, rfl⟩)))))))).trans (Step.up (.inr (.inr (.inr (.inl rfl))))))
    have D3 := D2.setLost (setl S.lost j (S.lost j + (cutN (S.tr j).length x : Nat)))
    rw [← e3] at D3
    exact D3
theorem scGiveIf : FnScope ["self", "cell", "old", "new"] ["self", "cell", "old", "new"] (defScope sGiveIf) := ⟨rfl, rfl, rfl, by decide +kernel, rfl, by decide +kernel, by decide +kernel⟩
theorem mo_giveif (F : MT K M "_give_if" "Memory._give_if" sGiveIf ["self", "cell", "old", "new"]) (T : LTxt K mg C) (TM : MTxt K M) (GS : GO P w K mg base CX0 1 "is_same" ["one", "other"] (spIsSameD K))
    (GP : MO P w K mg base CX0 M 8 "peek" ["self", "cell"] (spPeek C M)) (GG : MO P w K mg base CX0 M 8 "_give" ["self", "cell", "value"] (spGive C M)) : MO P w K mg base CX0 M 9 "_give_if" ["self", "cell", "old", "new"] (spGiveIf K C M) := by
  obtain ⟨f, fd, F, hm, hb⟩ := F
  refine ⟨f, fd, ?_, hm, hb⟩
  refine F.ok scGiveIf (fun vs H Q E h => ?_) (fun cdv A outer s H vs Q E hr h => ?_)
  · obtain ⟨m, t, w, r, i, A, S, o, v, p, tp, to, rfl, _⟩ := h
    rfl
  · obtain ⟨m, t, w, r, i, B, S, o, v, p, tp, to, rfl, D, hi, hv, fp, fo, hp, hs, k1, k2⟩ := h
    have hsl : sizeLine = 16777216 := sizeLine_eq
    have hzp := fp.z
    obtain ⟨dx, h1⟩ := D.ob
    refine ⟨_, pss_cons (ps_if (pt_not (pt_val (pc_ GS (hr.mono (by decide)) (pa_cons (pm_ GP TM.cl hr (pv 0) (pa_cons (pv 1) pa_nil)) (pa_cons (pv 2) pa_nil))))) (pss_one (ps_ret pe_bl)) pss_nil)
      (pss_cons (ps_expr (pm_ GG TM.cl hr (pv 0) (pa_cons (pv 1) (pa_cons (pv 3) pa_nil)))) (pss_one (ps_ret pe_bl))), ?_⟩
    refine ⟨_, rfl, m, dx, _, rfl, h1, rfl, _, rfl, m, t, w, r, i, B, S, p, rfl, D, hi, hv, _, rfl, p, o, tp, to, rfl, fp.d, fo.d, fp.o, fo.o, by omega, fun bb H1 s1 hbb => ⟨_, rfl, ?_⟩⟩
    cases bb with
    | true =>
      refine iteF ?_
      have D1 := D.same s1
      obtain ⟨dx1, h2⟩ := D1.ob
      exact ⟨_, rfl, m, dx1, _, rfl, h2, rfl, _, rfl, _, rfl, m, t, w, r, i, B, S, v, rfl, D1, hi, hp, hs, fun H2 D2 s2 => k1 (hbb.mp rfl) H2 D2 ((Step.same s1).trans s2)⟩
    | false => exact iteT (k2 (fun e => absurd (hbb.mpr e) (by decide)) H1 s1)
end
end Dk

set_option maxHeartbeats 4000000
/-! a fence -/
namespace Dk
open PySem PySem.Spec PyProof.Rows L2
/-- the notes of a thread: index of the lasting cell, place -/
def nkv (t : Nat) (l : List (Nat × Int)) : List (Key × V) := l.map fun p => ((Sum.inl ((1 + t + p.1 : Nat) : Int) : Key), V.int p.2)
def fenceS (S : MS) (l : List (Nat × Int)) : MS := l.foldl (fun S p => S.short p.1 (p.2 - S.lost p.1)) S
theorem fenceS_take {S : MS} {l : List (Nat × Int)} {i : Nat} {p : Nat × Int} (h : l[i]? = some p) : fenceS S (l.take (i + 1)) = (fenceS S (l.take i)).short p.1 (p.2 - (fenceS S (l.take i)).lost p.1) := by
  have hi : i < l.length := (List.getElem?_eq_some_iff.mp h).1
  have e : l.take (i + 1) = l.take i ++ [p] := by
    rw [List.take_succ, h]
    rfl
  unfold fenceS
  rw [e, List.foldl_append]
  rfl
theorem short_ne {S : MS} {j : Nat} {k : Int} {n : Nat} (h : ∀ i, i < n → S.tr i ≠ []) : ∀ i, i < n → (S.short j k).tr i ≠ [] := fun i hi => by
  show sett S.tr j ((S.tr j).drop (cutN (S.tr j).length k)) i ≠ []
  by_cases c : i = j
  · subst c
    rw [sett_same]
    have h1 := h i hi
    have h2 : 0 < (S.tr i).length := List.length_pos_iff.mpr h1
    refine List.length_pos_iff.mp ?_
    rw [List.length_drop]
    unfold cutN
    omega
  · rw [sett_ne c]
    exact h i hi
theorem fence_ne {n : Nat} : ∀ {l : List (Nat × Int)} {S : MS}, (∀ i, i < n → S.tr i ≠ []) → ∀ i, i < n → (fenceS S l).tr i ≠ []
  | [], _, h => h
  | p :: l, S, h => fence_ne (l := l) (S := S.short p.1 (p.2 - S.lost p.1)) (short_ne h)
/-- an object outside of the memory changes -/
theorem MemAt.outer {C M : Addr} {H H' : Hp} {m b : Addr} {t w r : Nat} {A : Adr} {S : MS} (D : MemAt C M H m t w r A S) (k : ∀ c o, H c = some o → c ≠ b → H' c = some o) (hb : ¬ Foot m A (t + w + r) b) (ha : b ≠ A.a) : MemAt C M H' m t w r A S := by
  have f : ∀ {c : Addr} {o : HO}, H c = some o → Foot m A (t + w + r) c → H' c = some o := fun {c o} e h => k c o e fun q => hb (by rw [← q]; exact h)
  obtain ⟨dx, ho⟩ := D.ob
  obtain ⟨da, hlay⟩ := D.lay
  exact ⟨⟨dx, f ho (.inl rfl)⟩, ⟨da, k _ _ hlay ha.symm⟩, f D.ps (.inr (.inl rfl)), ⟨f D.tr.d (.inr (.inr (.inl rfl))), fun j hj => f (D.tr.l j hj) (.inr (.inr (.inr (.inr (.inr (.inr (.inl ⟨j, hj, rfl⟩))))))), D.tr.inj⟩, f D.ld (.inr (.inr (.inr (.inl rfl)))),
    f D.nl (.inr (.inr (.inr (.inr (.inl rfl))))), D.nn, D.nd, fun i c hc => let ⟨ns, e1, e2⟩ := D.no i c hc; ⟨ns, e1, f e2 (.inr (.inr (.inr (.inr (.inr (.inr (.inr (List.mem_of_getElem? hc))))))))⟩, f D.gl (.inr (.inr (.inr (.inr (.inr (.inl rfl)))))), D.d1, D.d2, D.d3, D.d4, D.d5⟩
def spFence (C M : Addr) : Sp := fun vs H Q _ => ∃ (m : Addr) (t w r th : Nat) (A : Adr) (S : MS) (l : List (Nat × Int)), vs = [.ref m, .int (th : Int)] ∧ NOk t w r ∧ MemAt C M H m t w r A S ∧ th < t ∧ S.notes[th]? = some (nkv t l) ∧ (∀ p, p ∈ l → p.1 < t + w + r) ∧ (∀ j, j < t + w + r → S.tr j ≠ []) ∧
  ∀ (A' : Adr) (H' : Hp), A'.a = A.a → MemAt C M H' m t w r A' (fenceS (S.withNotes (S.notes.set th [])) l) → Step m (t + w + r) A H A' H' → Q .non H'
section
variable {P : Program} {w : World} {K : PySem.W.Frag} {mg : Str → Option Value} {base : Heap} {C M NV LE : Addr}
theorem scFence : FnScope ["self", "thread", "notes", "cell", "place"] ["self", "thread"] (defScope sFence) := ⟨rfl, rfl, rfl, by decide +kernel, rfl, by decide +kernel, by decide +kernel⟩
theorem mo_fence (F : MT K M "_fence" "Memory._fence" sFence ["self", "thread"]) (TM : MTxt K M) (GS : MO P w K mg base CX0 M 1 "_shorten" ["self", "cell", "steps"] (spShort C M)) : MO P w K mg base CX0 M 2 "_fence" ["self", "thread"] (spFence C M) := by
  obtain ⟨f, fd, F, hm, hb⟩ := F
  refine ⟨f, fd, ?_, hm, hb⟩
  refine F.ok scFence (fun vs H Q E h => ?_) (fun cdv A outer s H vs Q E hr h => ?_)
  · obtain ⟨m, t, w, r, th, A, S, l, rfl, _⟩ := h
    rfl
  · obtain ⟨m, t, w, r, th, B, S, l, rfl, nok, D, hth, hns, hl, hne, k⟩ := h
    obtain ⟨dx, h1⟩ := D.ob
    have hu := hu_of hr
    have nd := scFence.nd
    refine ⟨_, pss_cons (ps_set (i := 2) nd rfl (Or.inl rfl) (pe_ix ix_list (pe_fld (pv 0) rfl) (pv 1) (fun _ _ => rfl)))
      (pss_cons (ps_asg pe_dnewK (pg_sub (pe_fld (pv 0) rfl) (pv 1) set_list))
      (pss_one (ps_lock (ps_for PassesOwn.never rfl (pi_items (pv 2)) (pg_tup (by rfl) (pgs_cons (pg_name (i := 3) nd rfl (Or.inl rfl)) (pgs_cons (pg_name (i := 4) nd rfl (Or.inl rfl)) pgs_nil)))
        (pss_one (ps_expr (pm_ GS TM.cl hr (pv 0) (pa_cons (pv 3) (pa_cons (pe_op op_sub (pv 4) (pe_dget hu (pe_fld (pv 0) rfl) (pv 3) (fun _ _ => rfl))) pa_nil))))))))), ?_⟩
    have hlen : th < B.na.length := by rw [D.nn]; exact hth
    obtain ⟨b, hbn⟩ : ∃ b, B.na[th]? = some b := ⟨B.na[th], List.getElem?_eq_getElem hlen⟩
    obtain ⟨ns, e1, hbd⟩ := D.no th b hbn
    rw [hns] at e1
    have e1 := (Option.some.inj e1).symm
    subst e1
    have hbm : b ∈ B.na := List.mem_of_getElem? hbn
    have hv : (B.na.map V.ref)[th]? = some (.ref b) := by rw [List.getElem?_map, hbn]; rfl
    refine ⟨_, rfl, m, M, dx, _, _, rfl, h1, TM.cl, TM.nN, rfl, _, rfl, B.nl, _, _, _, rfl, rfl, SqL.of D.nl, atI_nat hv, fun p hp => ?_⟩
    have s1 : Same H (upd H p (.dK [])) := fun c o e => by rw [upd_ne (ne_of_none e hp)]; exact e
    have hx : ixN (B.na.map V.ref).length (th : Int) = some th := by
      unfold ixN
      rw [List.length_map, if_pos (by omega), if_pos (by omega)]
      rfl
    refine ⟨_, rfl, m, M, dx, _, _, rfl, s1 _ _ h1, TM.cl, TM.nN, rfl, _, rfl, B.nl, _, _, th, rfl, rfl, s1 _ _ D.nl, hx, ?_⟩
    have D1 := D.newNotes hth s1 hp upd_same
    have esm : (B.na.map V.ref).set th (.ref p) = (B.na.set th p).map V.ref := by rw [List.map_set]
    rw [esm]
    generalize hA : ({ B with na := B.na.set th p } : Adr) = B1 at D1
    have hBa : B1.a = B.a := by rw [← hA]
    have pb : b ≠ p := ne_of_none hbd hp
    have hb1 : ∀ o, upd (upd H p (.dK [])) B.nl (.lst o) b = some (.dK (nkv t l)) := fun o => by
      rw [upd_ne (ne_of hbd D.nl (by intro z; cases z)), upd_ne pb]
      exact hbd
    have hst : Step m (t + w + r) B H B1 (upd (upd H p (.dK [])) B.nl (.lst ((B.na.set th p).map V.ref))) := by
      refine ⟨fun c o e hc => ?_, fun c hc => ?_⟩
      · rw [upd_ne (fun q => hc (by rw [q]; exact .inr (.inr (.inr (.inr (.inl rfl))))))]
        exact s1 c o e
      · rw [← hA] at hc
        rcases hc with q | q | q | q | q | q | q | q
        · exact .inl (.inl q)
        · exact .inl (.inr (.inl q))
        · exact .inl (.inr (.inr (.inl q)))
        · exact .inl (.inr (.inr (.inr (.inl q))))
        · exact .inl (.inr (.inr (.inr (.inr (.inl q)))))
        · exact .inl (.inr (.inr (.inr (.inr (.inr (.inl q))))))
        · exact .inl (.inr (.inr (.inr (.inr (.inr (.inr (.inl q)))))))
        · rcases List.mem_or_eq_of_mem_set (show c ∈ B.na.set th p from q) with q | q
          · exact .inl (.inr (.inr (.inr (.inr (.inr (.inr (.inr q)))))))
          · rw [q]
            exact .inr hp
    have nfb : ¬ Foot m B1 (t + w + r) b := by
      rw [← hA]
      intro hc
      rcases hc with q | q | q | q | q | q | ⟨j, hj, q⟩ | q
      · exact ne_of hbd h1 (by intro z; cases z) q
      · exact ne_of hbd D.ps (by intro z; cases z) q
      · exact (D.d4 b hbm).1 q
      · exact (D.d4 b hbm).2 q
      · exact ne_of hbd D.nl (by intro z; cases z) q
      · exact ne_of hbd D.gl (by intro z; cases z) q
      · exact ne_of hbd (D.tr.l j hj) (by intro z; cases z) q
      · have q : b ∈ B.na.set th p := q
        obtain ⟨x, hx⟩ := List.getElem?_of_mem q
        by_cases c : x = th
        · rw [c, List.getElem?_set_self hlen] at hx
          exact pb (Option.some.inj hx).symm
        · rw [List.getElem?_set_ne (fun z => c z.symm)] at hx
          exact c (nd_ix D.nd hx hbn)
    obtain ⟨da, hlay⟩ := D.lay
    have nba : b ≠ B1.a := by
      rw [hBa]
      exact ne_of hbd hlay (by intro z; cases z)
    generalize hH2 : upd (upd H p (.dK [])) B.nl (.lst ((B.na.set th p).map V.ref)) = H2 at D1 hst
    have hb2 : H2 b = some (.dK (nkv t l)) := by rw [← hH2]; exact hb1 _
    refine ⟨b, _, hb2, trivial, fun od => ?_⟩
    have D3 := D1.outer (H' := upd H2 b (.frz od (.dK (nkv t l)))) (b := b) (fun c o e h => by rw [upd_ne h]; exact e) nfb nba
    generalize hS1 : S.withNotes (S.notes.set th []) = S1 at D1 D3 k
    have hne1 : ∀ j, j < t + w + r → S1.tr j ≠ [] := by rw [← hS1]; exact hne
    refine ⟨_, rfl, b, od, nkv t l, rfl, upd_same, for_it walk_items (fun i σ H' => ∃ c p : Option V, σ = [some (.ref m), some (.int (th : Int)), some (.ref b), c, p] ∧ MemAt C M H' m t w r B1 (fenceS S1 (l.take i)) ∧ H' b = some (.frz od (.dK (nkv t l))) ∧ Step m (t + w + r) B1 (upd H2 b (.frz od (.dK (nkv t l)))) B1 H')
      ⟨_, _, rfl, D3, upd_same, Step.refl⟩ (fun i σ H' _ ⟨_, _, _, _, q, _⟩ => q) ?_ ?_⟩
    · rintro i x σ H3 H4 hi ⟨c, pl, rfl, D4, hb4, st⟩ ⟨T0, x1, x2, rfl, nT, rfl, ex1, ex2⟩
      have hil : i < l.length := by
        unfold nkv at hi
        rw [List.length_map] at hi
        exact hi
      have hli : l[i]? = some l[i] := List.getElem?_eq_getElem hil
      have eN : (nkv t l)[i]? = some ((Sum.inl ((1 + t + l[i].1 : Nat) : Int) : Key), V.int l[i].2) := by
        unfold nkv
        rw [List.getElem?_map, hli]
        rfl
      dsimp only at ex1 ex2
      rw [eN] at ex1 ex2
      have ex1 : V.int ((1 + t + l[i].1 : Nat) : Int) = x1 := Option.some.inj ex1
      have ex2 : V.int l[i].2 = x2 := Option.some.inj ex2
      subst ex1
      subst ex2
      have sT : Same H3 (upd H3 T0 (.tup [V.int ((1 + t + l[i].1 : Nat) : Int), V.int l[i].2])) := fun c o e => by rw [upd_ne (ne_of_none e nT)]; exact e
      have D5 := D4.same sT
      have hj : l[i].1 < t + w + r := hl _ (List.getElem_mem hil)
      obtain ⟨dx5, h5⟩ := D5.ob
      refine ⟨T0, _, rfl, SqT.of upd_same, rfl, _, _, rfl, _, _, rfl, rfl, ?_⟩
      have hg : DGet (upd H3 T0 (.tup [V.int ((1 + t + l[i].1 : Nat) : Int), V.int l[i].2])) B1.ld (.int ((1 + t + l[i].1 : Nat) : Int)) (some (.int ((fenceS S1 (l.take i)).lost l[i].1))) := by
        have := DGet.k (k := (Sum.inl ((1 + t + l[i].1 : Nat) : Int) : Key)) D5.ld
        rw [show ((1 + t + l[i].1 : Nat) : Int) = ((1 + t : Nat) : Int) + (l[i].1 : Int) by omega, kv_val _ _ _ _ hj, show ((1 + t : Nat) : Int) + (l[i].1 : Int) = ((1 + t + l[i].1 : Nat) : Int) by omega] at this
        exact this
      refine ⟨_, rfl, m, dx5, _, rfl, h5, rfl, _, rfl, _, rfl, _, rfl, m, M, dx5, _, _, rfl, h5, TM.cl, TM.nO, rfl, _, rfl, B1.ld, _, rfl, hg, _, _, rfl, rfl, m, t, w, r, l[i].1, B1, _, _, rfl, nok, D5, hj, fence_ne hne1 _ hj, fun H6 D6 st6 => ?_⟩
      refine ⟨_, _, rfl, ?_, ?_, (st.trans (Step.same sT)).trans st6⟩
      · rw [fenceS_take hli]
        exact D6
      · exact st6.chg _ _ (sT _ _ hb4) nfb
    · rintro σ H3 ⟨c, pl, rfl, D4, hb4, st⟩
      have el : l.take (nkv t l).length = l := by
        unfold nkv
        rw [List.length_map, List.take_length]
      rw [el] at D4
      refine ⟨hb4, ?_⟩
      refine k B1 _ hBa (D4.outer (b := b) (fun c o e h => by rw [upd_ne h]; exact e) nfb nba) ?_
      refine hst.trans ⟨fun c o e hc => ?_, fun c hc => .inl hc⟩
      by_cases q : c = b
      · subst q
        rw [upd_same, ← e]
        exact hb2.symm
      · rw [upd_ne q]
        refine st.chg c o ?_ hc
        rw [upd_ne q]
        exact e
end
end Dk

set_option maxHeartbeats 4000000
/-! an access -/
namespace Dk
open PySem PySem.Spec PyProof.Rows L2
abbrev sAccess : Stmt := inClass (top 21) 1
abbrev sResult : Stmt := inClass (top 21) 9
def putN (l : List (Nat × Int)) (j : Nat) (x : Int) : List (Nat × Int) := if (l.any fun p => decide (p.1 = j)) = true then l.map (fun p => if p.1 = j then (p.1, x) else p) else l ++ [(j, x)]
theorem putN_kv (t : Nat) (l : List (Nat × Int)) (j : Nat) (x : Int) : putK (nkv t l) (Sum.inl ((1 + t + j : Nat) : Int) : Key) (.int x) = nkv t (putN l j x) := by
  have ek : ∀ p : Nat × Int, ((Sum.inl ((1 + t + p.1 : Nat) : Int) : Key) = Sum.inl ((1 + t + j : Nat) : Int)) ↔ p.1 = j := fun p => ⟨fun e => by have := Sum.inl.inj e; omega, fun e => by rw [e]⟩
  have ea : ((nkv t l).any fun kv => decide (kv.1 = (Sum.inl ((1 + t + j : Nat) : Int) : Key))) = (l.any fun p => decide (p.1 = j)) := by
    unfold nkv
    rw [List.any_map]
    congr 1
    funext p
    exact decide_eq_decide.mpr (ek p)
  unfold putK putN
  rw [ea]
  by_cases c : (l.any fun p => decide (p.1 = j)) = true
  · rw [if_pos c, if_pos c]
    unfold nkv
    rw [List.map_map, List.map_map]
    refine List.map_congr_left fun p _ => ?_
    show (if (Sum.inl ((1 + t + p.1 : Nat) : Int) : Key) = Sum.inl ((1 + t + j : Nat) : Int) then _ else _) = _
    by_cases e : p.1 = j
    · rw [if_pos ((ek p).mpr e)]
      show _ = ((Sum.inl ((1 + t + (if p.1 = j then (p.1, x) else p).1 : Nat) : Int) : Key), V.int (if p.1 = j then (p.1, x) else p).2)
      rw [if_pos e]
    · rw [if_neg (fun q => e ((ek p).mp q))]
      show _ = ((Sum.inl ((1 + t + (if p.1 = j then (p.1, x) else p).1 : Nat) : Int) : Key), V.int (if p.1 = j then (p.1, x) else p).2)
      rw [if_neg e]
  · rw [if_neg c, if_neg c]
    unfold nkv
    rw [List.map_append]
    rfl
theorem putN_len (l : List (Nat × Int)) (j : Nat) (x : Int) : (putN l j x).length ≤ l.length + 1 := by
  unfold putN
  split
  · rw [List.length_map]; omega
  · rw [List.length_append, List.length_singleton]; omega
theorem putN_mem {l : List (Nat × Int)} {j n : Nat} {x : Int} (h : ∀ p, p ∈ l → p.1 < n) (hj : j < n) : ∀ p, p ∈ putN l j x → p.1 < n := by
  intro p hp
  unfold putN at hp
  split at hp
  · obtain ⟨q, hq, e⟩ := List.mem_map.mp hp
    split at e
    · rw [← e]; exact h q hq
    · rw [← e]; exact h q hq
  · rcases List.mem_append.mp hp with m | m
    · exact h p m
    · rw [List.mem_singleton.mp m]; exact hj
/-- what a memory's state keeps to -/
structure SOk (S : MS) (t n B : Nat) : Prop where
  psl : S.ps.length = 1 + t
  tne : ∀ j, j < n → S.tr j ≠ []
  tlen : ∀ j, j < n → (S.tr j).length ≤ B + 1
  nts : ∀ th, th < t → ∃ l, S.notes[th]? = some (nkv t l) ∧ (∀ p, p ∈ l → p.1 < n) ∧ l.length ≤ B
  log : S.log.length ≤ B
/-- what an access gives, and what the memory holds behind it -/
def Res (K : PySem.W.Frag) (S : MS) (t th : Nat) (H H' : Hp) : Rq → V → MS → Prop
  | .read i, v, S' => cellV S t i = some v ∧ S' = S
  | .write i x, v, S' => v = .non ∧ S' = S.give t i x
  | .swap i o n, v, S' => ∃ p tp to, cellV S t i = some p ∧ Dvl K H p tp ∧ Dvl K H o to ∧ ((tp = to ∧ v = .bl true ∧ S' = S.give t i n) ∨ (tp ≠ to ∧ v = .bl false ∧ S' = S))
  | .decide i x, v, S' => ∃ p tp, cellV S t i = some p ∧ Dvl K H p tp ∧ ((tp = .sc (.int 0) ∧ v = .bl true ∧ ∃ q, H' q = some (.tup [.str x, .int S.count]) ∧ S' = S.give t i (.ref q)) ∨ (tp ≠ .sc (.int 0) ∧ v = .bl false ∧ S' = S))
  | .flush i, v, S' => v = .non ∧ ∃ l, S.notes[th]? = some (nkv t l) ∧ S' = S.withNotes (S.notes.set th (nkv t (putN l (i - (1 + t)) (S.lost (i - (1 + t)) + ((S.tr (i - (1 + t))).length : Int) - 1))))
  | .fence, v, S' => v = .non ∧ ∃ l, S.notes[th]? = some (nkv t l) ∧ S' = fenceS (S.withNotes (S.notes.set th [])) l
/-- the present value where it is compared -/
def Rq.flatAt (K : PySem.W.Frag) (H : Hp) (S : MS) (t : Nat) : Rq → Prop
  | .swap i _ _ => ∃ p tp, cellV S t i = some p ∧ Dvl K H p tp
  | .decide i _ => ∃ p tp, cellV S t i = some p ∧ Dvl K H p tp
  | _ => True
theorem SOk.cell {S : MS} {t n B i : Nat} (h : SOk S t n B) (hi : i < 1 + t + n) : ∃ v, cellV S t i = some v := by
  unfold cellV
  by_cases c : i < 1 + t
  · rw [if_pos c]
    exact ⟨_, List.getElem?_eq_getElem (by rw [h.psl]; exact c)⟩
  · rw [if_neg c]
    have := h.tne (i - (1 + t)) (by omega)
    exact ⟨_, List.getLast?_eq_some_getLast this⟩
def spResult (K : PySem.W.Frag) (C M : Addr) : Sp := fun vs H Q _ => ∃ (m : Addr) (t w r th B : Nat) (A : Adr) (S : MS) (rq : Rq) (q : Addr), vs = [.ref m, .int (th : Int), .ref q] ∧ NOk t w r ∧ MemAt C M H m t w r A S ∧ th < t ∧ H q = some (.tup rq.vs) ∧ rq.ok t w r ∧ SOk S t (t + w + r) B ∧ B + 5 < sizeLine ∧ rq.vals K H ∧ rq.flatAt K H S t ∧
  ∀ (v : V) (A' : Adr) (S' : MS) (H' : Hp), A'.a = A.a → Res K S t th H H' rq v S' → MemAt C M H' m t w r A' S' → Step m (t + w + r) A H A' H' → Q v H'
section
variable {P : Program} {w : World} {K : PySem.W.Frag} {mg : Str → Option Value} {base : Heap} {C M NV LE : Addr}
abbrev NR : List Str := ["self", "thread", "request", "cell", "value", "old", "new", "word"]
theorem scResult : FnScope NR ["self", "thread", "request"] (defScope sResult) := ⟨rfl, rfl, rfl, by decide +kernel, rfl, by decide +kernel, by decide +kernel⟩
theorem mo_result (F : MT K M "_result" "Memory._result" sResult ["self", "thread", "request"]) (T : LTxt K mg C) (TM : MTxt K M) (GP : MO P w K mg base CX0 M 8 "peek" ["self", "cell"] (spPeek C M)) (GG : MO P w K mg base CX0 M 8 "_give" ["self", "cell", "value"] (spGive C M))
    (GI : MO P w K mg base CX0 M 9 "_give_if" ["self", "cell", "old", "new"] (spGiveIf K C M)) (GF : MO P w K mg base CX0 M 2 "_fence" ["self", "thread"] (spFence C M)) : MO P w K mg base CX0 M 10 "_result" ["self", "thread", "request"] (spResult K C M) := by
  obtain ⟨f, fd, F, hm, hb⟩ := F
  refine ⟨f, fd, ?_, hm, hb⟩
  refine F.ok scResult (fun vs H Q E h => ?_) (fun cdv A outer s H vs Q E hr h => ?_)
  · obtain ⟨m, t, w, r, th, B, A, S, rq, q, rfl, _⟩ := h
    rfl
  · obtain ⟨m, t, w, r, th, B, A0, S, rq, q, rfl, nok, D, hth, hq, ok, so, hB, vals, hfl, k⟩ := h
    obtain ⟨dx, h1⟩ := D.ob
    have hu := hu_of hr
    have nd := scResult.nd
    have hr8 : Room 8 _ := hr.mono (by decide)
    have hr2 : Room 2 _ := hr.mono (by decide)
    refine ⟨_, pss_cons (ps_match (pv 2)
        (pms_case (is := [3]) rfl nd (.cons rfl rfl .nil) (pss_one (ps_ret (pm_ GP TM.cl hr8 (pv 0) (pa_cons (pv 3) pa_nil))))
        (pms_case (is := [3, 4]) rfl nd (.cons rfl rfl (.cons rfl rfl .nil)) (pss_one (ps_expr (pm_ GG TM.cl hr8 (pv 0) (pa_cons (pv 3) (pa_cons (pv 4) pa_nil)))))
        (pms_case (is := [3, 5, 6]) rfl nd (.cons rfl rfl (.cons rfl rfl (.cons rfl rfl .nil))) (pss_one (ps_ret (pm_ GI TM.cl hr (pv 0) (pa_cons (pv 3) (pa_cons (pv 5) (pa_cons (pv 6) pa_nil))))))
        (pms_case (is := [3, 7]) rfl nd (.cons rfl rfl (.cons rfl rfl .nil)) (pss_one (ps_ret (pm_ GI TM.cl hr (pv 0) (pa_cons (pv 3) (pa_cons pe_int (pa_cons (pe_tup (pa_cons (pv 7) (pa_cons (pe_fld (pv 0) rfl) pa_nil))) pa_nil))))))
        (pms_case (is := [3]) rfl nd (.cons rfl rfl .nil) (pss_one (ps_dput hu (pe_ix ix_list (pe_fld (pv 0) rfl) (pv 1) (fun _ _ => rfl)) (pv 3)
          (pe_op op_sub (pe_op op_add (pe_dget hu (pe_fld (pv 0) rfl) (pv 3) (fun _ _ => rfl)) (pe_callB call_len_seq (by rfl) T.bn.len PySem.boot_len (pa_cons (pe_dget hu (pe_fld (pv 0) rfl) (pv 3) (fun _ _ => rfl)) pa_nil))) pe_int) rfl))
        (pms_case (is := []) rfl nd .nil (pss_one (ps_expr (pm_ GF TM.cl hr2 (pv 0) (pa_cons (pv 1) pa_nil)))) pms_nil)))))))
      (pss_one (ps_ret pe_non)), ?_⟩
    refine ⟨_, rfl, q, _, rfl, SqT.of hq, ?_⟩
    cases rq with
    | read i =>
      obtain ⟨v, hv⟩ := so.cell ok
      refine mhit rfl ?_
      exact ⟨_, rfl, m, dx, _, rfl, h1, rfl, _, rfl, m, t, w, r, i, A0, S, v, rfl, D, ok, hv, k v A0 S H rfl ⟨hv, rfl⟩ D Step.refl⟩
    | write i x =>
      have ok : i < 1 + t + (t + w + r) := ok
      refine mmiss (by decide +kernel) (mhit rfl ?_)
      refine ⟨_, rfl, m, dx, _, rfl, h1, rfl, _, rfl, _, rfl, m, t, w, r, i, A0, S, x, rfl, D, ok, fun c => by rw [so.psl]; exact c, fun c => by have := so.tlen (i - (1 + t)) (by omega); omega, fun H' D' s' => ?_⟩
      exact k .non A0 _ H' rfl ⟨rfl, rfl⟩ D' s'
    | swap i o n =>
      have ok : i < 1 + t + (t + w + r) := ok
      obtain ⟨⟨to, fo⟩, tn, fn⟩ := vals
      obtain ⟨p, tp, hp, fp⟩ := hfl
      refine mmiss (by decide +kernel) (mmiss (by decide +kernel) (mhit rfl ?_))
      refine ⟨_, rfl, m, dx, _, rfl, h1, rfl, _, rfl, _, rfl, _, rfl, m, t, w, r, i, A0, S, o, n, p, tp, to, rfl, D, ok, hp, fp, fo, fun c => by rw [so.psl]; exact c, fun c => by have := so.tlen (i - (1 + t)) (by omega); omega, fun e H' D' s' => ?_, fun e H' s' => ?_⟩
      · exact k _ A0 _ H' rfl ⟨p, tp, to, hp, fp, fo, .inl ⟨e, rfl, rfl⟩⟩ D' s'
      · exact k _ A0 _ H' rfl ⟨p, tp, to, hp, fp, fo, .inr ⟨e, rfl, rfl⟩⟩ (D.same s') (Step.same s')
    | decide i x =>
      have ok : i < 1 + t + (t + w + r) := ok
      obtain ⟨p, tp, hp, fp⟩ := hfl
      refine mmiss (by decide +kernel) (mmiss (by decide +kernel) (mmiss (by decide +kernel) (mhit rfl ?_)))
      refine ⟨_, rfl, m, dx, _, rfl, h1, rfl, _, rfl, _, rfl, _, rfl, m, M, dx, _, _, rfl, h1, TM.cl, TM.nC, rfl, (by show 2 ≤ sizeLine; decide), fun u hu' => ?_⟩
      have s1 : Same H (upd H u (.tup [V.str x, V.int S.count])) := fun b o e => by rw [upd_ne (ne_of_none e hu')]; exact e
      refine ⟨m, t, w, r, i, A0, S, .int 0, .ref u, p, tp, .sc (.int 0), rfl, D.same s1, ok, hp, fp.same s1, Dvl.int 0, fun c => by rw [so.psl]; exact c, fun c => by have := so.tlen (i - (1 + t)) (by omega); omega, fun e H' D' s' => ?_, fun e H' s' => ?_⟩
      · refine k _ A0 _ H' rfl ⟨p, tp, hp, fp, .inl ⟨e, rfl, u, ?_, rfl⟩⟩ D' ((Step.same s1).trans s')
        refine s'.chg _ _ upd_same fun hf => ?_
        rcases hf with q | q | q | q | q | q | ⟨j, hj, q⟩ | q
        · exact ne_of_none h1 hu' q.symm
        · exact ne_of_none D.ps hu' q.symm
        · exact ne_of_none D.tr.d hu' q.symm
        · exact ne_of_none D.ld hu' q.symm
        · exact ne_of_none D.nl hu' q.symm
        · exact ne_of_none D.gl hu' q.symm
        · exact ne_of_none (D.tr.l j hj) hu' q.symm
        · obtain ⟨z, hz⟩ := List.getElem?_of_mem q
          obtain ⟨ns, _, e2⟩ := D.no z u hz
          exact ne_of_none e2 hu' rfl
      · exact k _ A0 _ H' rfl ⟨p, tp, hp, fp, .inr ⟨e, rfl, rfl⟩⟩ ((D.same s1).same s') ((Step.same s1).trans (Step.same s'))
    | flush i =>
      obtain ⟨o1, o2⟩ := ok
      have hj : i - (1 + t) < t + w + r := by omega
      obtain ⟨l, hl, hl2, hl3⟩ := so.nts th hth
      have hlen : th < A0.na.length := by rw [D.nn]; exact hth
      obtain ⟨b, hbn⟩ : ∃ b, A0.na[th]? = some b := ⟨A0.na[th], List.getElem?_eq_getElem hlen⟩
      obtain ⟨ns, e1, hbd⟩ := D.no th b hbn
      rw [hl] at e1
      have e1 := (Option.some.inj e1).symm
      subst e1
      have hv : (A0.na.map V.ref)[th]? = some (.ref b) := by rw [List.getElem?_map, hbn]; rfl
      refine mmiss (by decide +kernel) (mmiss (by decide +kernel) (mmiss (by decide +kernel) (mmiss (by decide +kernel) (mhit rfl ?_))))
      have hg : DGet H A0.ld (.int (i : Int)) (some (.int (S.lost (i - (1 + t))))) := by
        have := DGet.k (k := (Sum.inl (i : Int) : Key)) D.ld
        rw [show (i : Int) = ((1 + t : Nat) : Int) + ((i - (1 + t) : Nat) : Int) by omega, kv_val _ _ _ _ hj, show ((1 + t : Nat) : Int) + ((i - (1 + t) : Nat) : Int) = (i : Int) by omega] at this
        exact this
      refine ⟨_, rfl, m, M, dx, _, _, rfl, h1, TM.cl, TM.nO, rfl, _, rfl, A0.ld, _, rfl, hg, _, rfl, m, M, dx, _, _, rfl, h1, TM.cl, TM.nT, rfl, _, rfl, A0.td, _, rfl, tr_get D o1 o2, A0.tl (i - (1 + t)), _, rfl, .inl (SqL.of (D.tr.l _ hj)), _, _, rfl, rfl, _, _, rfl, rfl, ?_⟩
      refine ⟨_, rfl, m, M, dx, _, _, rfl, h1, TM.cl, TM.nN, rfl, _, rfl, A0.nl, _, _, _, rfl, rfl, SqL.of D.nl, atI_nat hv, _, rfl, b, _, rfl, DPut.k (k := Sum.inl _) hbd (by unfold nkv; rw [List.length_map]; omega), ?_⟩
      have ek : (Sum.inl (i : Int) : Key) = Sum.inl ((1 + t + (i - (1 + t)) : Nat) : Int) := by rw [show 1 + t + (i - (1 + t)) = i by omega]
      rw [ek, putN_kv]
      exact k .non A0 _ _ rfl ⟨rfl, l, hl, rfl⟩ (D.setNotes hbn _) (Step.up (.inr (.inr (.inr (.inr (.inr (.inr (.inr (List.mem_of_getElem? hbn)))))))))
    | fence =>
      obtain ⟨l, hl, hl2, hl3⟩ := so.nts th hth
      refine mmiss (by decide +kernel) (mmiss (by decide +kernel) (mmiss (by decide +kernel) (mmiss (by decide +kernel) (mmiss (by decide +kernel) (mhit rfl ?_)))))
      refine ⟨_, rfl, m, dx, _, rfl, h1, rfl, _, rfl, m, t, w, r, th, A0, S, l, rfl, nok, D, hth, hl, hl2, so.tne, fun A' H' ea D' s' => ?_⟩
      exact k .non A' _ H' ea ⟨rfl, l, hl, rfl⟩ D' s'
end
end Dk

set_option maxHeartbeats 4000000
/-! access; drift -/
namespace Dk
open PySem PySem.Spec PyProof.Rows L2
theorem SOk.mono {S : MS} {t n B B' : Nat} (h : SOk S t n B) (hb : B ≤ B') : SOk S t n B' := ⟨h.psl, h.tne, fun j hj => by have := h.tlen j hj; omega, fun th hth => let ⟨l, a, b, c⟩ := h.nts th hth; ⟨l, a, b, by omega⟩, by have := h.log; omega⟩
theorem SOk.logged {S : MS} {t n B : Nat} {c : Int} {x : V} (h : SOk S t n B) : SOk ((S.withCount c).withLog (S.log ++ [x])) t n (B + 1) := by
  refine ⟨h.psl, h.tne, fun j hj => ?_, fun th hth => ?_, ?_⟩
  · have := h.tlen j hj
    show (S.tr j).length ≤ B + 1 + 1
    omega
  · obtain ⟨l, a, b, c⟩ := h.nts th hth
    exact ⟨l, a, b, by omega⟩
  · show (S.log ++ [x]).length ≤ B + 1
    rw [List.length_append, List.length_singleton]
    have := h.log
    omega
theorem SOk.give {S : MS} {t n B i : Nat} {v : V} (h : SOk S t n B) (hi : i < 1 + t + n) : SOk (S.give t i v) t n (B + 1) := by
  have h' := h.mono (Nat.le_succ B)
  unfold MS.give
  by_cases c : i < 1 + t
  · rw [if_pos c]
    refine ⟨?_, h.tne, h'.tlen, h'.nts, h'.log⟩
    show (S.ps.set i v).length = 1 + t
    rw [List.length_set, h.psl]
  · rw [if_neg c]
    refine ⟨h.psl, fun j hj => ?_, fun j hj => ?_, h'.nts, h'.log⟩
    · show sett S.tr (i - (1 + t)) (S.tr (i - (1 + t)) ++ [v]) j ≠ []
      by_cases e : j = i - (1 + t)
      · rw [e, sett_same]
        intro z
        have := congrArg List.length z
        rw [List.length_append, List.length_singleton, List.length_nil] at this
        omega
      · rw [sett_ne e]; exact h.tne j hj
    · show (sett S.tr (i - (1 + t)) (S.tr (i - (1 + t)) ++ [v]) j).length ≤ B + 1 + 1
      by_cases e : j = i - (1 + t)
      · rw [e, sett_same, List.length_append, List.length_singleton]
        have := h.tlen (i - (1 + t)) (by omega)
        omega
      · rw [sett_ne e]
        have := h.tlen j hj
        omega
theorem SOk.short {S : MS} {t n B j : Nat} {k : Int} (h : SOk S t n B) : SOk (S.short j k) t n B := by
  refine ⟨h.psl, short_ne h.tne, fun i hi => ?_, h.nts, h.log⟩
  show (sett S.tr j ((S.tr j).drop (cutN (S.tr j).length k)) i).length ≤ B + 1
  by_cases e : i = j
  · rw [e, sett_same, List.length_drop]
    have := h.tlen j (by omega)
    omega
  · rw [sett_ne e]; exact h.tlen i hi
theorem SOk.fence {t n B : Nat} : ∀ {l : List (Nat × Int)} {S : MS}, SOk S t n B → SOk (fenceS S l) t n B
  | [], _, h => h
  | p :: l, S, h => SOk.fence (l := l) (S := S.short p.1 (p.2 - S.lost p.1)) h.short
theorem SOk.notes {S : MS} {t n B th : Nat} {l : List (Nat × Int)} (h : SOk S t n B) (hl : ∀ p, p ∈ l → p.1 < n) (hb : l.length ≤ B) : SOk (S.withNotes (S.notes.set th (nkv t l))) t n B := by
  refine ⟨h.psl, h.tne, h.tlen, fun k hk => ?_, h.log⟩
  show ∃ l', (S.notes.set th (nkv t l))[k]? = some (nkv t l') ∧ _
  obtain ⟨l0, a, b, c⟩ := h.nts k hk
  by_cases e : k = th
  · subst e
    exact ⟨l, List.getElem?_set_self (List.getElem?_eq_some_iff.mp a).1, hl, hb⟩
  · exact ⟨l0, by rw [List.getElem?_set_ne (fun z => e z.symm)]; exact a, b, c⟩
theorem Res.ok {K : PySem.W.Frag} {S S' : MS} {t w r th B : Nat} {H H' : Hp} {rq : Rq} {v : V} (R : Res K S t th H H' rq v S') (ok : rq.ok t w r) (hth : th < t) (h : SOk S t (t + w + r) B) : SOk S' t (t + w + r) (B + 1) := by
  cases rq with
  | read i => obtain ⟨_, rfl⟩ := R; exact h.mono (Nat.le_succ B)
  | write i x => obtain ⟨_, rfl⟩ := R; exact h.give ok
  | swap i o n =>
    obtain ⟨p, _, _, _, _, _, ⟨_, _, rfl⟩ | ⟨_, _, rfl⟩⟩ := R
    · exact h.give ok
    · exact h.mono (Nat.le_succ B)
  | decide i x =>
    obtain ⟨p, _, _, _, ⟨_, _, q, _, rfl⟩ | ⟨_, _, rfl⟩⟩ := R
    · exact h.give ok
    · exact h.mono (Nat.le_succ B)
  | flush i =>
    obtain ⟨_, l, hl, rfl⟩ := R
    obtain ⟨o1, o2⟩ := ok
    obtain ⟨l0, a, b, c⟩ := h.nts th hth
    rw [hl] at a
    have e : l = l0 := by
      have e1 := Option.some.inj a
      have inj : ∀ (x y : List (Nat × Int)), nkv t x = nkv t y → x = y := fun x => by
        induction x with
        | nil => intro y e; cases y with | nil => rfl | cons _ _ => cases e
        | cons p x ih =>
          intro y e
          cases y with
          | nil => cases e
          | cons q y =>
            have e : ((Sum.inl ((1 + t + p.1 : Nat) : Int) : Key), V.int p.2) :: nkv t x = ((Sum.inl ((1 + t + q.1 : Nat) : Int) : Key), V.int q.2) :: nkv t y := e
            injection e with e1 e2
            have e3 := Sum.inl.inj (congrArg Prod.fst e1)
            have e4 := V.int.inj (congrArg Prod.snd e1)
            rw [ih y e2]
            have : p = q := Prod.ext (by omega) e4
            rw [this]
      exact inj _ _ e1
    subst e
    exact (h.mono (Nat.le_succ B)).notes (putN_mem b (by omega)) (by have := putN_len l (i - (1 + t)) (S.lost (i - (1 + t)) + ((S.tr (i - (1 + t))).length : Int) - 1); omega)
  | fence =>
    obtain ⟨_, l, hl, rfl⟩ := R
    exact SOk.fence ((h.mono (Nat.le_succ B)).notes (l := []) (fun p hp => by cases hp) (Nat.zero_le _))
theorem short_count {S : MS} {j : Nat} {k : Int} : (S.short j k).count = S.count ∧ (S.short j k).log = S.log := ⟨rfl, rfl⟩
theorem fence_count : ∀ {l : List (Nat × Int)} {S : MS}, (fenceS S l).count = S.count ∧ (fenceS S l).log = S.log
  | [], _ => ⟨rfl, rfl⟩
  | p :: l, S => fence_count (l := l) (S := S.short p.1 (p.2 - S.lost p.1))
theorem give_count {S : MS} {t i : Nat} {v : V} : (S.give t i v).count = S.count ∧ (S.give t i v).log = S.log := by
  unfold MS.give
  split <;> exact ⟨rfl, rfl⟩
theorem Res.count {K : PySem.W.Frag} {S S' : MS} {t th : Nat} {H H' : Hp} {rq : Rq} {v : V} (R : Res K S t th H H' rq v S') : S'.count = S.count ∧ S'.log = S.log := by
  cases rq with
  | read i => obtain ⟨_, rfl⟩ := R; exact ⟨rfl, rfl⟩
  | write i x => obtain ⟨_, rfl⟩ := R; exact give_count
  | swap i o n =>
    obtain ⟨p, _, _, _, _, _, ⟨_, _, rfl⟩ | ⟨_, _, rfl⟩⟩ := R
    · exact give_count
    · exact ⟨rfl, rfl⟩
  | decide i x =>
    obtain ⟨p, _, _, _, ⟨_, _, q, _, rfl⟩ | ⟨_, _, rfl⟩⟩ := R
    · exact give_count
    · exact ⟨rfl, rfl⟩
  | flush i => obtain ⟨_, l, hl, rfl⟩ := R; exact ⟨rfl, rfl⟩
  | fence => obtain ⟨_, l, hl, rfl⟩ := R; exact fence_count
theorem Res.ext {K : PySem.W.Frag} {S S' : MS} {t th : Nat} {H0 H H' H1 : Hp} {rq : Rq} {v : V} (R : Res K S t th H0 H rq v S') (s0 : ExT H0 H1) (s : ExT H H') : Res K S t th H1 H' rq v S' := by
  cases rq with
  | swap i o n =>
    obtain ⟨p, tp, to, h1, h2, h3, h4⟩ := R
    exact ⟨p, tp, to, h1, h2.ext s0, h3.ext s0, h4⟩
  | decide i x =>
    obtain ⟨p, tp, hp, h2, ⟨e1, e2, q, hq, e3⟩ | h⟩ := R
    · exact ⟨p, tp, hp, h2.ext s0, .inl ⟨e1, e2, q, s.1 _ _ hq, e3⟩⟩
    · exact ⟨p, tp, hp, h2.ext s0, .inr h⟩
  | _ => exact R
theorem flatAt_log {K : PySem.W.Frag} {H : Hp} {S : MS} {t : Nat} {c : Int} {l : List V} {rq : Rq} (h : rq.flatAt K H S t) : rq.flatAt K H ((S.withCount c).withLog l) t := by
  cases rq <;> exact h
theorem flatAt_ext {K : PySem.W.Frag} {H H' : Hp} {S : MS} {t : Nat} {rq : Rq} (h : rq.flatAt K H S t) (s : ExT H H') : rq.flatAt K H' S t := by
  cases rq with
  | swap i o n => exact let ⟨p, tp, h1, h2⟩ := h; ⟨p, tp, h1, h2.ext s⟩
  | decide i x => exact let ⟨p, tp, h1, h2⟩ := h; ⟨p, tp, h1, h2.ext s⟩
  | _ => exact h
theorem vals_ext {K : PySem.W.Frag} {H H' : Hp} {rq : Rq} (h : rq.vals K H) (s : ExT H H') : rq.vals K H' := by
  cases rq with
  | write i v => exact let ⟨t, h⟩ := h; ⟨t, h.ext s⟩
  | swap i o n => exact let ⟨⟨t, h⟩, u, h2⟩ := h; ⟨⟨t, h.ext s⟩, u, h2.ext s⟩
  | _ => trivial
theorem tup_out {C M : Addr} {H : Hp} {m : Addr} {t w r : Nat} {A : Adr} {S : MS} (D : MemAt C M H m t w r A S) {u : Addr} {xs : List V} (hu : H u = some (.tup xs)) : ¬ Foot m A (t + w + r) u := fun hf => by
  obtain ⟨dx, h1⟩ := D.ob
  rcases hf with q | q | q | q | q | q | ⟨j, hj, q⟩ | q
  · exact ne_of hu h1 (by intro z; cases z) q
  · exact ne_of hu D.ps (by intro z; cases z) q
  · exact ne_of hu D.tr.d (by intro z; cases z) q
  · exact ne_of hu D.ld (by intro z; cases z) q
  · exact ne_of hu D.nl (by intro z; cases z) q
  · exact ne_of hu D.gl (by intro z; cases z) q
  · exact ne_of hu (D.tr.l j hj) (by intro z; cases z) q
  · obtain ⟨z, hz⟩ := List.getElem?_of_mem q
    obtain ⟨ns, _, e2⟩ := D.no z u hz
    exact ne_of hu e2 (by intro z; cases z) rfl
theorem frz_out {C M : Addr} {H : Hp} {m : Addr} {t w r : Nat} {A : Adr} {S : MS} (D : MemAt C M H m t w r A S) {u : Addr} {o : Obj} {x : HO} (hu : H u = some (.frz o x)) : ¬ Foot m A (t + w + r) u := fun hf => by
  obtain ⟨dx, h1⟩ := D.ob
  rcases hf with q | q | q | q | q | q | ⟨j, hj, q⟩ | q
  · exact ne_of hu h1 (by intro z; cases z) q
  · exact ne_of hu D.ps (by intro z; cases z) q
  · exact ne_of hu D.tr.d (by intro z; cases z) q
  · exact ne_of hu D.ld (by intro z; cases z) q
  · exact ne_of hu D.nl (by intro z; cases z) q
  · exact ne_of hu D.gl (by intro z; cases z) q
  · exact ne_of hu (D.tr.l j hj) (by intro z; cases z) q
  · obtain ⟨z, hz⟩ := List.getElem?_of_mem q
    obtain ⟨ns, _, e2⟩ := D.no z u hz
    exact ne_of hu e2 (by intro z; cases z) rfl
theorem Step.ext {C M : Addr} {H H' : Hp} {m : Addr} {t w r : Nat} {A A' : Adr} {S : MS} (st : Step m (t + w + r) A H A' H') (D : MemAt C M H m t w r A S) : ExT H H' :=
  ⟨fun b xs e => st.chg b _ e (tup_out D e), fun b o xs e => st.chg b _ e (frz_out D e)⟩
/-- o.m(e, ..) of a method that may raise, where it doesn't -/
theorem pmX_ {X : Cx} {k : Nat} {C : Addr} {ps : List Str} {sp : Sp} {m : Str} {apos pos : Pos} {e o : Expr} {es : List Expr} {ta : TE} {t : TA} {pl : Sem Bool} (G : MO X.prog X.w X.K X.mg X.base (L2.CX X.prog X.w) C k m ps sp) (c : Cls X.K C) (hr : Room k X.A) (he : PE X o ta) (ha : PA X (e :: es) t)
    (hst : starEach (e :: es) X.env = (false, eval e X.env) :: starEach es X.env := by rfl) (hpl : (backTo pos (starEach es X.env)).any (·.1) = false := by rfl)
    (ht : eval (.Call (.Attribute o m apos) (e :: es) [] pos) X.env = (do
      let ov ← eval o X.env
      standAt apos.atName
      let (f, first) ← holding [ov] (getMethod ov m pl)
      callWith pos f first (backTo pos (starEach (e :: es) X.env)) (backToKw pos (keywordEach [] X.env))) := by rfl) : PE X (.Call (.Attribute o m apos) (e :: es) [] pos) (tMeth C m sp [] E0 ta t) := by
  obtain ⟨f, fd, F, hm, hb⟩ := G
  exact pe_meth he c hm F hr hb .nil passL ha hst hpl ht
def spAccess (K : PySem.W.Frag) (C M : Addr) : Sp := fun vs H Q _ => ∃ (m : Addr) (t w r th B : Nat) (A : Adr) (S : MS) (rq : Rq) (q : Addr), vs = [.ref m, .int (th : Int), .ref q] ∧ NOk t w r ∧ MemAt C M H m t w r A S ∧ th < t ∧ H q = some (.tup rq.vs) ∧ rq.ok t w r ∧ SOk S t (t + w + r) B ∧ B + 6 < sizeLine ∧ rq.vals K H ∧ rq.flatAt K H S t ∧
  ∀ (v x : V) (p : Addr) (A' : Adr) (S' : MS) (H' : Hp), A'.a = A.a → Res K ((S.withCount (S.count + 1)).withLog (S.log ++ [x])) t th H' H' rq v S' → H' p = some (.tup [v, .int (S.count + 1)]) → SOk S' t (t + w + r) (B + 2) → MemAt C M H' m t w r A' S' → Step m (t + w + r) A H A' H' → Q (.ref p) H'
section
variable {P : Program} {w : World} {K : PySem.W.Frag} {mg : Str → Option Value} {base : Heap} {C M NV LE : Addr}
theorem scAccess : FnScope ["self", "thread", "request"] ["self", "thread", "request"] (defScope sAccess) := ⟨rfl, rfl, rfl, by decide +kernel, rfl, by decide +kernel, by decide +kernel⟩
theorem mo_access (F : MT K M "access" "Memory.access" sAccess ["self", "thread", "request"]) (T : LTxt K mg C) (TM : MTxt K M) (GH : MO P w K mg base CX0 C 3 "has_thread" ["self", "thread"] (spHasT C)) (GA : GO P w K mg base CX0 8 "is_access" ["layout", "request"] (spIsAcc K C))
    (GR : MO P w K mg base CX0 M 10 "_result" ["self", "thread", "request"] (spResult K C M)) : MO P w K mg base CX0 M 11 "access" ["self", "thread", "request"] (spAccess K C M) := by
  obtain ⟨f, fd, F, hm, hb⟩ := F
  refine ⟨f, fd, ?_, hm, hb⟩
  refine F.ok scAccess (fun vs H Q E h => ?_) (fun cdv A outer s H vs Q E hr h => ?_)
  · obtain ⟨m, t, w, r, th, B, A, S, rq, q, rfl, _⟩ := h
    rfl
  · obtain ⟨m, t, w, r, th, B, A0, S, rq, q, rfl, nok, D, hth, hq, ok, so, hB, vals, hfl, k⟩ := h
    obtain ⟨dx, h1⟩ := D.ob
    obtain ⟨da, ha⟩ := D.lay
    have hr3 : Room 3 _ := hr.mono (by decide)
    have hr8 : Room 8 _ := hr.mono (by decide)
    refine ⟨_, pss_cons (ps_if (PW.pt (pw_or (pt_not (pt_val (pm_ GH T.cl hr3 (pe_fld (pv 0) rfl) (pa_cons (pv 1) pa_nil)))) (pw_or1 (pt_not (pt_val (pc_ GA hr8 (pa_cons (pe_fld (pv 0) rfl) (pa_cons (pv 2) pa_nil)))))))) (pss_one ps_never) pss_nil)
      (pss_cons (ps_fldaug (pv 0) pe_int in_add)
      (pss_cons (ps_expr (pe_bm PySem.F.plainAttrs_list PySem.F.slot_list_append PySem.F.type_list_append mt_append (pe_fld (pv 0) rfl) (pa_cons (pe_tup (pa_cons (pe_fld (pv 0) rfl) (pa_cons (pv 1) (pa_cons (pv 2) pa_nil)))) pa_nil)))
      (pss_one (ps_ret (pe_tup (pa_cons (pm_ GR TM.cl hr (pv 0) (pa_cons (pv 1) (pa_cons (pv 2) pa_nil))) (pa_cons (pe_fld (pv 0) rfl) pa_nil))))))), ?_⟩
    refine ⟨_, rfl, m, M, dx, _, _, rfl, h1, TM.cl, TM.nL, rfl, A0.a, da, _, rfl, ha, rfl, _, rfl, A0.a, t, w, r, _, "int", rfl, rfl, ⟨da, ha⟩, _, rfl, ?_⟩
    rw [inW_nat, decide_eq_true hth]
    refine iteF ?_
    refine ⟨_, rfl, m, M, dx, _, _, rfl, h1, TM.cl, TM.nL, rfl, _, rfl, A0.a, q, t, w, r, rq, rfl, ⟨da, ha⟩, hq, ok, vals, fun H1 s1 => ⟨_, rfl, iteF ?_⟩⟩
    have D1 := D.same s1
    -- self.count += 1
    refine ⟨_, rfl, m, M, dx, _, _, rfl, s1 _ _ h1, TM.cl, TM.nC, rfl, _, _, rfl, rfl, dx, _, s1 _ _ h1, (by show 7 < 1000; decide), ?_⟩
    have D2 : MemAt C M (upd H1 m (.ins M dx (putF "count" (.int (S.count + 1)) (mf A0 S.count)))) m t w r A0 (S.withCount (S.count + 1)) := D1.setCount (S.count + 1) dx
    have q2 : upd H1 m (.ins M dx (putF "count" (.int (S.count + 1)) (mf A0 S.count))) q = some (.tup rq.vs) := by
      rw [upd_ne (ne_of hq h1 (by intro z; cases z))]
      exact s1 _ _ hq
    have st2 : Step m (t + w + r) A0 H A0 (upd H1 m (.ins M dx (putF "count" (.int (S.count + 1)) (mf A0 S.count)))) := (Step.same s1).trans (Step.up (.inl rfl))
    generalize hH2 : upd H1 m (.ins M dx (putF "count" (.int (S.count + 1)) (mf A0 S.count))) = H2 at D2 q2 st2 ⊢
    obtain ⟨dx2, h2⟩ := D2.ob
    -- self._log.append(..)
    refine ⟨_, rfl, m, M, dx2, _, _, rfl, h2, TM.cl, TM.nG, rfl, .inl ⟨rfl, _, SqL.of D2.gl⟩, _, rfl, m, M, dx2, _, _, rfl, h2, TM.cl, TM.nC, rfl, _, rfl, _, rfl, (by show 3 ≤ sizeLine; decide), fun u hu => ?_⟩
    have s3 : Same H2 (upd H2 u (.tup [.int (S.count + 1), .int (th : Int), .ref q])) := fun b o e => by rw [upd_ne (ne_of_none e hu)]; exact e
    have D3 := D2.same s3
    refine ⟨A0.gl, _, _, rfl, rfl, D3.gl, (by have := so.log; show S.log.length < sizeLine; omega), ?_⟩
    have D4 := D3.setLog (S.log ++ [.ref u])
    have q4 : upd (upd H2 u (.tup [.int (S.count + 1), .int (th : Int), .ref q])) A0.gl (.lst (S.log ++ [.ref u])) q = some (.tup rq.vs) := by
      rw [upd_ne (ne_of (s3 _ _ q2) D3.gl (by intro z; cases z))]
      exact s3 _ _ q2
    have st4 : Step m (t + w + r) A0 H A0 (upd (upd H2 u (.tup [.int (S.count + 1), .int (th : Int), .ref q])) A0.gl (.lst (S.log ++ [.ref u]))) := (st2.trans (Step.same s3)).trans (Step.up (.inr (.inr (.inr (.inr (.inr (.inl rfl)))))))
    have D4 : MemAt C M (upd (upd H2 u (.tup [.int (S.count + 1), .int (th : Int), .ref q])) A0.gl (.lst (S.log ++ [.ref u]))) m t w r A0 ((S.withCount (S.count + 1)).withLog (S.log ++ [.ref u])) := D4
    have hgoal : ∀ H4, MemAt C M H4 m t w r A0 ((S.withCount (S.count + 1)).withLog (S.log ++ [.ref u])) → H4 q = some (.tup rq.vs) → Step m (t + w + r) A0 H A0 H4 → (tRet (tTup (tCons (tMeth M "_result" (spResult K C M) [] E0 (tVar 0) (tCons (tVar 1) (tCons (tVar 2) tNil))) (tCons (tFld K (tVar 0) "count") tNil)))) { nx := fun _ H' => Q .non H', rt := Q } [some (.ref m), some (.int (th : Int)), some (.ref q)] H4 := fun H4 D4 q4 st4 => by
      obtain ⟨dx4, h4⟩ := D4.ob
      refine ⟨_, rfl, m, dx4, _, rfl, h4, rfl, _, rfl, _, rfl, m, t, w, r, th, B + 1, A0, _, rq, q, rfl, nok, D4, hth, q4, ok, so.logged, by omega, vals_ext vals (st4.ext D), flatAt_ext (flatAt_log hfl) (st4.ext D), fun v A' S' H5 ea R D5 st5 => ?_⟩
      obtain ⟨dx5, h5⟩ := D5.ob
      obtain ⟨hc, hlg⟩ := R.count
      refine ⟨_, rfl, m, M, dx5, _, _, rfl, h5, TM.cl, TM.nC, rfl, (by show 2 ≤ sizeLine; decide), fun p hp => ?_⟩
      have s6 : Same H5 (upd H5 p (.tup [v, .int S'.count])) := fun b o e => by rw [upd_ne (ne_of_none e hp)]; exact e
      refine k v (.ref u) p A' S' _ ea (R.ext ((st5.ext D4).trans (.of s6)) (.of s6)) ?_ (R.ok ok hth so.logged) (D5.same s6) ((st4.trans st5).trans (Step.same s6))
      rw [hc]
      exact upd_same
    exact hgoal _ D4 q4 st4
end
end Dk

set_option maxHeartbeats 4000000
/-! is_many -/
namespace Dk
open PySem PySem.Spec PyProof.Rows L2
abbrev sMany : Stmt := top 10
def spMany : Sp := fun vs H Q _ => ∃ v t, vs = [v] ∧ vty v = some t ∧ Q (.bl (manyB v)) H
section
variable {P : Program} {w : World} {K : PySem.W.Frag} {mg : Str → Option Value} {base : Heap} {C M NV LE : Addr}
theorem scMany : FnScope ["value"] ["value"] (defScope sMany) := ⟨rfl, rfl, rfl, by decide +kernel, rfl, by decide +kernel, by decide +kernel⟩
theorem go_many (F : GT K mg "is_many" sMany ["value"]) (G : GO P w K mg base CX0 1 "is_whole" ["value"] spWhole) : GO P w K mg base CX0 2 "is_many" ["value"] spMany := by
  obtain ⟨f, fd, F, hm, hb⟩ := F
  refine ⟨f, fd, ?_, hm, F.kp, hb⟩
  refine F.ok scMany (fun vs H Q E h => ?_) (fun cdv A outer s H vs Q E hr h => ?_)
  · obtain ⟨v, t, rfl, _⟩ := h
    rfl
  · obtain ⟨v, t, rfl, ht, k⟩ := h
    refine ⟨_, pss_one (ps_ret (pe_and (pc_ G hr (pa_cons (pv 0) pa_nil)) (pe_one (pe_cmpR op_ge (pv 0) pe_int (nomark _))))), ?_⟩
    refine ⟨_, rfl, v, t, rfl, ht, _, rfl, ?_⟩
    cases v <;> cases ht
    · exact iteF k
    · exact iteF k
    · exact iteT ⟨_, rfl, _, _, rfl, rfl, k⟩
    · exact iteF k
end
end Dk

set_option maxHeartbeats 4000000
/-! drift -/
namespace Dk
open PySem PySem.Spec PyProof.Rows L2
abbrev sDrift : Stmt := inClass (top 21) 5
def spDrift (C M : Addr) : Sp := fun vs H Q _ => ∃ (m : Addr) (t w r j k : Nat) (A : Adr) (S : MS), vs = [.ref m, .int ((1 + t + j : Nat) : Int), .int (k : Int)] ∧ NOk t w r ∧ MemAt C M H m t w r A S ∧ j < t + w + r ∧ S.tr j ≠ [] ∧
  ∀ H', MemAt C M H' m t w r A (S.short j k) → Step m (t + w + r) A H A H' → Q .non H'
section
variable {P : Program} {w : World} {K : PySem.W.Frag} {mg : Str → Option Value} {base : Heap} {C M NV LE : Addr}
theorem scDrift : FnScope ["self", "cell", "steps"] ["self", "cell", "steps"] (defScope sDrift) := ⟨rfl, rfl, rfl, by decide +kernel, rfl, by decide +kernel, by decide +kernel⟩
theorem mo_drift (F : MT K M "drift" "Memory.drift" sDrift ["self", "cell", "steps"]) (TM : MTxt K M) (GA : MO P w K mg base (L2.CX P w) M 8 "_ask_lasting" ["self", "cell"] (spAsk C M NV)) (GM : GO P w K mg base CX0 2 "is_many" ["value"] spMany)
    (GS : MO P w K mg base CX0 M 1 "_shorten" ["self", "cell", "steps"] (spShort C M)) : MO P w K mg base CX0 M 9 "drift" ["self", "cell", "steps"] (spDrift C M) := by
  obtain ⟨f, fd, F, hm, hb⟩ := F
  refine ⟨f, fd, ?_, hm, hb⟩
  refine F.ok scDrift (fun vs H Q E h => ?_) (fun cdv A outer s H vs Q E hr h => ?_)
  · obtain ⟨m, t, w, r, j, k, A, S, rfl, _⟩ := h
    rfl
  · obtain ⟨m, t, w, r, j, x, A0, S, rfl, nok, D, hj, hne, k⟩ := h
    obtain ⟨dx, h1⟩ := D.ob
    refine ⟨_, pss_cons (ps_expr (pmX_ GA TM.cl hr (pv 0) (pa_cons (pv 1) pa_nil))) (pss_cons (ps_if (pt_not (pt_val (pc_ GM (hr.mono (by decide)) (pa_cons (pv 2) pa_nil)))) (pss_one ps_never) pss_nil)
      (pss_one (ps_expr (pm_ GS TM.cl (hr.mono (by decide)) (pv 0) (pa_cons (pv 1) (pa_cons (pv 2) pa_nil)))))), ?_⟩
    refine ⟨_, rfl, m, dx, _, rfl, h1, rfl, _, rfl, m, t, w, r, 1 + t + j, A0, S, rfl, D, fun _ => ?_, fun c => absurd (by omega) c⟩
    refine ⟨_, rfl, _, "int", rfl, rfl, _, rfl, ?_⟩
    have e : manyB (.int (x : Int)) = true := by
      show decide ((0 : Int) ≤ (x : Int)) = true
      exact decide_eq_true (by omega)
    rw [e]
    refine iteF ?_
    exact ⟨_, rfl, m, dx, _, rfl, h1, rfl, _, rfl, _, rfl, m, t, w, r, j, A0, S, _, rfl, nok, D, hj, hne, fun H' D' st => k H' D' st⟩
end
end Dk

set_option maxHeartbeats 4000000
/-! machines -/
namespace Dk
open PySem PySem.Spec PyProof.Rows L2
abbrev sMaInit : Stmt := inClass (top 5) 0
abbrev sMaAsk : Stmt := inClass (top 5) 3
abbrev sMaEnd : Stmt := inClass (top 5) 4
abbrev sMaGo : Stmt := inClass (top 5) 5
/-- kept but at a -/
def Kept (a : Addr) (H H' : Hp) : Prop := ∀ b o, H b = some o → b ≠ a → H' b = some o
theorem up1 {H1 : Hp} {p : Addr} {o : HO} (hp : H1 p = none) : Same H1 (upd H1 p o) := fun b u e => by rw [upd_ne (ne_of_none e hp)]; exact e
theorem iteC {c : Bool} {A B : Prop} (hc : c = false) (h : B) : if c = true then A else B := by
  rw [hc]
  exact iteF h
theorem at_head {r0 : V} {rs : List V} : atI (r0 :: rs) 0 = some r0 := by
  unfold atI ixN
  rw [if_pos (by decide), if_pos (by rw [List.length_cons]; omega)]
  rfl
theorem seq_head {r0 : V} {rs : List V} : seqIndex? 0 (r0 :: rs).length = some 0 := seqIndex_of (by decide) (by rw [List.length_cons]; omega)
/-- what a machine has of its own class's base -/
structure MTx (K : PySem.W.Frag) (C : Addr) : Prop where
  cl : Cls K C
  nW : NoAttr K C "_wanted"
  nL : NoAttr K C "_left"
  nT : NoAttr K C "_then"
abbrev mfs (w : V) (l : Addr) (th : V) (rest : List (Str × V)) : List (Str × V) := ("_wanted", w) :: ("_left", .ref l) :: ("_then", th) :: rest
/-- a machine at a -/
structure MaAt (C : Addr) (H : Hp) (a dx : Addr) (w : V) (l : Addr) (th : V) (left : List V) (rest : List (Str × V)) : Prop where
  ob : H a = some (.ins C dx (mfs w l th rest))
  lf : H l = some (.lst left)
theorem MaAt.same {C : Addr} {H H' : Hp} {a dx : Addr} {w : V} {l : Addr} {th : V} {left : List V} {rest : List (Str × V)} (D : MaAt C H a dx w l th left rest) (s : Same H H') : MaAt C H' a dx w l th left rest := ⟨s _ _ D.ob, s _ _ D.lf⟩
def MD (P : Program) (w : World) (K : PySem.W.Frag) (mg : Str → Option Value) (base : Heap) (k : Nat) (C : Addr) (m : Str) (sp : Sp) : Prop := ∃ f, Meth K C m f ∧ FnR P w K mg base CX0 k f sp
theorem MO.md {P : Program} {w : World} {K : PySem.W.Frag} {mg : Str → Option Value} {base : Heap} {k : Nat} {C : Addr} {m : Str} {ps : List Str} {sp : Sp} (G : MO P w K mg base CX0 C k m ps sp) : MD P w K mg base k C m sp := by
  obtain ⟨f, fd, F, hm, hb⟩ := G
  exact ⟨f, hm, (F.raw hb .nil).imp fun vs H Q E h => by rw [List.append_nil]; exact h⟩
def spMaInit (C : Addr) : Sp := fun vs H Q _ => ∃ (a dx : Addr), vs = [.ref a] ∧ H a = some (.ins C dx []) ∧
  ∀ (H' : Hp) (e l : Addr), H e = none → H l = none → H' e = some (.tup [.str "end", .non]) → MaAt C H' a dx (.ref e) l .non [] [] → Kept a H H' → Q .non H'
def spMaAsk (C : Addr) : Sp := fun vs H Q _ => ∃ (a dx l rq : Addr) (w th th' : V) (left : List V) (rest : List (Str × V)) (r0 : V) (rs : List V), vs = [.ref a, .ref rq, th'] ∧ MaAt C H a dx w l th left rest ∧ rest.length < 900 ∧ H rq = some (.lst (r0 :: rs)) ∧
  ∀ (H' : Hp) (l' : Addr), H l' = none → MaAt C H' a dx r0 l' th' rs rest → Kept a H H' → Q .non H'
def spMaEnd (C : Addr) : Sp := fun vs H Q _ => ∃ (a dx l : Addr) (w th v : V) (left : List V) (rest : List (Str × V)), vs = [.ref a, v] ∧ MaAt C H a dx w l th left rest ∧ rest.length < 900 ∧
  ∀ (H' : Hp) (e : Addr), H e = none → H' e = some (.tup [.str "end", v]) → MaAt C H' a dx (.ref e) l th left rest → Kept a H H' → Q .non H'
def spReq (C : Addr) : Sp := fun vs H Q _ => ∃ (a dx l : Addr) (w th : V) (left : List V) (rest : List (Str × V)), vs = [.ref a] ∧ MaAt C H a dx w l th left rest ∧ Q w H
def spGo (P : Program) (W : World) (K : PySem.W.Frag) (mg : Str → Option Value) (base : Heap) (k : Nat) (C : Addr) : Sp := fun vs H Q _ => ∃ (a dx l : Addr) (w th res : V) (left : List V) (rest : List (Str × V)), vs = [.ref a, res] ∧ MaAt C H a dx w l th left rest ∧ rest.length < 900 ∧
  ((∃ r0 rs, left = r0 :: rs ∧ ∀ H', MaAt C H' a dx r0 l th rs rest → (∀ b o, H b = some o → b ≠ a → b ≠ l → H' b = some o) → Q .non H') ∨
   (left = [] ∧ ∃ q g sp, th = .ref q ∧ H q = some (.met g a) ∧ PySem.W.fnIn K g = true ∧ FnR P W K mg base CX0 k g sp ∧ sp [.ref a, res] H (fun _ H' => Q .non H') E0))
section
variable {P : Program} {w : World} {K : PySem.W.Frag} {mg : Str → Option Value} {base : Heap} {C M NV LE : Addr}
theorem scMaInit : FnScope ["self"] ["self"] (defScope sMaInit) := ⟨rfl, rfl, rfl, by decide +kernel, rfl, by decide +kernel, by decide +kernel⟩
theorem ok_mainit {f : Addr} {fd : FuncData} (F : Fun K "__init__" "Machine.__init__" sMaInit f fd) (TC : MTx K C) : FnOk P w K mg base CX0 1 f fd ["self"] (spMaInit C) := by
  refine F.ok scMaInit (fun vs H Q E h => ?_) (fun cdv A outer s H vs Q E hr h => ?_)
  · obtain ⟨a, dx, rfl, _⟩ := h
    rfl
  · obtain ⟨a, dx, rfl, ha, k⟩ := h
    refine ⟨_, (pss_cons (ps_fld (pv 0) (pe_tup (pa_cons pe_str (pa_cons pe_non pa_nil))) rfl)
  (pss_cons (ps_fld (pv 0) (pe_lst pa_nil) rfl)
  (pss_one (ps_fld (pv 0) pe_non rfl)))), ?_⟩
    refine ⟨(by show 2 ≤ sizeLine; decide), fun e he => ⟨_, rfl, a, C, dx, [], rfl, up1 he _ _ ha, TC.cl, TC.nW, (by show 0 < 1000; decide), ?_⟩⟩
    have e_a : e ≠ a := (ne_of_none ha he).symm
    have k1 : Kept a H (upd (upd H e (.tup [.str "end", .non])) a (.ins C dx (putF "_wanted" (.ref e) []))) := fun b o q n => by rw [upd_ne n]; exact up1 he _ _ q
    have e1 : upd (upd H e (.tup [.str "end", .non])) a (.ins C dx (putF "_wanted" (.ref e) [])) e = some (.tup [.str "end", .non]) := by rw [upd_ne e_a]; exact upd_same
    have a1 : upd (upd H e (.tup [.str "end", .non])) a (.ins C dx (putF "_wanted" (.ref e) [])) a = some (.ins C dx [("_wanted", .ref e)]) := upd_same
    generalize upd (upd H e (.tup [.str "end", .non])) a (.ins C dx (putF "_wanted" (.ref e) [])) = H1 at k1 e1 a1 ⊢
    refine ⟨(by show 0 ≤ sizeLine; exact Nat.zero_le _), fun l hl => ⟨_, rfl, a, C, dx, _, rfl, up1 hl _ _ a1, TC.cl, TC.nL, (by show 1 < 1000; decide), ?_⟩⟩
    have l_a : l ≠ a := (ne_of_none a1 hl).symm
    have l_e : l ≠ e := (ne_of_none e1 hl).symm
    have lH : H l = none := by
      cases q : H l with
      | none => rfl
      | some o =>
        have := k1 l o q l_a
        rw [hl] at this
        cases this
    refine ⟨_, rfl, a, C, dx, _, rfl, upd_same, TC.cl, TC.nT, (by show 2 < 1000; decide), ?_⟩
    refine k _ e l he lH ?_ ⟨upd_same, ?_⟩ fun b o q n => ?_
    · rw [upd_ne e_a, upd_ne e_a, upd_ne l_e.symm]; exact e1
    · rw [upd_ne l_a, upd_ne l_a]; exact upd_same
    · rw [upd_ne n, upd_ne n]; exact up1 hl _ _ (k1 b o q n)
theorem scMaAsk : FnScope ["self", "requests", "then"] ["self", "requests", "then"] (defScope sMaAsk) := ⟨rfl, rfl, rfl, by decide +kernel, rfl, by decide +kernel, by decide +kernel⟩
theorem mo_maask (F : MT K C "_ask" "Machine._ask" sMaAsk ["self", "requests", "then"]) (TC : MTx K C) : MO P w K mg base CX0 C 1 "_ask" ["self", "requests", "then"] (spMaAsk C) := by
  obtain ⟨f, fd, F, hm, hb⟩ := F
  refine ⟨f, fd, ?_, hm, hb⟩
  refine F.ok scMaAsk (fun vs H Q E h => ?_) (fun cdv A outer s H vs Q E hr h => ?_)
  · obtain ⟨a, dx, l, rq, w, th, th', left, rest, r0, rs, rfl, _⟩ := h
    rfl
  · obtain ⟨a, dx, l, rq, w, th, th', left, rest, r0, rs, rfl, D, hz, hrq, k⟩ := h
    refine ⟨_, (pss_cons (ps_fld (pv 0) (pe_ix ix_list (pv 1) pe_int (fun _ _ => rfl)) rfl)
  (pss_cons (ps_fld (pv 0) (pe_slice sl_list (pv 1) (po_some pe_int) po_none) rfl)
  (pss_one (ps_fld (pv 0) (pv 2) rfl)))), ?_⟩
    have ha := D.ob
    have rq_a : rq ≠ a := ne_of hrq ha (by intro z; cases z)
    refine ⟨_, rfl, rq, _, 0, r0, rfl, rfl, SqL.of hrq, at_head, _, rfl, a, C, dx, _, rfl, ha, TC.cl, TC.nW, (by show rest.length + 3 < 1000; omega), ?_⟩
    have q1 : upd H a (.ins C dx (mfs r0 l th rest)) rq = some (.lst (r0 :: rs)) := by rw [upd_ne rq_a]; exact hrq
    refine ⟨_, rfl, _, rfl, rq, _, rfl, SqL.of q1, fun l' hl' => ?_⟩
    have ec : cutV (r0 :: rs) (some 1) none = rs := by
      unfold cutV
      rw [HT.sIx_none, show (1 : Int) = ((1 : Nat) : Int) from rfl, HT.sIx_nat, show min 1 (r0 :: rs).length = 1 by simp]
      exact List.take_of_length_le (by simp)
    rw [ec]
    have l_a : l' ≠ a := (ne_of_none (upd_same (H := H) (a := a) (o := .ins C dx (mfs r0 l th rest))) hl').symm
    have lH : H l' = none := by
      have := hl'
      rw [upd_ne l_a] at this
      exact this
    refine ⟨_, rfl, a, C, dx, _, rfl, up1 hl' _ _ upd_same, TC.cl, TC.nL, (by show rest.length + 3 < 1000; omega), ?_⟩
    refine ⟨_, rfl, _, rfl, a, C, dx, _, rfl, upd_same, TC.cl, TC.nT, (by show rest.length + 3 < 1000; omega), ?_⟩
    refine k _ l' lH ⟨upd_same, ?_⟩ fun b o q n => ?_
    · rw [upd_ne l_a, upd_ne l_a]; exact upd_same
    · rw [upd_ne n, upd_ne n]
      exact up1 hl' _ _ (by rw [upd_ne n]; exact q)
theorem scMaEnd : FnScope ["self", "value"] ["self", "value"] (defScope sMaEnd) := ⟨rfl, rfl, rfl, by decide +kernel, rfl, by decide +kernel, by decide +kernel⟩
theorem mo_maend (F : MT K C "_end" "Machine._end" sMaEnd ["self", "value"]) (TC : MTx K C) : MO P w K mg base CX0 C 1 "_end" ["self", "value"] (spMaEnd C) := by
  obtain ⟨f, fd, F, hm, hb⟩ := F
  refine ⟨f, fd, ?_, hm, hb⟩
  refine F.ok scMaEnd (fun vs H Q E h => ?_) (fun cdv A outer s H vs Q E hr h => ?_)
  · obtain ⟨a, dx, l, w, th, v, left, rest, rfl, _⟩ := h
    rfl
  · obtain ⟨a, dx, l, w, th, v, left, rest, rfl, D, hz, k⟩ := h
    refine ⟨_, (pss_one (ps_fld (pv 0) (pe_tup (pa_cons pe_str (pa_cons (pv 1) pa_nil))) rfl)), ?_⟩
    have ha := D.ob
    refine ⟨_, rfl, (by show 2 ≤ sizeLine; decide), fun e he => ⟨_, rfl, a, C, dx, _, rfl, up1 he _ _ ha, TC.cl, TC.nW, (by show rest.length + 3 < 1000; omega), ?_⟩⟩
    refine k _ e he ?_ ⟨upd_same, ?_⟩ fun b o q n => ?_
    · rw [upd_ne (ne_of_none ha he).symm]; exact upd_same
    · rw [upd_ne (ne_of D.lf ha (by intro z; cases z))]; exact up1 he _ _ D.lf
    · rw [upd_ne n]; exact up1 he _ _ q
theorem scMaGo : FnScope ["self", "result", "then"] ["self", "result"] (defScope sMaGo) := ⟨rfl, rfl, rfl, by decide +kernel, rfl, by decide +kernel, by decide +kernel⟩
theorem mo_mago {k : Nat} (F : MT K C "_go_on" "Machine._go_on" sMaGo ["self", "result"]) (TC : MTx K C) : MO P w K mg base CX0 C (k + 1) "_go_on" ["self", "result"] (spGo P w K mg base k C) := by
  obtain ⟨f, fd, F, hm, hb⟩ := F
  refine ⟨f, fd, ?_, hm, hb⟩
  refine F.ok scMaGo (fun vs H Q E h => ?_) (fun cdv A outer s H vs Q E hr h => ?_)
  · obtain ⟨a, dx, l, w, th, res, left, rest, rfl, _⟩ := h
    rfl
  · obtain ⟨a, dx, l, w, th, res, left, rest, rfl, D, hz, hc⟩ := h
    have nd := scMaGo.nd
    have hrT : Room k _ := hr
    refine ⟨_, (pss_one (ps_if (pt_truth (pe_fld (pv 0) rfl) (by intro _; rfl))
  (pss_one (ps_fld (pv 0) (pe_bm PySem.F.plainAttrs_list PySem.F.slot_list_pop PySem.F.type_list_pop mt_popAt (pe_fld (pv 0) rfl) (pa_cons pe_int pa_nil)) rfl))
  (pss_cons (ps_set (i := 2) nd rfl (Or.inl rfl) (pe_fld (pv 0) rfl))
  (pss_one (ps_expr (Mr.pe_cm (pv 2) hrT (pa_cons (pv 1) pa_nil))))))), ?_⟩
    have ha := D.ob
    have l_a : l ≠ a := ne_of D.lf ha (by intro z; cases z)
    rcases hc with ⟨r0, rs, rfl, k1⟩ | ⟨rfl, q, g, sp, rfl, hq, fi, FR, hsp⟩
    · refine ⟨_, rfl, a, C, dx, _, _, rfl, ha, TC.cl, TC.nL, rfl, true, .inl ⟨_, SqL.of D.lf, rfl⟩, iteT ?_⟩
      refine ⟨_, rfl, a, C, dx, _, _, rfl, ha, TC.cl, TC.nL, rfl, .inl ⟨rfl, _, SqL.of D.lf⟩, l, _, 0, 0, r0, rfl, rfl, D.lf, by decide, by decide, seq_head, rfl, ?_⟩
      refine ⟨_, rfl, a, C, dx, _, rfl, (by rw [upd_ne l_a.symm]; exact ha), TC.cl, TC.nW, (by show rest.length + 3 < 1000; omega), ?_⟩
      refine k1 _ ⟨upd_same, ?_⟩ fun b o q n n2 => ?_
      · rw [upd_ne l_a]; exact upd_same
      · rw [upd_ne n, upd_ne n2]; exact q
    · refine ⟨_, rfl, a, C, dx, _, _, rfl, ha, TC.cl, TC.nL, rfl, false, .inl ⟨_, SqL.of D.lf, rfl⟩, iteF ?_⟩
      refine ⟨_, rfl, a, C, dx, _, _, rfl, ha, TC.cl, TC.nT, rfl, ?_⟩
      exact ⟨_, rfl, q, g, a, sp, rfl, fi, FR, _, rfl, hq, hsp⟩
end
end Dk

set_option maxHeartbeats 4000000
/-! the stack of a thread, with one machine -/
namespace Dk
open PySem PySem.Spec PyProof.Rows L2
abbrev sKInit : Stmt := inClass (top 6) 0
abbrev sKStep : Stmt := inClass (top 6) 1
abbrev sKEnded : Stmt := inClass (top 6) 2
abbrev sKValue : Stmt := inClass (top 6) 3
abbrev sKCheck : Stmt := inClass (top 6) 4
abbrev sKSettle : Stmt := inClass (top 6) 5
abbrev sKEnd : Stmt := inClass (top 6) 6
structure KTx (K : PySem.W.Frag) (S : Addr) : Prop where
  cl : Cls K S
  nM : NoAttr K S "_machines"
  nV : NoAttr K S "_value"
structure StkAt (S : Addr) (H : Hp) (k dx ml : Addr) (ms : List Addr) (v : V) : Prop where
  ob : H k = some (.ins S dx [("_machines", .ref ml), ("_value", v)])
  l : H ml = some (.lst (ms.map V.ref))
theorem StkAt.same {S : Addr} {H H' : Hp} {k dx ml : Addr} {ms : List Addr} {v : V} (D : StkAt S H k dx ml ms v) (s : Same H H') : StkAt S H' k dx ml ms v := ⟨s _ _ D.ob, s _ _ D.l⟩
def Kept2 (a c : Addr) (H H' : Hp) : Prop := ∀ b o, H b = some o → b ≠ a → b ≠ c → H' b = some o
theorem head_vs (rq : Rq) : ∃ s rest, rq.vs = .str s :: rest ∧ s ≠ "end" ∧ s ≠ "call" := by
  cases rq <;> exact ⟨_, _, rfl, by decide +kernel, by decide +kernel⟩
/-- a machine that can be asked -/
structure Mach (P : Program) (W : World) (K : PySem.W.Frag) (mg : Str → Option Value) (base : Heap) (CM : Addr) (H : Hp) (a dx : Addr) (w : V) (l : Addr) (th : V) (left : List V) (rest : List (Str × V)) : Prop where
  m : MaAt CM H a dx w l th left rest
  cl : Cls K CM
  rq : MD P W K mg base 1 CM "request" (spReq CM)
  n1 : rest.lookup ("request" : Str) = none
  n2 : rest.lookup ("accept" : Str) = none
  n : rest.length < 900
def spKInit (S : Addr) : Sp := fun vs H Q _ => ∃ (k dx a : Addr), vs = [.ref k, .ref a] ∧ H k = some (.ins S dx []) ∧ ∀ (H' : Hp) (ml : Addr), H ml = none → StkAt S H' k dx ml [a] .non → Kept k H H' → Q .non H'
def spKEnded (S : Addr) : Sp := fun vs H Q _ => ∃ (k dx ml : Addr) (ms : List Addr) (v : V), vs = [.ref k] ∧ StkAt S H k dx ml ms v ∧ Q (.bl ms.isEmpty) H
def spKValue (S : Addr) : Sp := fun vs H Q _ => ∃ (k dx ml : Addr) (ms : List Addr) (v : V), vs = [.ref k] ∧ StkAt S H k dx ml ms v ∧ Q v H
def spKEnd (S : Addr) : Sp := fun vs H Q _ => ∃ (k dx ml a : Addr) (v x : V), vs = [.ref k, x] ∧ StkAt S H k dx ml [a] v ∧ ∀ H', StkAt S H' k dx ml [] x → Kept2 k ml H H' → Q .non H'
def spKSettle (P : Program) (W : World) (K : PySem.W.Frag) (mg : Str → Option Value) (base : Heap) (S : Addr) : Sp := fun vs H Q _ => ∃ (k dx ml : Addr) (ms : List Addr) (v : V), vs = [.ref k] ∧ StkAt S H k dx ml ms v ∧
  ((ms = [] ∧ Q .non H) ∨
   (∃ (a CM dxm q l : Addr) (th : V) (left : List V) (rest : List (Str × V)) (rq : Rq), ms = [a] ∧ Mach P W K mg base CM H a dxm (.ref q) l th left rest ∧ H q = some (.tup rq.vs) ∧ Q .non H) ∨
   (∃ (a CM dxm q l : Addr) (th : V) (left : List V) (rest : List (Str × V)) (x : V), ms = [a] ∧ Mach P W K mg base CM H a dxm (.ref q) l th left rest ∧ H q = some (.tup [.str "end", x]) ∧ ∀ H', StkAt S H' k dx ml [] x → Kept2 k ml H H' → Q .non H'))
def spKCheck (P : Program) (W : World) (K : PySem.W.Frag) (mg : Str → Option Value) (base : Heap) (S C M : Addr) : Sp := fun vs H Q _ => ∃ (k dx ml m : Addr) (ms : List Addr) (v : V) (t w r th : Nat) (A : Adr) (X : MS), vs = [.ref k, .ref m, .int (th : Int)] ∧ StkAt S H k dx ml ms v ∧ MemAt C M H m t w r A X ∧ th < t ∧
  (ms = [] ∨ ∃ (a CM dxm q l : Addr) (th : V) (left : List V) (rest : List (Str × V)) (rq : Rq), ms = [a] ∧ Mach P W K mg base CM H a dxm (.ref q) l th left rest ∧ H q = some (.tup rq.vs)) ∧ Q .non H
/-- behind an accept -/
def Behind (P : Program) (W : World) (K : PySem.W.Frag) (mg : Str → Option Value) (base : Heap) (S : Addr) (k dx ml a CM dxm : Addr) (v : V) (H : Hp) (Q : VK) : Prop := StkAt S H k dx ml [a] v ∧
  ((∃ (q l : Addr) (th : V) (left : List V) (rest : List (Str × V)) (rq : Rq), Mach P W K mg base CM H a dxm (.ref q) l th left rest ∧ H q = some (.tup rq.vs) ∧ Q (.bl true) H) ∨
   (∃ (q l : Addr) (th : V) (left : List V) (rest : List (Str × V)) (x : V), Mach P W K mg base CM H a dxm (.ref q) l th left rest ∧ H q = some (.tup [.str "end", x]) ∧ ∀ H', StkAt S H' k dx ml [] x → Kept2 k ml H H' → Q (.bl true) H'))
def spKStep (P : Program) (W : World) (K : PySem.W.Frag) (mg : Str → Option Value) (base : Heap) (ka : Nat) (S C M : Addr) : Sp := fun vs H Q _ => ∃ (k dx ml m : Addr) (ms : List Addr) (v0 : V) (t w r th B : Nat) (A : Adr) (X : MS), vs = [.ref k, .ref m, .int (th : Int)] ∧ StkAt S H k dx ml ms v0 ∧ NOk t w r ∧ MemAt C M H m t w r A X ∧ th < t ∧ SOk X t (t + w + r) B ∧ B + 6 < sizeLine ∧
  ((ms = [] ∧ Q (.bl false) H) ∨
   (∃ (a CM dxm q l fa : Addr) (th' : V) (left : List V) (rest : List (Str × V)) (rq : Rq) (spa : Sp), ms = [a] ∧ Mach P W K mg base CM H a dxm (.ref q) l th' left rest ∧ H q = some (.tup rq.vs) ∧ rq.ok t w r ∧ rq.vals K H ∧ rq.flatAt K H X t ∧ Meth K CM "accept" fa ∧ FnR P W K mg base CX0 ka fa spa ∧
     ∀ (v x : V) (p : Addr) (A' : Adr) (X' : MS) (H1 : Hp), A'.a = A.a → Res K ((X.withCount (X.count + 1)).withLog (X.log ++ [x])) t th H1 H1 rq v X' → H1 p = some (.tup [v, .int (X.count + 1)]) → SOk X' t (t + w + r) (B + 2) → MemAt C M H1 m t w r A' X' → Step m (t + w + r) A H A' H1 →
       ∀ Q' : VK, (∀ u H2, Behind P W K mg base S k dx ml a CM dxm v0 H2 Q → Q' u H2) → spa [.ref a, .ref p] H1 Q' E0))
section
variable {P : Program} {w : World} {K : PySem.W.Frag} {mg : Str → Option Value} {base : Heap} {C M NV LE S : Addr}
theorem scKInit : FnScope ["self", "machine"] ["self", "machine"] (defScope sKInit) := ⟨rfl, rfl, rfl, by decide +kernel, rfl, by decide +kernel, by decide +kernel⟩
theorem ok_kinit {f : Addr} {fd : FuncData} (F : Fun K "__init__" "Stack.__init__" sKInit f fd) (TK : KTx K S) : FnOk P w K mg base CX0 1 f fd ["self", "machine"] (spKInit S) := by
  refine F.ok scKInit (fun vs H Q E h => ?_) (fun cdv A outer s H vs Q E hr h => ?_)
  · obtain ⟨k, dx, a, rfl, _⟩ := h
    rfl
  · obtain ⟨k, dx, a, rfl, hk, kQ⟩ := h
    refine ⟨_, (pss_cons (ps_fld (pv 0) (pe_lst (pa_cons (pv 1) pa_nil)) rfl)
  (pss_one (ps_fld (pv 0) pe_non rfl))), ?_⟩
    refine ⟨_, rfl, (by show 1 ≤ sizeLine; decide), fun ml hml => ⟨_, rfl, k, S, dx, [], rfl, up1 hml _ _ hk, TK.cl, TK.nM, (by show 0 < 1000; decide), ?_⟩⟩
    refine ⟨_, rfl, k, S, dx, _, rfl, upd_same, TK.cl, TK.nV, (by show 1 < 1000; decide), ?_⟩
    have ml_k : ml ≠ k := (ne_of_none hk hml).symm
    refine kQ _ ml hml ⟨upd_same, ?_⟩ fun b o q n => ?_
    · rw [upd_ne ml_k, upd_ne ml_k]; exact upd_same
    · rw [upd_ne n, upd_ne n]; exact up1 hml _ _ q
theorem scKEnded : FnScope ["self"] ["self"] (defScope sKEnded) := ⟨rfl, rfl, rfl, by decide +kernel, rfl, by decide +kernel, by decide +kernel⟩
theorem mo_kended (F : MT K S "ended" "Stack.ended" sKEnded ["self"]) (TK : KTx K S) : MO P w K mg base CX0 S 1 "ended" ["self"] (spKEnded S) := by
  obtain ⟨f, fd, F, hm, hb⟩ := F
  refine ⟨f, fd, ?_, hm, hb⟩
  refine F.ok scKEnded (fun vs H Q E h => ?_) (fun cdv A outer s H vs Q E hr h => ?_)
  · obtain ⟨k, dx, ml, ms, v, rfl, _⟩ := h
    rfl
  · obtain ⟨k, dx, ml, ms, v, rfl, D, kQ⟩ := h
    refine ⟨_, pss_one (ps_ret (pe_notT (pe_fld (pv 0) rfl))), ?_⟩
    refine ⟨_, rfl, k, S, dx, _, _, rfl, D.ob, TK.cl, TK.nM, rfl, !(ms.map V.ref).isEmpty, .inl ⟨_, SqL.of D.l, rfl⟩, ?_⟩
    have e : (!!(ms.map V.ref).isEmpty) = ms.isEmpty := by cases ms <;> rfl
    rw [e]
    exact kQ
theorem scKValue : FnScope ["self"] ["self"] (defScope sKValue) := ⟨rfl, rfl, rfl, by decide +kernel, rfl, by decide +kernel, by decide +kernel⟩
theorem mo_kvalue (F : MT K S "value" "Stack.value" sKValue ["self"]) (TK : KTx K S) : MO P w K mg base CX0 S 1 "value" ["self"] (spKValue S) := by
  obtain ⟨f, fd, F, hm, hb⟩ := F
  refine ⟨f, fd, ?_, hm, hb⟩
  refine F.ok scKValue (fun vs H Q E h => ?_) (fun cdv A outer s H vs Q E hr h => ?_)
  · obtain ⟨k, dx, ml, ms, v, rfl, _⟩ := h
    rfl
  · obtain ⟨k, dx, ml, ms, v, rfl, D, kQ⟩ := h
    refine ⟨_, pss_one (ps_ret (pe_fld (pv 0) rfl)), ?_⟩
    exact ⟨_, rfl, k, S, dx, _, _, rfl, D.ob, TK.cl, TK.nV, rfl, kQ⟩
theorem at_one {a : Addr} : atI ([a].map V.ref) (-1) = some (.ref a) := rfl
theorem scKEnd : FnScope ["self", "value"] ["self", "value"] (defScope sKEnd) := ⟨rfl, rfl, rfl, by decide +kernel, rfl, by decide +kernel, by decide +kernel⟩
theorem mo_kend (F : MT K S "_end" "Stack._end" sKEnd ["self", "value"]) (TK : KTx K S) : MO P w K mg base CX0 S 1 "_end" ["self", "value"] (spKEnd S) := by
  obtain ⟨f, fd, F, hm, hb⟩ := F
  refine ⟨f, fd, ?_, hm, hb⟩
  refine F.ok scKEnd (fun vs H Q E h => ?_) (fun cdv A outer s H vs Q E hr h => ?_)
  · obtain ⟨k, dx, ml, a, v, x, rfl, _⟩ := h
    rfl
  · obtain ⟨k, dx, ml, a, v, x, rfl, D, kQ⟩ := h
    have hra : Room 0 _ := hr
    refine ⟨_, (pss_cons (ps_expr (pe_bm0 PySem.F.plainAttrs_list PySem.F.slot_list_pop PySem.F.type_list_pop mt_pop (pe_fld (pv 0) rfl)))
  (pss_one (ps_if (pt_truth (pe_fld (pv 0) rfl) (by intro _; rfl))
  (pss_one (ps_expr (Mr.pe_md (pe_ix ix_list (pe_fld (pv 0) rfl) (pe_un un_neg pe_int) (fun _ _ => rfl)) hra (pa_cons (pv 1) pa_nil))))
  (pss_one (ps_fld (pv 0) (pv 1) rfl))))), ?_⟩
    have hk := D.ob
    have ml_k : ml ≠ k := ne_of D.l hk (by intro z; cases z)
    refine ⟨_, rfl, k, S, dx, _, _, rfl, hk, TK.cl, TK.nM, rfl, .inl ⟨rfl, _, SqL.of D.l⟩, ml, _, .ref a, rfl, rfl, D.l, rfl, ?_⟩
    have hk1 : upd H ml (.lst ([a].map V.ref).dropLast) k = some (.ins S dx [("_machines", .ref ml), ("_value", v)]) := by rw [upd_ne ml_k.symm]; exact hk
    refine ⟨_, rfl, k, S, dx, _, _, rfl, hk1, TK.cl, TK.nM, rfl, false, .inl ⟨_, SqL.of upd_same, rfl⟩, iteF ?_⟩
    refine ⟨_, rfl, _, rfl, k, S, dx, _, rfl, hk1, TK.cl, TK.nV, (by show 2 < 1000; decide), ?_⟩
    refine kQ _ ⟨upd_same, ?_⟩ fun b o q n n2 => ?_
    · rw [upd_ne ml_k]; exact upd_same
    · rw [upd_ne n, upd_ne n2]; exact q
theorem scKCheck : FnScope ["self", "memory", "thread"] ["self", "memory", "thread"] (defScope sKCheck) := ⟨rfl, rfl, rfl, by decide +kernel, rfl, by decide +kernel, by decide +kernel⟩
theorem mo_kcheck (F : MT K S "_check_thread" "Stack._check_thread" sKCheck ["self", "memory", "thread"]) (TK : KTx K S) (TL : LTxt K mg C) (TM : MTxt K M) (GHt : MO P w K mg base CX0 C 3 "has_thread" ["self", "thread"] (spHasT C)) : MO P w K mg base CX0 S 4 "_check_thread" ["self", "memory", "thread"] (spKCheck P w K mg base S C M) := by
  obtain ⟨f, fd, F, hm, hb⟩ := F
  refine ⟨f, fd, ?_, hm, hb⟩
  refine F.ok scKCheck (fun vs H Q E h => ?_) (fun cdv A outer s H vs Q E hr h => ?_)
  · obtain ⟨k, dx, ml, m, ms, v, t, w, r, th, A, X, rfl, _⟩ := h
    rfl
  · obtain ⟨k, dx, ml, m, ms, v, t, w, r, th, A0, X, rfl, D, DM, hth, hc, kQ⟩ := h
    have hrq : Room 1 _ := hr.mono (by decide)
    have hrH : Room 3 _ := hr
    refine ⟨_, (pss_one (ps_if (PW.pt (pw_and (pt_truth (pe_fld (pv 0) rfl) (by intro _; rfl)) (pw_and1 (pt_cmpR op_ne (pe_ix ix_tup (Mr.pe_md0 (pe_ix ix_list (pe_fld (pv 0) rfl) (pe_un un_neg pe_int) (fun _ _ => rfl)) hrq) pe_int (fun _ _ => rfl)) pe_str (nomark _)))))
  (pss_one (ps_if (pt_not (pt_val (pm_ GHt TL.cl hrH (pe_fld (pv 1) rfl) (pa_cons (pv 2) pa_nil))))
  (pss_one ps_never)
  pss_nil))
  pss_nil)), ?_⟩
    have hk := D.ob
    rcases hc with rfl | ⟨a, CM, dxm, q, l, th', left, rest, rq, rfl, Mc, hq⟩
    · exact ⟨_, rfl, k, S, dx, _, _, rfl, hk, TK.cl, TK.nM, rfl, false, .inl ⟨_, SqL.of D.l, rfl⟩, iteF (iteF kQ)⟩
    · obtain ⟨s0, r0, e0, ne0, _⟩ := head_vs rq
      rw [e0] at hq
      obtain ⟨fr, hmr, FR⟩ := Mc.rq
      obtain ⟨dm, hmem⟩ := DM.ob
      obtain ⟨da, hlay⟩ := DM.lay
      refine ⟨_, rfl, k, S, dx, _, _, rfl, hk, TK.cl, TK.nM, rfl, true, .inl ⟨_, SqL.of D.l, rfl⟩, iteT ?_⟩
      refine ⟨_, rfl, k, S, dx, _, _, rfl, hk, TK.cl, TK.nM, rfl, _, rfl, ml, _, -1, _, rfl, rfl, SqL.of D.l, at_one, a, CM, dxm, _, fr, _, rfl, Mc.m.ob, Mc.cl, hmr, FR, Mc.n1, a, dxm, l, _, th', left, rest, rfl, Mc.m, q, _, 0, _, rfl, rfl, SqT.of hq, at_head, rfl, _, rfl, ?_⟩
      have cn : ¬ (V.str s0 = V.str "end") := fun z => ne0 (V.str.inj z)
      rw [decide_eq_false cn]
      refine iteT ?_
      refine ⟨_, rfl, m, M, dm, _, _, rfl, hmem, TM.cl, TM.nL, rfl, A0.a, da, _, rfl, hlay, rfl, _, rfl, A0.a, t, w, r, _, "int", rfl, rfl, ⟨da, hlay⟩, _, rfl, ?_⟩
      rw [inW_nat, decide_eq_true hth]
      exact iteF kQ
theorem scKSettle : FnScope ["self", "request"] ["self"] (defScope sKSettle) := ⟨rfl, rfl, rfl, by decide +kernel, rfl, by decide +kernel, by decide +kernel⟩
theorem mo_ksettle (F : MT K S "_settle" "Stack._settle" sKSettle ["self"]) (TK : KTx K S) (GEn : MO P w K mg base CX0 S 1 "_end" ["self", "value"] (spKEnd S)) : MO P w K mg base CX0 S 2 "_settle" ["self"] (spKSettle P w K mg base S) := by
  obtain ⟨f, fd, F, hm, hb⟩ := F
  refine ⟨f, fd, ?_, hm, hb⟩
  refine F.ok scKSettle (fun vs H Q E h => ?_) (fun cdv A outer s H vs Q E hr h => ?_)
  · obtain ⟨k, dx, ml, ms, v, rfl, _⟩ := h
    rfl
  · obtain ⟨k, dx, ml, ms, v, rfl, D, hc⟩ := h
    have nd := scKSettle.nd
    have hrq : Room 1 _ := hr
    have hrE : Room 1 _ := hr
    refine ⟨_, (pss_one (ps_while PassesOwn.never (pt_truth (pe_fld (pv 0) rfl) (by intro _; rfl))
  (pss_cons (ps_set (i := 1) nd rfl (Or.inl rfl) (Mr.pe_md0 (pe_ix ix_list (pe_fld (pv 0) rfl) (pe_un un_neg pe_int) (fun _ _ => rfl)) hrq))
  (pss_one (ps_if (pt_cmpR op_eq (pe_ix ix_tup (pv 1) pe_int (fun _ _ => rfl)) pe_str (nomark _))
  (pss_one (ps_expr (pe_bm PySem.F.plainAttrs_list PySem.F.slot_list_append PySem.F.type_list_append mt_append (pe_fld (pv 0) rfl) (pa_cons (pe_ix ix_tup (pv 1) pe_int (fun _ _ => rfl)) pa_nil))))
  (pss_one (ps_if (pt_cmpR op_eq (pe_ix ix_tup (pv 1) pe_int (fun _ _ => rfl)) pe_str (nomark _))
  (pss_one (ps_expr (pm_ GEn TK.cl hrE (pv 0) (pa_cons (pe_ix ix_tup (pv 1) pe_int (fun _ _ => rfl)) pa_nil))))
  (pss_one ps_retN)))))))), ?_⟩
    dsimp only [gName, tSeq]
    refine while_rel (fun n σ H2 => (n = 1 ∧ H2 = H ∧ ∃ x, σ = [some (.ref k), x]) ∨ (n = 0 ∧ ∃ x v, σ = [some (.ref k), x] ∧ StkAt S H2 k dx ml [] v ∧ Q .non H2)) ⟨1, .inl ⟨rfl, rfl, _, rfl⟩⟩ ?_ ?_
    · rintro n σ H2 (⟨rfl, rfl, x, rfl⟩ | ⟨rfl, x, v', rfl, D2, q2⟩)
      · rcases hc with ⟨rfl, kQ⟩ | ⟨a, CM, dxm, q, l, th', left, rest, rq, rfl, Mc, hq, kQ⟩ | ⟨a, CM, dxm, q, l, th', left, rest, xe, rfl, Mc, hq, kQ⟩
        · exact ⟨_, rfl, k, S, dx, _, _, rfl, D.ob, TK.cl, TK.nM, rfl, false, .inl ⟨_, SqL.of D.l, rfl⟩, iteF kQ⟩
        · obtain ⟨s0, r0, e0, ne0, ne1⟩ := head_vs rq
          rw [e0] at hq
          obtain ⟨fr, hmr, FR⟩ := Mc.rq
          refine ⟨_, rfl, k, S, dx, _, _, rfl, D.ob, TK.cl, TK.nM, rfl, true, .inl ⟨_, SqL.of D.l, rfl⟩, iteT ?_⟩
          refine ⟨_, rfl, k, S, dx, _, _, rfl, D.ob, TK.cl, TK.nM, rfl, _, rfl, ml, _, -1, _, rfl, rfl, SqL.of D.l, at_one, a, CM, dxm, _, fr, _, rfl, Mc.m.ob, Mc.cl, hmr, FR, Mc.n1, a, dxm, l, _, th', left, rest, rfl, Mc.m, ?_⟩
          refine ⟨_, rfl, q, _, 0, _, rfl, rfl, SqT.of hq, at_head, rfl, _, rfl, ?_⟩
          rw [decide_eq_false fun z => ne1 (V.str.inj z)]
          refine iteF ?_
          refine ⟨_, rfl, q, _, 0, _, rfl, rfl, SqT.of hq, at_head, rfl, _, rfl, ?_⟩
          rw [decide_eq_false fun z => ne0 (V.str.inj z)]
          exact iteF kQ
        · obtain ⟨fr, hmr, FR⟩ := Mc.rq
          refine ⟨_, rfl, k, S, dx, _, _, rfl, D.ob, TK.cl, TK.nM, rfl, true, .inl ⟨_, SqL.of D.l, rfl⟩, iteT ?_⟩
          refine ⟨_, rfl, k, S, dx, _, _, rfl, D.ob, TK.cl, TK.nM, rfl, _, rfl, ml, _, -1, _, rfl, rfl, SqL.of D.l, at_one, a, CM, dxm, _, fr, _, rfl, Mc.m.ob, Mc.cl, hmr, FR, Mc.n1, a, dxm, l, _, th', left, rest, rfl, Mc.m, ?_⟩
          refine ⟨_, rfl, q, _, 0, _, rfl, rfl, SqT.of hq, at_head, rfl, _, rfl, ?_⟩
          rw [decide_eq_false (show ¬ (V.str "end" = V.str "call") by decide +kernel)]
          refine iteF ?_
          refine ⟨_, rfl, q, _, 0, _, rfl, rfl, SqT.of hq, at_head, rfl, _, rfl, ?_⟩
          rw [decide_eq_true (rfl : V.str "end" = V.str "end")]
          refine iteT ?_
          refine ⟨_, rfl, k, dx, _, rfl, D.ob, rfl, _, rfl, q, _, 1, xe, rfl, rfl, SqT.of hq, rfl, k, dx, ml, a, v, xe, rfl, D, fun H3 D3 kp3 => ?_⟩
          exact ⟨0, by decide, .inr ⟨rfl, _, _, rfl, D3, kQ H3 D3 kp3⟩⟩
      · exact ⟨_, rfl, k, S, dx, _, _, rfl, D2.ob, TK.cl, TK.nM, rfl, false, .inl ⟨_, SqL.of D2.l, rfl⟩, iteF q2⟩
    · rintro σ H2 Q1 Q2 imp ⟨x, e, a, C', dx', fs, v1, h1, h2, h3, h4, h5, kk, t, q⟩
      exact ⟨x, e, a, C', dx', fs, v1, h1, h2, h3, h4, h5, kk, t, imp _ _ q⟩
theorem scKStep : FnScope ["self", "memory", "thread", "machine"] ["self", "memory", "thread"] (defScope sKStep) := ⟨rfl, rfl, rfl, by decide +kernel, rfl, by decide +kernel, by decide +kernel⟩
theorem mo_kstep {ka : Nat} (F : MT K S "step" "Stack.step" sKStep ["self", "memory", "thread"]) (TK : KTx K S) (TM : MTxt K M) (GCk : MO P w K mg base CX0 S 4 "_check_thread" ["self", "memory", "thread"] (spKCheck P w K mg base S C M)) (GSt : MO P w K mg base CX0 S 2 "_settle" ["self"] (spKSettle P w K mg base S))
    (GAc : MO P w K mg base CX0 M 11 "access" ["self", "thread", "request"] (spAccess K C M)) : MO P w K mg base CX0 S (ka + 12) "step" ["self", "memory", "thread"] (spKStep P w K mg base ka S C M) := by
  obtain ⟨f, fd, F, hm, hb⟩ := F
  refine ⟨f, fd, ?_, hm, hb⟩
  refine F.ok scKStep (fun vs H Q E h => ?_) (fun cdv A outer s H vs Q E hr h => ?_)
  · obtain ⟨k, dx, ml, m, ms, v, t, w, r, th, B, A, X, rfl, _⟩ := h
    rfl
  · obtain ⟨k, dx, ml, m, ms, v, t, w, r, th, B, A0, X, rfl, D, nok, DM, hth, so, hB, hc⟩ := h
    have nd := scKStep.nd
    have hrq : Room 1 _ := hr.mono (by omega)
    have hra : Room ka _ := hr.mono (by omega)
    have hrC : Room 4 _ := hr.mono (by omega)
    have hrS : Room 2 _ := hr.mono (by omega)
    have hrM : Room 11 _ := hr.mono (by omega)
    refine ⟨_, (pss_cons (ps_expr (pm_ GCk TK.cl hrC (pv 0) (pa_cons (pv 1) (pa_cons (pv 2) pa_nil))))
  (pss_cons (ps_expr (pm0_ GSt TK.cl hrS (pv 0)))
  (pss_cons (ps_if (pt_not (pt_truth (pe_fld (pv 0) rfl) (by intro _; rfl)))
  (pss_one (ps_ret pe_bl))
  pss_nil)
  (pss_cons (ps_set (i := 3) nd rfl (Or.inl rfl) (pe_ix ix_list (pe_fld (pv 0) rfl) (pe_un un_neg pe_int) (fun _ _ => rfl)))
  (pss_cons (ps_expr (Mr.pe_md (pv 3) hra (pa_cons (pm_ GAc TM.cl hrM (pv 1) (pa_cons (pv 2) (pa_cons (Mr.pe_md0 (pv 3) hrq) pa_nil))) pa_nil)))
  (pss_cons (ps_expr (pm0_ GSt TK.cl hrS (pv 0)))
  (pss_one (ps_ret pe_bl)))))))), ?_⟩
    have hk := D.ob
    rcases hc with ⟨rfl, kQ⟩ | ⟨a, CM, dxm, q, l, fa, th', left, rest, rq, spa, rfl, Mc, hq, ok, vals, fl, hma, FA, kQ⟩
    · refine ⟨_, rfl, k, dx, _, rfl, hk, rfl, _, rfl, _, rfl, k, dx, ml, m, [], v, t, w, r, th, A0, X, rfl, D, DM, hth, .inl rfl, ?_⟩
      refine ⟨_, rfl, k, dx, _, rfl, hk, rfl, k, dx, ml, [], v, rfl, D, .inl ⟨rfl, ?_⟩⟩
      exact ⟨_, rfl, k, S, dx, _, _, rfl, hk, TK.cl, TK.nM, rfl, false, .inl ⟨_, SqL.of D.l, rfl⟩, iteT kQ⟩
    · refine ⟨_, rfl, k, dx, _, rfl, hk, rfl, _, rfl, _, rfl, k, dx, ml, m, [a], v, t, w, r, th, A0, X, rfl, D, DM, hth, .inr ⟨a, CM, dxm, q, l, th', left, rest, rq, rfl, Mc, hq⟩, ?_⟩
      refine ⟨_, rfl, k, dx, _, rfl, hk, rfl, k, dx, ml, [a], v, rfl, D, .inr (.inl ⟨a, CM, dxm, q, l, th', left, rest, rq, rfl, Mc, hq, ?_⟩)⟩
      refine ⟨_, rfl, k, S, dx, _, _, rfl, hk, TK.cl, TK.nM, rfl, true, .inl ⟨_, SqL.of D.l, rfl⟩, iteF ?_⟩
      refine ⟨_, rfl, k, S, dx, _, _, rfl, hk, TK.cl, TK.nM, rfl, _, rfl, ml, _, -1, _, rfl, rfl, SqL.of D.l, at_one, ?_⟩
      obtain ⟨fr, hmr, FR⟩ := Mc.rq
      obtain ⟨dm, hmem⟩ := DM.ob
      refine ⟨_, rfl, a, CM, dxm, _, fa, spa, rfl, Mc.m.ob, Mc.cl, hma, FA, Mc.n2, _, rfl, m, dm, _, rfl, hmem, rfl, _, rfl, _, rfl, a, CM, dxm, _, fr, _, rfl, Mc.m.ob, Mc.cl, hmr, FR, Mc.n1, a, dxm, l, _, th', left, rest, rfl, Mc.m, m, t, w, r, th, B, A0, X, rq, q, rfl, nok, DM, hth, hq, ok, so, hB, vals, fl, fun v1 x p A' X' H1 ea R hp so' D' st => ?_⟩
      refine kQ v1 x p A' X' H1 ea R hp so' D' st _ fun u H2 hbe => ?_
      obtain ⟨D2, hb2⟩ := hbe
      have hk2 := D2.ob
      rcases hb2 with ⟨q2, l2, th2, left2, rest2, rq2, M2, hq2, kQ2⟩ | ⟨q2, l2, th2, left2, rest2, xe, M2, hq2, kQ2⟩
      · exact ⟨_, rfl, k, dx, _, rfl, hk2, rfl, k, dx, ml, [a], v, rfl, D2, .inr (.inl ⟨a, CM, dxm, q2, l2, th2, left2, rest2, rq2, rfl, M2, hq2, kQ2⟩)⟩
      · exact ⟨_, rfl, k, dx, _, rfl, hk2, rfl, k, dx, ml, [a], v, rfl, D2, .inr (.inr ⟨a, CM, dxm, q2, l2, th2, left2, rest2, xe, rfl, M2, hq2, fun H3 D3 k3 => kQ2 H3 D3 k3⟩)⟩
end
end Dk

set_option maxHeartbeats 4000000
/-! what the cells hold behind an access, a drift -/
namespace Dk
open PySem PySem.Spec PyProof.Rows L2
theorem cellV_give_same {S : MS} {t i : Nat} {v : V} (h : S.ps.length = 1 + t) : cellV (S.give t i v) t i = some v := by
  unfold MS.give cellV
  by_cases c : i < 1 + t
  · rw [if_pos c, if_pos c]
    show (S.ps.set i v)[i]? = some v
    rw [List.getElem?_set, if_pos rfl, if_pos (by omega)]
  · rw [if_neg c, if_neg c]
    show (sett S.tr (i - (1 + t)) (S.tr (i - (1 + t)) ++ [v]) (i - (1 + t))).getLast? = some v
    rw [sett_same]
    simp
theorem cellV_give_ne {S : MS} {t i c : Nat} {v : V} (h : c ≠ i) : cellV (S.give t i v) t c = cellV S t c := by
  unfold MS.give cellV
  by_cases ci : i < 1 + t
  · rw [if_pos ci]
    by_cases cc : c < 1 + t
    · rw [if_pos cc, if_pos cc]
      show (S.ps.set i v)[c]? = _
      rw [List.getElem?_set, if_neg (fun z => h z.symm)]
    · rw [if_neg cc, if_neg cc]
      rfl
  · rw [if_neg ci]
    by_cases cc : c < 1 + t
    · rw [if_pos cc, if_pos cc]
      rfl
    · rw [if_neg cc, if_neg cc]
      show (sett S.tr (i - (1 + t)) _ (c - (1 + t))).getLast? = _
      rw [sett_ne (by omega)]
theorem cellV_short {S : MS} {t j c : Nat} {k : Int} : cellV (S.short j k) t c = cellV S t c := by
  unfold cellV
  by_cases cc : c < 1 + t
  · rw [if_pos cc, if_pos cc]
    rfl
  · rw [if_neg cc, if_neg cc]
    show (sett S.tr j ((S.tr j).drop (cutN (S.tr j).length k)) (c - (1 + t))).getLast? = _
    by_cases cj : c - (1 + t) = j
    · rw [cj, sett_same]
      cases hl : S.tr j with
      | nil => simp
      | cons x xs =>
        have : cutN (x :: xs).length k < (x :: xs).length := by
          unfold cutN
          rw [List.length_cons]
          omega
        rw [List.getLast?_drop, if_neg (by omega)]
    · rw [sett_ne cj]
/-- what a cell holds, of a shape -/
def CellIs (K : PySem.W.Frag) (H : Hp) (X : MS) (t c : Nat) (u : Tr) : Prop := ∃ v, cellV X t c = some v ∧ Dvl K H v u
theorem CellIs.ext {K : PySem.W.Frag} {H H' : Hp} {X : MS} {t c : Nat} {u : Tr} (h : CellIs K H X t c u) (s : ExT H H') : CellIs K H' X t c u := let ⟨v, e, d⟩ := h; ⟨v, e, d.ext s⟩
theorem CellIs.same {K : PySem.W.Frag} {H H' : Hp} {X : MS} {t c : Nat} {u : Tr} (h : CellIs K H X t c u) (s : Same H H') : CellIs K H' X t c u := h.ext (.of s)
theorem CellIs.eq {K : PySem.W.Frag} {H : Hp} {X X' : MS} {t c : Nat} {u : Tr} (h : CellIs K H X t c u) (e : cellV X' t c = cellV X t c) : CellIs K H X' t c u := let ⟨v, e', d⟩ := h; ⟨v, e.trans e', d⟩
def Nice (u : Tr) : Prop := u.ok ∧ u.sz < 1000 ∧ u.data.depth ≤ 10
theorem nice_int (i : Int) : Nice (.sc (.int i)) := ⟨rfl, by show 1 < 1000; decide, by show (PyData.int i).depth ≤ 10; simp [PyData.depth]⟩
theorem nice_non : Nice (.sc .non) := ⟨rfl, by show 1 < 1000; decide, by show PyData.none.depth ≤ 10; simp [PyData.depth]⟩
theorem nice_tup4 (a b c d : Int) : Nice (.tup [.sc (.int a), .sc (.int b), .sc (.int c), .sc (.int d)]) := by
  refine ⟨shaped_iff.mpr ⟨?_, ?_⟩, by show 1 + (1 + (1 + (1 + (1 + 0)))) < 1000; decide, ?_⟩
  · simp [Tr.data, datas, PyData.canLay0, PyData.canLayAll0]
  · simp [Tr.data, datas, PyData.depth, PyData.depthAll]
  · simp [Tr.data, datas, PyData.depth, PyData.depthAll]
theorem nice_st (x : Str) (i : Int) (hx : (PyData.str x).canLay0 = true) : Nice (.tup [.sc (.str x), .sc (.int i)]) := by
  refine ⟨shaped_iff.mpr ⟨?_, ?_⟩, by show 1 + (1 + (1 + 0)) < 1000; decide, ?_⟩
  · simp [Tr.data, datas, PyData.canLay0, PyData.canLayAll0] at hx ⊢
    exact hx
  · simp [Tr.data, datas, PyData.depth, PyData.depthAll]
  · simp [Tr.data, datas, PyData.depth, PyData.depthAll]
theorem nice_items : Nice (.tup [.sc (.str "items"), .tup []]) := by
  refine ⟨(show SeqAt.shaped (Tr.tup [.sc (.str "items"), .tup []]).data = true by decide +kernel), by decide, ?_⟩
  simp [Tr.data, datas, PyData.depth, PyData.depthAll]
theorem Nice.dvl {K : PySem.W.Frag} {H : Hp} {v : V} {u : Tr} (n : Nice u) (d : DV K H v u) : Dvl K H v u := ⟨d, n.1, Nat.lt_trans n.2.1 (by decide)⟩
theorem dv_int {K : PySem.W.Frag} {H : Hp} {v : V} {i : Int} (d : DV K H v (.sc (.int i))) : v = .int i := by cases d; rfl
theorem dv_tup {K : PySem.W.Frag} {H : Hp} {v : V} {l : List Tr} (d : DV K H v (.tup l)) : ∃ a xs, v = .ref a ∧ SqT K H a xs ∧ DVs K H xs l := by
  cases d with
  | tup h e => exact ⟨_, _, rfl, h, e⟩
theorem dvs_cons {K : PySem.W.Frag} {H : Hp} {xs : List V} {w : V} {l : List Tr} (d : DVs K H xs (.sc w :: l)) : ∃ ys, xs = w :: ys ∧ DVs K H ys l := by
  cases d with
  | cons a b =>
    cases a
    exact ⟨_, rfl, b⟩
theorem dvs_nil {K : PySem.W.Frag} {H : Hp} {xs : List V} (d : DVs K H xs []) : xs = [] := by cases d; rfl
end Dk

set_option maxHeartbeats 4000000
/-! reading words -/
namespace Dk
open PySem PySem.Spec PyProof.Rows L2
abbrev sIsMark : Stmt := top 15
abbrev sIsDone : Stmt := top 23
abbrev sShBy : Stmt := top 24
abbrev sShNow : Stmt := top 25
abbrev sShInit : Stmt := inClass (top 26) 0
abbrev sShReq : Stmt := inClass (top 26) 1
abbrev sShAcc : Stmt := inClass (top 26) 2
abbrev sShWord : Stmt := inClass (top 26) 3
abbrev sShStat : Stmt := inClass (top 26) 4
/-- what a word holds: an address, a mark -/
inductive Wd where
  | addr (a : Int)
  | mark (d s o n : Int)
def Wd.tr : Wd → Tr
  | .addr a => .sc (.int a)
  | .mark d s o n => .tup [.sc (.int d), .sc (.int s), .sc (.int o), .sc (.int n)]
/-- what a status cell holds: 0, a word and a number -/
inductive Sta where
  | zero
  | tup (z : Str) (t : Int)
def Sta.tr : Sta → Tr
  | .zero => .sc (.int 0)
  | .tup z t => .tup [.sc (.str z), .sc (.int t)]
def Sta.done : Sta → Bool
  | .zero => false
  | .tup z _ => decide (z = "done")
def Sta.num : Sta → Int
  | .zero => 0
  | .tup _ t => t
def Sta.ok : Sta → Prop
  | .zero => True
  | .tup z _ => z = "done" ∨ z = "failed"
def Wd.shown (s : Sta) : Wd → Int
  | .addr a => a
  | .mark _ _ o n => if s.done = true then n else o
theorem wd_addr {K : PySem.W.Frag} {H : Hp} {v : V} {a : Int} (d : DV K H v (Wd.addr a).tr) : v = .int a := dv_int d
theorem wd_mark {K : PySem.W.Frag} {H : Hp} {v : V} {d s o n : Int} (h : DV K H v (Wd.mark d s o n).tr) : ∃ p, v = .ref p ∧ SqT K H p [.int d, .int s, .int o, .int n] := by
  obtain ⟨p, xs, e, hq, h0⟩ := dv_tup h
  obtain ⟨x1, rfl, h1⟩ := dvs_cons h0
  obtain ⟨x2, rfl, h2⟩ := dvs_cons h1
  obtain ⟨x3, rfl, h3⟩ := dvs_cons h2
  obtain ⟨x4, rfl, h4⟩ := dvs_cons h3
  have h5 := dvs_nil h4
  subst h5
  exact ⟨p, e, hq⟩
theorem sta_zero {K : PySem.W.Frag} {H : Hp} {v : V} (d : DV K H v Sta.zero.tr) : v = .int 0 := dv_int d
theorem sta_tup {K : PySem.W.Frag} {H : Hp} {v : V} {z : Str} {t : Int} (h : DV K H v (Sta.tup z t).tr) : ∃ p, v = .ref p ∧ SqT K H p [.str z, .int t] := by
  obtain ⟨p, xs, e, hq, h0⟩ := dv_tup h
  obtain ⟨x1, rfl, h1⟩ := dvs_cons h0
  obtain ⟨x2, rfl, h2⟩ := dvs_cons h1
  have h3 := dvs_nil h2
  subst h3
  exact ⟨p, e, hq⟩
theorem str_lay {z : Str} (h : z = "done" ∨ z = "failed") : (PyData.str z).canLay0 = true := by
  rcases h with rfl | rfl <;> decide +kernel
theorem Wd.nice (w : Wd) : Nice w.tr := by
  cases w with
  | addr a => exact nice_int a
  | mark d s o n => exact nice_tup4 d s o n
theorem Sta.nice {s : Sta} (h : s.ok) : Nice s.tr := by
  cases s with
  | zero => exact nice_int 0
  | tup z t => exact nice_st z t (str_lay h)
def spIsMark (K : PySem.W.Frag) : Sp := fun vs H Q _ => ∃ (v : V) (wd : Wd), vs = [v] ∧ DV K H v wd.tr ∧ Q (.bl (match wd with | .addr _ => false | .mark .. => true)) H
def spIsDone (K : PySem.W.Frag) : Sp := fun vs H Q _ => ∃ (v : V) (s : Sta), vs = [v] ∧ DV K H v s.tr ∧ s.ok ∧ ∀ H', Same H H' → Q (.bl s.done) H'
def spShBy (K : PySem.W.Frag) : Sp := fun vs H Q _ => ∃ (p : Addr) (d s o n : Int) (v : V) (st : Sta), vs = [.ref p, v] ∧ SqT K H p [.int d, .int s, .int o, .int n] ∧ DV K H v st.tr ∧ st.ok ∧ ∀ H', Same H H' → Q (.int (if st.done = true then n else o)) H'
def spShNow (K : PySem.W.Frag) (C M : Addr) : Sp := fun vs H Q _ => ∃ (m : Addr) (t w r i : Nat) (A : Adr) (X : MS) (wd : Wd) (sc : Nat) (st : Sta), vs = [.ref m, .int (i : Int)] ∧ NOk t w r ∧ MemAt C M H m t w r A X ∧ i < w ∧ CellIs K H X t (1 + t + t + i) wd.tr ∧
  (∀ d s o n, wd = .mark d s o n → s = (sc : Int)) ∧ sc < 1 + t + (t + w + r) ∧ CellIs K H X t sc st.tr ∧ st.ok ∧ ∀ H', Same H H' → Q (.int (wd.shown st)) H'
section
variable {P : Program} {w : World} {K : PySem.W.Frag} {mg : Str → Option Value} {base : Heap} {C M S CS gTw gTs : Addr}
theorem scIsMark : FnScope ["value"] ["value"] (defScope sIsMark) := ⟨rfl, rfl, rfl, by decide +kernel, rfl, by decide +kernel, by decide +kernel⟩
theorem go_ismark (F : GT K mg "is_mark" sIsMark ["value"]) (B0 : Bn mg) : GO P w K mg base CX0 1 "is_mark" ["value"] (spIsMark K) := by
  obtain ⟨f, fd, F, hm, hb⟩ := F
  refine ⟨f, fd, ?_, hm, F.kp, hb⟩
  refine F.ok scIsMark (fun vs H Q E h => ?_) (fun cdv A outer s H vs Q E hr h => ?_)
  · obtain ⟨v, wd, rfl, _⟩ := h
    rfl
  · obtain ⟨v, wd, rfl, d, k⟩ := h
    refine ⟨_, (pss_one (ps_ret (pe_callB call_isi (by rfl) B0.isi (by decide +kernel) (pa_cons (pv 0) (pa_cons (pe_bltn (v := .ty "tuple") (by rfl) B0.tuple (by decide +kernel) rfl) pa_nil))))), ?_⟩
    cases wd with
    | addr a =>
      have := wd_addr d
      subst this
      exact ⟨_, rfl, _, _, _, _, false, rfl, .ty "tuple", .base (.int a), kit_ty (by decide +kernel), k⟩
    | mark d1 s1 o1 n1 =>
      obtain ⟨p, rfl, hp⟩ := wd_mark d
      exact ⟨_, rfl, _, _, _, _, true, rfl, .ty "tuple", tyT hp, kit_ty (by decide +kernel), k⟩
theorem scIsDone : FnScope ["status"] ["status"] (defScope sIsDone) := ⟨rfl, rfl, rfl, by decide +kernel, rfl, by decide +kernel, by decide +kernel⟩
theorem go_isdone (F : GT K mg "is_done" sIsDone ["status"]) (B0 : Bn mg) : GO P w K mg base CX0 1 "is_done" ["status"] (spIsDone K) := by
  obtain ⟨f, fd, F, hm, hb⟩ := F
  refine ⟨f, fd, ?_, hm, F.kp, hb⟩
  refine F.ok scIsDone (fun vs H Q E h => ?_) (fun cdv A outer s H vs Q E hr h => ?_)
  · obtain ⟨v, st, rfl, _⟩ := h
    rfl
  · obtain ⟨v, st, rfl, d, ok, k⟩ := h
    refine ⟨_, (pss_one (ps_ret (pe_and (pe_callB call_isi (by rfl) B0.isi (by decide +kernel) (pa_cons (pv 0) (pa_cons (pe_bltn (v := .ty "tuple") (by rfl) B0.tuple (by decide +kernel) rfl) pa_nil))) (pe_one (pe_cmpR (op_eqD hr.units) (pe_slice sl_tup (pv 0) po_none (po_some pe_int)) (pe_tup (pa_cons pe_str pa_nil)) (nomark _)))))), ?_⟩
    cases st with
    | zero =>
      have := sta_zero d
      subst this
      exact ⟨_, rfl, _, _, _, _, false, rfl, .ty "tuple", .base (.int 0), kit_ty (by decide +kernel), _, rfl, iteF (k H (Same.refl H))⟩
    | tup z t =>
      obtain ⟨p, rfl, hp⟩ := sta_tup d
      refine ⟨_, rfl, _, _, _, _, true, rfl, .ty "tuple", tyT hp, kit_ty (by decide +kernel), _, rfl, iteT ?_⟩
      refine ⟨_, rfl, _, rfl, p, _, rfl, hp, (show ¬ (HT.sIx 2 0 none = 0 ∧ HT.sIx 2 2 (some 1) = 2) by decide), fun p1 hp1 => ?_⟩
      rw [show cutV [V.str z, V.int t] none (some 1) = [V.str z] from rfl]
      have s1 := up1 (o := HO.tup [V.str z]) hp1
      have e1 : upd H p1 (HO.tup [V.str z]) p1 = _ := upd_same
      generalize upd H p1 (HO.tup [V.str z]) = H1 at s1 e1 ⊢
      refine ⟨(by show 1 ≤ sizeLine; decide), fun p2 hp2 => ?_⟩
      have s2 := up1 (o := HO.tup [V.str "done"]) hp2
      have e2 : upd H1 p2 (HO.tup [V.str "done"]) p2 = _ := upd_same
      generalize upd H1 p2 (HO.tup [V.str "done"]) = H2 at s2 e2 ⊢
      refine ⟨.tuple [.str z], .tuple [.str "done"], .tup (SqT.of (s2 _ _ e1)) (.cons (.str _) .nil), .tup (SqT.of e2) (.cons (.str _) .nil), ?_, by decide +kernel, ?_⟩
      · rcases ok with rfl | rfl <;> decide +kernel
      · have : PyData.eqv (.tuple [.str z]) (.tuple [.str "done"]) = (Sta.tup z t).done := by
          rcases ok with rfl | rfl
          · show _ = decide (("done" : Str) = "done")
            decide +kernel
          · show _ = decide (("failed" : Str) = "done")
            decide +kernel
        rw [this]
        exact k H2 (s1.trans s2)
theorem scShBy : FnScope ["mark", "status", "old", "new"] ["mark", "status"] (defScope sShBy) := ⟨rfl, rfl, rfl, by decide +kernel, rfl, by decide +kernel, by decide +kernel⟩
theorem go_shby (F : GT K mg "shown_by" sShBy ["mark", "status"]) (GDn : GO P w K mg base CX0 1 "is_done" ["status"] (spIsDone K)) : GO P w K mg base CX0 2 "shown_by" ["mark", "status"] (spShBy K) := by
  obtain ⟨f, fd, F, hm, hb⟩ := F
  refine ⟨f, fd, ?_, hm, F.kp, hb⟩
  refine F.ok scShBy (fun vs H Q E h => ?_) (fun cdv A outer s H vs Q E hr h => ?_)
  · obtain ⟨p, d, s, o, n, v, st, rfl, _⟩ := h
    rfl
  · obtain ⟨p, d, s1, o, n, v, st, rfl, hp, dv, ok, k⟩ := h
    have nd := scShBy.nd
    have hr1 : Room 1 _ := hr
    refine ⟨_, (pss_cons (ps_asg (pe_slice sl_tup (pv 0) (po_some pe_int) po_none) (pg_tup (by rfl) (pgs_cons (pg_name (i := 2) nd rfl (Or.inl rfl)) (pgs_cons (pg_name (i := 3) nd rfl (Or.inl rfl)) pgs_nil))))
  (pss_one (ps_ret (pe_ifExp (pt_val (pc_ GDn hr1 (pa_cons (pv 1) pa_nil))) (pv 3) (pv 2))))), ?_⟩
    refine ⟨_, rfl, _, rfl, p, _, rfl, hp, (show ¬ (HT.sIx 4 0 (some 2) = 0 ∧ HT.sIx 4 4 none = 4) by decide), fun q hq => ?_⟩
    rw [show cutV [V.int d, V.int s1, V.int o, V.int n] (some 2) none = [V.int o, V.int n] from rfl]
    have s1 := up1 (o := HO.tup [V.int o, V.int n]) hq
    have e1 : upd H q (HO.tup [V.int o, V.int n]) q = _ := upd_same
    generalize upd H q (HO.tup [V.int o, V.int n]) = H1 at s1 e1 ⊢
    refine ⟨q, _, rfl, SqT.of e1, rfl, _, _, rfl, _, _, rfl, rfl, ?_⟩
    refine ⟨_, rfl, v, st, rfl, DV.ext s1 _ _ dv, ok, fun H2 s2 => ?_⟩
    have e := k H2 (s1.trans s2)
    refine ⟨_, rfl, ?_⟩
    cases hd : st.done with
    | false =>
      rw [hd] at e
      exact iteF ⟨_, rfl, e⟩
    | true =>
      rw [hd] at e
      exact iteT ⟨_, rfl, e⟩
theorem scShNow : FnScope ["memory", "index", "held"] ["memory", "index"] (defScope sShNow) := ⟨rfl, rfl, rfl, by decide +kernel, rfl, by decide +kernel, by decide +kernel⟩
theorem go_shnow (F : GT K mg "shown_now" sShNow ["memory", "index"]) (TL : LTxt K mg C) (TM : MTxt K M) (GPk : MO P w K mg base CX0 M 8 "peek" ["self", "cell"] (spPeek C M)) (GWo : MO P w K mg base CX0 C 3 "word" ["self", "index"] (spL1 C fun t _ _ i => .int (1 + t + t + i))) (GMk : GO P w K mg base CX0 1 "is_mark" ["value"] (spIsMark K)) (GSb : GO P w K mg base CX0 2 "shown_by" ["mark", "status"] (spShBy K)) : GO P w K mg base CX0 9 "shown_now" ["memory", "index"] (spShNow K C M) := by
  obtain ⟨f, fd, F, hm, hb⟩ := F
  refine ⟨f, fd, ?_, hm, F.kp, hb⟩
  refine F.ok scShNow (fun vs H Q E h => ?_) (fun cdv A outer s H vs Q E hr h => ?_)
  · obtain ⟨m, t, w, r, i, A, X, wd, sc, st, rfl, _⟩ := h
    rfl
  · obtain ⟨m, t, wd, r, i, A0, X, wv, sc, st, rfl, nok, D, hi, ⟨v, hv, dv⟩, hsc, hscb, ⟨u, hu, du⟩, ok, k⟩ := h
    have nd := scShNow.nd
    have hr1 : Room 1 _ := hr.mono (by decide)
    have hr2 : Room 2 _ := hr.mono (by decide)
    have hr3 : Room 3 _ := hr.mono (by decide)
    have hr8 : Room 8 _ := hr
    refine ⟨_, (pss_cons (ps_set (i := 2) nd rfl (Or.inl rfl) (pm_ GPk TM.cl hr8 (pv 0) (pa_cons (pm_ GWo TL.cl hr3 (pe_fld (pv 0) rfl) (pa_cons (pv 1) pa_nil)) pa_nil)))
  (pss_cons (ps_if (pt_val (pc_ GMk hr1 (pa_cons (pv 2) pa_nil)))
  (pss_one (ps_ret (pc_ GSb hr2 (pa_cons (pv 2) (pa_cons (pm_ GPk TM.cl hr8 (pv 0) (pa_cons (pe_ix ix_tup (pv 2) pe_int (fun _ _ => rfl)) pa_nil)) pa_nil)))))
  pss_nil)
  (pss_one (ps_ret (pv 2))))), ?_⟩
    obtain ⟨dm, hm'⟩ := D.ob
    obtain ⟨da, hla⟩ := D.lay
    refine ⟨_, rfl, m, dm, _, rfl, hm', rfl, _, rfl, m, M, dm, _, _, rfl, hm', TM.cl, TM.nL, rfl, A0.a, da, _, rfl, hla, rfl, _, rfl, A0.a, t, wd, r, i, rfl, ⟨da, hla⟩, m, t, wd, r, 1 + t + t + i, A0, X, v, (by rw [show ((1 + t + t + i : Nat) : Int) = 1 + (t : Int) + t + i by omega]; rfl), D, (by omega), hv, ?_⟩
    refine ⟨_, rfl, v, wv, rfl, dv.d, _, rfl, ?_⟩
    cases wv with
    | addr a =>
      have := wd_addr dv.d
      subst this
      exact iteF ⟨_, rfl, k H (Same.refl H)⟩
    | mark d1 s1 o1 n1 =>
      obtain ⟨p, rfl, hp⟩ := wd_mark dv.d
      have hs := hsc _ _ _ _ rfl
      subst hs
      refine iteT ⟨_, rfl, _, rfl, m, dm, _, rfl, hm', rfl, _, rfl, p, _, 1, _, rfl, rfl, hp, rfl, m, t, wd, r, sc, A0, X, u, rfl, D, hscb, hu, p, d1, _, o1, n1, u, st, rfl, hp, du.d, ok, fun H' s => k H' s⟩
end
end Dk

set_option maxHeartbeats 4000000
/-! the machine that reads a word -/
namespace Dk
open PySem PySem.Spec PyProof.Rows L2
theorem FnOk.fnr {P : Program} {w : World} {K : PySem.W.Frag} {mg : Str → Option Value} {base : Heap} {k : Nat} {f : Addr} {fd : FuncData} {ps : List Str} {sp : Sp} (F : FnOk P w K mg base CX0 k f fd ps sp) (hb : Binds K fd ps []) : FnR P w K mg base CX0 k f sp :=
  (F.raw hb .nil).imp fun vs H Q E h => by rw [List.append_nil]; exact h
/-- a fresh address was fresh where less stood -/
theorem Kept.free {a : Addr} {H H' : Hp} (k : Kept a H H') {p : Addr} (hp : H' p = none) (ha : ∃ o, H' a = some o) : H p = none := by
  cases q : H p with
  | none => rfl
  | some o =>
    by_cases c : p = a
    · subst c
      obtain ⟨o', e⟩ := ha
      rw [e] at hp; cases hp
    · have := k p o q c
      rw [hp] at this; cases this
theorem Kept.trans {a : Addr} {H H1 H2 : Hp} (x : Kept a H H1) (y : Kept a H1 H2) : Kept a H H2 := fun b o e n => y b o (x b o e n) n
theorem Kept.of {a : Addr} {H H1 : Hp} (s : Same H H1) : Kept a H H1 := fun b o e _ => s b o e
/-- accepting -/
def spAcc (P : Program) (W : World) (K : PySem.W.Frag) (mg : Str → Option Value) (base : Heap) (k : Nat) (C : Addr) : Sp := fun vs H Q E => (∀ (a dx : Addr) (fs : List (Str × V)), vs.head? = some (.ref a) → H a = some (.ins C dx fs) → fs.lookup ("_go_on" : Str) = none) ∧ spGo P W K mg base k C vs H Q E
abbrev shrest (mk : V) (acc : Int) : List (Str × V) := [("_mark", mk), ("_access", .int acc)]
structure HTx (K : PySem.W.Frag) (CS : Addr) : Prop where
  m : MTx K CS
  nM : NoAttr K CS "_mark"
  nA : NoAttr K CS "_access"
def spShInit (C CS g : Addr) : Sp := fun vs H Q _ => ∃ (a dx la : Addr) (t w r : Int) (i : Int), vs = [.ref a, .ref la, .int i] ∧ H a = some (.ins CS dx []) ∧ LayAt C H la t w r ∧
  ∀ (H' : Hp) (q l qm : Addr), H q = none → H l = none → H qm = none → MaAt CS H' a dx (.ref q) l (.ref qm) [] (shrest .non 0) → H' q = some (.tup [.str "read", .int (1 + t + t + i)]) → H' qm = some (.met g a) → Kept a H H' → Q .non H'
def spShWord (K : PySem.W.Frag) (CS gs : Addr) : Sp := fun vs H Q _ => ∃ (a dx p l : Addr) (w th mk : V) (left : List V) (acc c : Int) (held : V) (wd : Wd), vs = [.ref a, .ref p] ∧ MaAt CS H a dx w l th left (shrest mk acc) ∧ H p = some (.tup [held, .int c]) ∧ DV K H held wd.tr ∧
  ((∃ x, wd = .addr x ∧ ∀ (H' : Hp) (q u : Addr), H q = none → H u = none → H' q = some (.tup [.str "end", .ref u]) → H' u = some (.tup [held, .int c, .non]) → MaAt CS H' a dx (.ref q) l th left (shrest mk acc) → Kept a H H' → Q .non H') ∨
   (∃ d s o n, wd = .mark d s o n ∧ ∀ (H' : Hp) (q l' qm : Addr), H q = none → H l' = none → H qm = none → H' q = some (.tup [.str "read", .int s]) → H' qm = some (.met gs a) → MaAt CS H' a dx (.ref q) l' (.ref qm) [] (shrest held c) → Kept a H H' → Q .non H'))
def shRes (st : Sta) (acc : Int) (s o n : Int) : List V := if st.done = true then [.int n, .int (if st.num > acc then st.num else acc), .int s] else [.int o, .int acc, .non]
def spShStat (K : PySem.W.Frag) (CS : Addr) : Sp := fun vs H Q _ => ∃ (a dx p l mk : Addr) (w th : V) (left : List V) (acc c : Int) (d s o n : Int) (v : V) (st : Sta), vs = [.ref a, .ref p] ∧ MaAt CS H a dx w l th left (shrest (.ref mk) acc) ∧ H p = some (.tup [v, .int c]) ∧ SqT K H mk [.int d, .int s, .int o, .int n] ∧ DV K H v st.tr ∧ st.ok ∧
  ∀ (H' : Hp) (q u : Addr), H q = none → H u = none → H' q = some (.tup [.str "end", .ref u]) → H' u = some (.tup (shRes st acc s o n)) → MaAt CS H' a dx (.ref q) l th left (shrest (.ref mk) acc) → Kept a H H' → Q .non H'
section
variable {P : Program} {w : World} {K : PySem.W.Frag} {mg : Str → Option Value} {base : Heap} {C M S CS g gs : Addr}
theorem scShReq : FnScope ["self"] ["self"] (defScope sShReq) := ⟨rfl, rfl, rfl, by decide +kernel, rfl, by decide +kernel, by decide +kernel⟩
theorem mo_shreq (F : MT K CS "request" "Shown.request" sShReq ["self"]) (TC : MTx K CS) : MO P w K mg base CX0 CS 1 "request" ["self"] (spReq CS) := by
  obtain ⟨f, fd, F, hm, hb⟩ := F
  refine ⟨f, fd, ?_, hm, hb⟩
  refine F.ok scShReq (fun vs H Q E h => ?_) (fun cdv A outer s H vs Q E hr h => ?_)
  · obtain ⟨a, dx, l, w, th, left, rest, rfl, _⟩ := h
    rfl
  · obtain ⟨a, dx, l, w, th, left, rest, rfl, D, k⟩ := h
    refine ⟨_, (pss_one (ps_ret (pe_fld (pv 0) rfl))), ?_⟩
    exact ⟨_, rfl, a, CS, dx, _, _, rfl, D.ob, TC.cl, TC.nW, rfl, k⟩
theorem scShAcc : FnScope ["self", "result"] ["self", "result"] (defScope sShAcc) := ⟨rfl, rfl, rfl, by decide +kernel, rfl, by decide +kernel, by decide +kernel⟩
theorem mo_shacc {k : Nat} (F : MT K CS "accept" "Shown.accept" sShAcc ["self", "result"]) (TC : MTx K CS) (GGo : MO P w K mg base CX0 CS (k + 1) "_go_on" ["self", "result"] (spGo P w K mg base k CS)) : MO P w K mg base CX0 CS (k + 2) "accept" ["self", "result"] (spAcc P w K mg base k CS) := by
  obtain ⟨f, fd, F, hm, hb⟩ := F
  refine ⟨f, fd, ?_, hm, hb⟩
  refine F.ok scShAcc (fun vs H Q E h => ?_) (fun cdv A outer s H vs Q E hr h => ?_)
  · obtain ⟨_, a, dx, l, w, th, res, left, rest, rfl, _⟩ := h
    rfl
  · obtain ⟨hl, h'⟩ := h
    obtain ⟨a, dx, l, w, th, res, left, rest, rfl, D, hz, hc⟩ := id h'
    have hrG : Room (k + 1) _ := hr
    refine ⟨_, (pss_one (ps_expr (pm_ GGo TC.cl hrG (pv 0) (pa_cons (pv 1) pa_nil)))), ?_⟩
    exact ⟨_, rfl, a, dx, _, rfl, D.ob, hl a dx _ rfl D.ob, _, rfl, h'⟩
theorem scShInit : FnScope ["self", "layout", "index"] ["self", "layout", "index"] (defScope sShInit) := ⟨rfl, rfl, rfl, by decide +kernel, rfl, by decide +kernel, by decide +kernel⟩
theorem ok_shinit {f fMi Ma : Addr} {fd : FuncData} (F : Fun K "__init__" "Shown.__init__" sShInit f fd) (TH : HTx K CS) (TL : LTxt K mg C) (gMa : mg "Machine" = some (.ref Ma)) (cMi : Mr.CFn K Ma "__init__" fMi) (FMi : FnR P w K mg base CX0 1 fMi (spMaInit CS)) (bg : BMeth K CS "_take_word" g)
    (GWo : MO P w K mg base CX0 C 3 "word" ["self", "index"] (spL1 C fun t _ _ i => .int (1 + t + t + i))) (GAs : MO P w K mg base CX0 CS 1 "_ask" ["self", "requests", "then"] (spMaAsk CS)) :
    FnOk P w K mg base CX0 4 f fd ["self", "layout", "index"] (spShInit C CS g) := by
  refine F.ok scShInit (fun vs H Q E h => ?_) (fun cdv A outer s H vs Q E hr h => ?_)
  · obtain ⟨a, dx, la, t, w, r, i, rfl, _⟩ := h
    rfl
  · obtain ⟨a, dx, la, t, wd, r, i, rfl, ha, ⟨da, hla⟩, k⟩ := h
    have hr1 : Room 1 _ := hr.mono (by decide)
    have hr3 : Room 3 _ := hr
    have TC := TH.m
    have hrA : Room 1 _ := hr.mono (by decide)
    refine ⟨_, (pss_cons (ps_expr (Mr.pe_cls rfl gMa cMi FMi hr1 (pa_cons (pv 0) pa_nil)))
  (pss_cons (ps_fld (pv 0) pe_non rfl)
  (pss_cons (ps_fld (pv 0) pe_int rfl)
  (pss_one (ps_expr (pm_ GAs TC.cl hrA (pv 0) (pa_cons (pe_lst (pa_cons (pe_tup (pa_cons pe_str (pa_cons (pm_ GWo TL.cl hr3 (pv 1) (pa_cons (pv 2) pa_nil)) pa_nil))) pa_nil)) (pa_cons (Mr.pe_bm_ (pv 0)) pa_nil)))))))), ?_⟩
    refine ⟨_, rfl, a, dx, rfl, ha, fun H1 e l he hl h1 D1 kp1 => ?_⟩
    have la_a : la ≠ a := ne_of hla ha (by intro z; cases z)
    have hla1 := kp1 _ _ hla la_a
    have hk : ∀ {b : Addr} {o o' : HO}, H1 b = some o → b ≠ a → upd H1 a o' b = some o := fun {b o o'} q n => by rw [upd_ne n]; exact q
    refine ⟨_, rfl, a, CS, dx, _, rfl, D1.ob, TC.cl, TH.nM, (by show 3 < 1000; decide), ?_⟩
    refine ⟨_, rfl, a, CS, dx, _, rfl, upd_same, TC.cl, TH.nA, (by show 4 < 1000; decide), ?_⟩
    have l_a : l ≠ a := ne_of D1.lf D1.ob (by intro z; cases z)
    generalize hH2 : upd (upd H1 a _) a _ = H2
    have kp2 : Kept a H1 H2 := fun b o q n => by rw [← hH2, upd_ne n, upd_ne n]; exact q
    have a2 : H2 a = some (.ins CS dx (mfs (.ref e) l .non (shrest .non 0))) := by rw [← hH2]; exact upd_same
    have l2 := kp2 _ _ D1.lf l_a
    have hla2 := kp2 _ _ hla1 la_a
    refine ⟨_, rfl, a, dx, _, rfl, a2, rfl, _, rfl, la, da, _, rfl, hla2, rfl, _, rfl, la, t, wd, r, i, rfl, ⟨da, hla2⟩, (by show 2 ≤ sizeLine; decide), fun q hq => ⟨(by show 1 ≤ sizeLine; decide), fun rq hrq => ?_⟩⟩
    have s3 := up1 (o := HO.tup [V.str "read", V.int (1 + t + t + i)]) hq
    have e3 : upd H2 q (HO.tup [V.str "read", V.int (1 + t + t + i)]) q = _ := upd_same
    generalize upd H2 q (HO.tup [V.str "read", V.int (1 + t + t + i)]) = H3 at s3 e3 hrq ⊢
    have s4 := up1 (o := HO.lst [V.ref q]) hrq
    have e4 : upd H3 rq (HO.lst [V.ref q]) rq = _ := upd_same
    generalize upd H3 rq (HO.lst [V.ref q]) = H4 at s4 e4 ⊢
    refine ⟨_, rfl, a, CS, dx, _, g, rfl, s4 _ _ (s3 _ _ a2), TC.cl, bg, rfl, fun qm hqm => ?_⟩
    have s5 := up1 (o := HO.met g a) hqm
    have e5 : upd H4 qm (HO.met g a) qm = _ := upd_same
    generalize upd H4 qm (HO.met g a) = H5 at s5 e5 ⊢
    have s25 := s3.trans (s4.trans s5)
    have a5 := s25 _ _ a2
    refine ⟨a, dx, l, rq, _, _, .ref qm, [], shrest .non 0, .ref q, [], rfl, ⟨a5, s25 _ _ l2⟩, (by show 2 < 900; decide), s5 _ _ e4, fun H6 l' hl' D6 kp6 => ?_⟩
    have k15 : Kept a H H5 := (kp1.trans kp2).trans (Kept.of s25)
    have q_a : q ≠ a := ne_of (s4.trans s5 _ _ e3) a5 (by intro z; cases z)
    have qm_a : qm ≠ a := ne_of e5 a5 (by intro z; cases z)
    refine k H6 q l' qm ((kp1.trans kp2).free hq ⟨_, a2⟩) (k15.free hl' ⟨_, a5⟩) (((kp1.trans kp2).trans (Kept.of (s3.trans s4))).free hqm ⟨_, (s3.trans s4) _ _ a2⟩) D6 (kp6 _ _ (s4.trans s5 _ _ e3) q_a) (kp6 _ _ e5 qm_a) (k15.trans kp6)
theorem scShWord : FnScope ["self", "result", "held", "access"] ["self", "result"] (defScope sShWord) := ⟨rfl, rfl, rfl, by decide +kernel, rfl, by decide +kernel, by decide +kernel⟩
theorem mo_shword (F : MT K CS "_take_word" "Shown._take_word" sShWord ["self", "result"]) (TH : HTx K CS) (bg : BMeth K CS "_take_status" gs) (GMk : GO P w K mg base CX0 1 "is_mark" ["value"] (spIsMark K))
    (GAs : MO P w K mg base CX0 CS 1 "_ask" ["self", "requests", "then"] (spMaAsk CS)) (GEd : MO P w K mg base CX0 CS 1 "_end" ["self", "value"] (spMaEnd CS)) : MO P w K mg base CX0 CS 4 "_take_word" ["self", "result"] (spShWord K CS gs) := by
  obtain ⟨f, fd, F, hm, hb⟩ := F
  refine ⟨f, fd, ?_, hm, hb⟩
  refine F.ok scShWord (fun vs H Q E h => ?_) (fun cdv A outer s H vs Q E hr h => ?_)
  · obtain ⟨a, dx, p, l, wv, th, mk, left, acc, c, held, wd, rfl, _⟩ := h
    rfl
  · obtain ⟨a, dx, p, l, wv, th, mk, left, acc, c, held, wd, rfl, D, hp, dv, hc⟩ := h
    have nd := scShWord.nd
    have hrA : Room 1 _ := hr.mono (by decide)
    have hr1 : Room 1 _ := hr.mono (by decide)
    have TC := TH.m
    refine ⟨_, (pss_cons (ps_asg (pv 1) (pg_tup (by rfl) (pgs_cons (pg_name (i := 2) nd rfl (Or.inl rfl)) (pgs_cons (pg_name (i := 3) nd rfl (Or.inl rfl)) pgs_nil))))
  (pss_one (ps_if (pt_val (pc_ GMk hr1 (pa_cons (pv 2) pa_nil)))
  (pss_cons (ps_fld (pv 0) (pv 2) rfl)
  (pss_cons (ps_fld (pv 0) (pv 3) rfl)
  (pss_one (ps_expr (pm_ GAs TC.cl hrA (pv 0) (pa_cons (pe_lst (pa_cons (pe_tup (pa_cons pe_str (pa_cons (pe_ix ix_tup (pv 2) pe_int (fun _ _ => rfl)) pa_nil))) pa_nil)) (pa_cons (Mr.pe_bm_ (pv 0)) pa_nil)))))))
  (pss_one (ps_expr (pm_ GEd TC.cl hrA (pv 0) (pa_cons (pe_tup (pa_cons (pv 2) (pa_cons (pv 3) (pa_cons pe_non pa_nil)))) pa_nil))))))), ?_⟩
    refine ⟨_, rfl, p, _, rfl, SqT.of hp, rfl, _, _, rfl, _, _, rfl, rfl, ?_⟩
    refine ⟨_, rfl, held, wd, rfl, dv, _, rfl, ?_⟩
    rcases hc with ⟨x, rfl, k⟩ | ⟨d1, s1, o1, n1, rfl, k⟩
    · refine iteF ⟨_, rfl, a, dx, _, rfl, D.ob, rfl, _, rfl, _, rfl, (by show 3 ≤ sizeLine; decide), fun u hu => ?_⟩
      have s3 := up1 (o := HO.tup [held, V.int c, V.non]) hu
      have e3 : upd H u (HO.tup [held, V.int c, V.non]) u = _ := upd_same
      generalize upd H u (HO.tup [held, V.int c, V.non]) = H3 at s3 e3 ⊢
      refine ⟨a, dx, l, wv, th, .ref u, left, _, rfl, D.same s3, (by show 2 < 900; decide), fun H' q hq e' D' kp' => ?_⟩
      have u_a : u ≠ a := ne_of e3 (D.same s3).ob (by intro z; cases z)
      exact k H' q u (s3.free hq) hu e' (kp' _ _ e3 u_a) D' ((Kept.of s3).trans kp')
    · obtain ⟨pm, rfl, hpm⟩ := wd_mark dv
      refine iteT ⟨_, rfl, _, rfl, a, CS, dx, _, rfl, D.ob, TC.cl, TH.nM, (by show 5 < 1000; decide), ?_⟩
      refine ⟨_, rfl, _, rfl, a, CS, dx, _, rfl, upd_same, TC.cl, TH.nA, (by show 5 < 1000; decide), ?_⟩
      have l_a : l ≠ a := ne_of D.lf D.ob (by intro z; cases z)
      have exA : ExT H (upd (upd H a (.ins CS dx (mfs wv l th (shrest (.ref pm) acc)))) a (.ins CS dx (mfs wv l th (shrest (.ref pm) c)))) := by
        refine ⟨fun b xs e => ?_, fun b o xs e => ?_⟩
        · have n : b ≠ a := ne_of e D.ob (by intro z; cases z)
          rw [upd_ne n, upd_ne n]; exact e
        · have n : b ≠ a := ne_of e D.ob (by intro z; cases z)
          rw [upd_ne n, upd_ne n]; exact e
      generalize hH2 : upd (upd H a _) a _ = H2
      have ex2 : ExT H H2 := by rw [← hH2]; exact exA
      have kp2 : Kept a H H2 := fun b o q n => by rw [← hH2, upd_ne n, upd_ne n]; exact q
      have a2 : H2 a = some (.ins CS dx (mfs wv l th (shrest (.ref pm) c))) := by rw [← hH2]; exact upd_same
      have l2 := kp2 _ _ D.lf l_a
      refine ⟨_, rfl, a, dx, _, rfl, a2, rfl, _, rfl, pm, _, 1, _, rfl, rfl, hpm.extT ex2, rfl, (by show 2 ≤ sizeLine; decide), fun q hq => ⟨(by show 1 ≤ sizeLine; decide), fun rq hrq => ?_⟩⟩
      have s3 := up1 (o := HO.tup [V.str "read", V.int s1]) hq
      have e3 : upd H2 q (HO.tup [V.str "read", V.int s1]) q = _ := upd_same
      generalize upd H2 q (HO.tup [V.str "read", V.int s1]) = H3 at s3 e3 hrq ⊢
      have s4 := up1 (o := HO.lst [V.ref q]) hrq
      have e4 : upd H3 rq (HO.lst [V.ref q]) rq = _ := upd_same
      generalize upd H3 rq (HO.lst [V.ref q]) = H4 at s4 e4 ⊢
      refine ⟨_, rfl, a, CS, dx, _, gs, rfl, s4 _ _ (s3 _ _ a2), TC.cl, bg, rfl, fun qm hqm => ?_⟩
      have s5 := up1 (o := HO.met gs a) hqm
      have e5 : upd H4 qm (HO.met gs a) qm = _ := upd_same
      generalize upd H4 qm (HO.met gs a) = H5 at s5 e5 ⊢
      have s25 := s3.trans (s4.trans s5)
      have a5 := s25 _ _ a2
      refine ⟨a, dx, l, rq, _, _, .ref qm, left, shrest (.ref pm) c, .ref q, [], rfl, ⟨a5, s25 _ _ l2⟩, (by show 2 < 900; decide), s5 _ _ e4, fun H6 l' hl' D6 kp6 => ?_⟩
      have k15 : Kept a H H5 := kp2.trans (Kept.of s25)
      have q_a : q ≠ a := ne_of (s4.trans s5 _ _ e3) a5 (by intro z; cases z)
      have qm_a : qm ≠ a := ne_of e5 a5 (by intro z; cases z)
      exact k H6 q l' qm (kp2.free hq ⟨_, a2⟩) (k15.free hl' ⟨_, a5⟩) ((kp2.trans (Kept.of (s3.trans s4))).free hqm ⟨_, (s3.trans s4) _ _ a2⟩) (kp6 _ _ (s4.trans s5 _ _ e3) q_a) (kp6 _ _ e5 qm_a) D6 (k15.trans kp6)
theorem scShStat : FnScope ["self", "result", "status", "address"] ["self", "result"] (defScope sShStat) := ⟨rfl, rfl, rfl, by decide +kernel, rfl, by decide +kernel, by decide +kernel⟩
theorem mo_shstat (F : MT K CS "_take_status" "Shown._take_status" sShStat ["self", "result"]) (TH : HTx K CS) (zx : mg "max" = none) (GDn : GO P w K mg base CX0 1 "is_done" ["status"] (spIsDone K)) (GSb : GO P w K mg base CX0 2 "shown_by" ["mark", "status"] (spShBy K))
    (GEd : MO P w K mg base CX0 CS 1 "_end" ["self", "value"] (spMaEnd CS)) : MO P w K mg base CX0 CS 4 "_take_status" ["self", "result"] (spShStat K CS) := by
  obtain ⟨f, fd, F, hm, hb⟩ := F
  refine ⟨f, fd, ?_, hm, hb⟩
  refine F.ok scShStat (fun vs H Q E h => ?_) (fun cdv A outer s H vs Q E hr h => ?_)
  · obtain ⟨a, dx, p, l, mk, wv, th, left, acc, c, d, s1, o, n, v, st, rfl, _⟩ := h
    rfl
  · obtain ⟨a, dx, p, l, mk, wv, th, left, acc, c, d, s1, o, n, v, st, rfl, D, hp, hmk, dv, ok, k⟩ := h
    have nd := scShStat.nd
    have hrA : Room 1 _ := hr.mono (by decide)
    have hr1 : Room 1 _ := hr.mono (by decide)
    have hr2 : Room 2 _ := hr.mono (by decide)
    have TC := TH.m
    refine ⟨_, (pss_cons (ps_set (i := 2) nd rfl (Or.inl rfl) (pe_ix ix_tup (pv 1) pe_int (fun _ _ => rfl)))
  (pss_cons (ps_set (i := 3) nd rfl (Or.inl rfl) (pc_ GSb hr2 (pa_cons (pe_fld (pv 0) rfl) (pa_cons (pv 2) pa_nil))))
  (pss_one (ps_if (pt_val (pc_ GDn hr1 (pa_cons (pv 2) pa_nil)))
  (pss_one (ps_expr (pm_ GEd TC.cl hrA (pv 0) (pa_cons (pe_tup (pa_cons (pv 3) (pa_cons (pe_callB (call_max2 rfl) (by rfl) zx (by decide +kernel) (pa_cons (pe_fld (pv 0) rfl) (pa_cons (pe_ix ix_tup (pv 2) pe_int (fun _ _ => rfl)) pa_nil))) (pa_cons (pe_ix ix_tup (pe_fld (pv 0) rfl) pe_int (fun _ _ => rfl)) pa_nil)))) pa_nil))))
  (pss_one (ps_expr (pm_ GEd TC.cl hrA (pv 0) (pa_cons (pe_tup (pa_cons (pv 3) (pa_cons (pe_fld (pv 0) rfl) (pa_cons pe_non pa_nil)))) pa_nil)))))))), ?_⟩
    refine ⟨_, rfl, p, _, 0, _, rfl, rfl, SqT.of hp, at_head, ?_⟩
    refine ⟨_, rfl, a, CS, dx, _, _, rfl, D.ob, TC.cl, TH.nM, rfl, _, rfl, mk, d, s1, o, n, v, st, rfl, hmk, dv, ok, fun H2 s2 => ?_⟩
    refine ⟨_, rfl, v, st, rfl, DV.ext s2 _ _ dv, ok, fun H3 s3 => ?_⟩
    have s23 := s2.trans s3
    have D3 := D.same s23
    refine ⟨_, rfl, ?_⟩
    have fin : ∀ (H4 : Hp) (u : Addr) (xs : List V), H3 u = none → xs = shRes st acc s1 o n → H4 = upd H3 u (.tup xs) → (∀ (H' : Hp) (q : Addr), H4 q = none → H' q = some (.tup [.str "end", .ref u]) → MaAt CS H' a dx (.ref q) l th left (shrest (.ref mk) acc) → Kept a H4 H' → Q .non H') := fun H4 u xs hu ex eH H' q hq e' D' kp' => by
      subst eH ex
      have s4 := up1 (o := HO.tup (shRes st acc s1 o n)) hu
      have u_a : u ≠ a := ne_of (upd_same (H := H3) (a := u) (o := HO.tup (shRes st acc s1 o n))) (s4 _ _ D3.ob) (by intro z; cases z)
      exact k H' q u ((s23.trans s4).free hq) (s23.free hu) e' (kp' _ _ upd_same u_a) D' ((Kept.of (s23.trans s4)).trans kp')
    cases st with
    | zero =>
      refine iteF ⟨_, rfl, a, dx, _, rfl, D3.ob, rfl, _, rfl, _, rfl, a, CS, dx, _, _, rfl, D3.ob, TC.cl, TH.nA, rfl, (by show 3 ≤ sizeLine; decide), fun u hu => ?_⟩
      exact ⟨a, dx, l, wv, th, .ref u, left, _, rfl, D3.same (up1 hu), (by show 2 < 900; decide), fin _ u _ hu rfl rfl⟩
    | tup z t =>
      obtain ⟨pv, rfl, hpv⟩ := sta_tup dv
      cases hz : decide (z = "done") with
      | true =>
        have hd : (Sta.tup z t).done = true := hz
        rw [hd]
        refine iteT ⟨_, rfl, a, dx, _, rfl, D3.ob, rfl, _, rfl, _, rfl, a, CS, dx, _, _, rfl, D3.ob, TC.cl, TH.nA, rfl, _, rfl, pv, _, 1, _, rfl, rfl, hpv.same s23, rfl, _, _, rfl, _, rfl, a, CS, dx, _, _, rfl, D3.ob, TC.cl, TH.nM, rfl, mk, _, 1, _, rfl, rfl, hmk.same s23, rfl, (by show 3 ≤ sizeLine; decide), fun u hu => ?_⟩
        exact ⟨a, dx, l, wv, th, .ref u, left, _, rfl, D3.same (up1 hu), (by show 2 < 900; decide), fin _ u _ hu (by unfold shRes; rw [hd, if_pos rfl, if_pos rfl]; rfl) rfl⟩
      | false =>
        have hd : (Sta.tup z t).done = false := hz
        rw [hd]
        refine iteF ⟨_, rfl, a, dx, _, rfl, D3.ob, rfl, _, rfl, _, rfl, a, CS, dx, _, _, rfl, D3.ob, TC.cl, TH.nA, rfl, (by show 3 ≤ sizeLine; decide), fun u hu => ?_⟩
        exact ⟨a, dx, l, wv, th, .ref u, left, _, rfl, D3.same (up1 hu), (by show 2 < 900; decide), fin _ u _ hu (by unfold shRes; rw [hd]; rfl) rfl⟩
end
end Dk

set_option maxHeartbeats 4000000
/-! the law k04: its helpers -/
namespace Dk
open PySem PySem.Spec PyProof.Rows L2
abbrev sLChange : Stmt := top 30
abbrev sLShown : Stmt := top 31
abbrev sLNow : Stmt := top 32
structure K4 (K : PySem.W.Frag) (H : Hp) (X : MS) (W : Nat → Wd) (T : Nat → Sta) : Prop where
  a : ∀ c, c < 38 → ∃ u, CellIs K H X 2 c u ∧ Nice u
  w : ∀ i, i < 3 → CellIs K H X 2 (5 + i) (W i).tr
  m : ∀ i, i < 3 → ∀ d s o n, W i = .mark d s o n → s = 20 + (i : Int)
  t : ∀ i, i < 3 → CellIs K H X 2 (20 + i) (T i).tr
  k : ∀ i, i < 3 → (T i).ok
theorem K4.ext {K : PySem.W.Frag} {H H' : Hp} {X : MS} {W : Nat → Wd} {T : Nat → Sta} (h : K4 K H X W T) (s : ExT H H') : K4 K H' X W T := ⟨fun c hc => let ⟨u, a, b⟩ := h.a c hc; ⟨u, a.ext s, b⟩, fun i hi => (h.w i hi).ext s, h.m, fun i hi => (h.t i hi).ext s, h.k⟩
theorem K4.same {K : PySem.W.Frag} {H H' : Hp} {X : MS} {W : Nat → Wd} {T : Nat → Sta} (h : K4 K H X W T) (s : Same H H') : K4 K H' X W T := h.ext (.of s)
theorem K4.eq {K : PySem.W.Frag} {H : Hp} {X X' : MS} {W : Nat → Wd} {T : Nat → Sta} (h : K4 K H X W T) (e : ∀ c, cellV X' 2 c = cellV X 2 c) : K4 K H X' W T := ⟨fun c hc => let ⟨u, a, b⟩ := h.a c hc; ⟨u, a.eq (e c), b⟩, fun i hi => (h.w i hi).eq (e _), h.m, fun i hi => (h.t i hi).eq (e _), h.k⟩
def setA {α : Type} (g : Nat → α) (i : Nat) (x : α) : Nat → α := fun j => if j = i then x else g j
/-- a word gets a value -/
theorem K4.word {K : PySem.W.Frag} {H : Hp} {X X' : MS} {W : Nat → Wd} {T : Nat → Sta} (h : K4 K H X W T) {i : Nat} (hi : i < 3) {v : V} {wd : Wd} (e0 : cellV X' 2 (5 + i) = some v) (e : ∀ c, c ≠ 5 + i → cellV X' 2 c = cellV X 2 c) (d : DV K H v wd.tr) (hm : ∀ d s o n, wd = .mark d s o n → s = 20 + (i : Int)) : K4 K H X' (setA W i wd) T := by
  have c0 : CellIs K H X' 2 (5 + i) wd.tr := ⟨v, e0, wd.nice.dvl d⟩
  refine ⟨fun c hc => ?_, fun j hj => ?_, fun j hj d s o n => ?_, fun j hj => (h.t j hj).eq (e _ (by omega)), h.k⟩
  · by_cases q : c = 5 + i
    · rw [q]
      exact ⟨_, c0, wd.nice⟩
    · obtain ⟨u, a, b⟩ := h.a c hc
      exact ⟨u, a.eq (e c q), b⟩
  · unfold setA
    by_cases q : j = i
    · rw [if_pos q, q]; exact c0
    · rw [if_neg q]; exact (h.w j hj).eq (e _ (by omega))
  · unfold setA
    by_cases q : j = i
    · rw [if_pos q, q]; exact hm d s o n
    · rw [if_neg q]; exact h.m j hj d s o n
/-- a status gets a value -/
theorem K4.stat {K : PySem.W.Frag} {H : Hp} {X X' : MS} {W : Nat → Wd} {T : Nat → Sta} (h : K4 K H X W T) {i : Nat} (hi : i < 3) {v : V} {st : Sta} (e0 : cellV X' 2 (20 + i) = some v) (e : ∀ c, c ≠ 20 + i → cellV X' 2 c = cellV X 2 c) (d : DV K H v st.tr) (ok : st.ok) : K4 K H X' W (setA T i st) := by
  have c0 : CellIs K H X' 2 (20 + i) st.tr := ⟨v, e0, (Sta.nice ok).dvl d⟩
  refine ⟨fun c hc => ?_, fun j hj => (h.w j hj).eq (e _ (by omega)), h.m, fun j hj => ?_, fun j hj => ?_⟩
  · by_cases q : c = 20 + i
    · rw [q]
      exact ⟨_, c0, Sta.nice ok⟩
    · obtain ⟨u, a, b⟩ := h.a c hc
      exact ⟨u, a.eq (e c q), b⟩
  · unfold setA
    by_cases q : j = i
    · rw [if_pos q, q]; exact c0
    · rw [if_neg q]; exact (h.t j hj).eq (e _ (by omega))
  · unfold setA
    by_cases q : j = i
    · rw [if_pos q]; exact ok
    · rw [if_neg q]; exact h.k j hj
def spChange (K : PySem.W.Frag) (C M : Addr) : Sp := fun vs H Q _ => ∃ (m : Addr) (n p : Int) (A : Adr) (X : MS) (B : Nat) (W : Nat → Wd) (T : Nat → Sta), vs = [.ref m, .int n, .int p] ∧ 0 ≤ n ∧ 0 ≤ p ∧ MemAt C M H m 2 3 30 A X ∧ SOk X 2 35 B ∧ B < 100000 ∧ K4 K H X W T ∧
  ∀ (H' : Hp) (A' : Adr) (X' : MS) (W' : Nat → Wd) (T' : Nat → Sta), A'.a = A.a → MemAt C M H' m 2 3 30 A' X' → SOk X' 2 35 (B + 2) → K4 K H' X' W' T' → Step m 35 A H A' H' → Q .non H'
def shown3 (wd : Wd) (st : Sta) (f : Int) : List V := match wd with
  | .addr a => [.int a, .int f, .non]
  | .mark _ s o n => shRes st f s o n
def spLShown (K : PySem.W.Frag) : Sp := fun vs H Q _ => ∃ (v u : V) (f : Int) (wd : Wd) (st : Sta), vs = [v, u, .int f] ∧ DV K H v wd.tr ∧ DV K H u st.tr ∧ st.ok ∧ ∀ H' p, H p = none → Same H H' → H' p = some (.tup (shown3 wd st f)) → Q (.ref p) H'
def spLNow (K : PySem.W.Frag) (C M : Addr) : Sp := fun vs H Q _ => ∃ (m : Addr) (i : Nat) (A : Adr) (X : MS) (W : Nat → Wd) (T : Nat → Sta), vs = [.ref m, .int (i : Int)] ∧ i < 3 ∧ MemAt C M H m 2 3 30 A X ∧ K4 K H X W T ∧ ∀ H', Same H H' → Q (.bl true) H'
section
variable {P : Program} {w : World} {K : PySem.W.Frag} {mg : Str → Option Value} {base : Heap} {C M S CS g gs : Addr}
theorem nok2 : NOk 2 3 30 := ⟨by decide, by decide, by decide, by decide, by decide, by decide⟩
theorem scLShown : FnScope ["value", "status", "first"] ["value", "status", "first"] (defScope sLShown) := ⟨rfl, rfl, rfl, by decide +kernel, rfl, by decide +kernel, by decide +kernel⟩
theorem go_lshown (F : GT K mg "_law_shown" sLShown ["value", "status", "first"]) (B0 : Bn mg) (zx : mg "max" = none) : GO P w K mg base CX0 1 "_law_shown" ["value", "status", "first"] (spLShown K) := by
  obtain ⟨f, fd, F, hm, hb⟩ := F
  refine ⟨f, fd, ?_, hm, F.kp, hb⟩
  refine F.ok scLShown (fun vs H Q E h => ?_) (fun cdv A outer s H vs Q E hr h => ?_)
  · obtain ⟨v, u, f, wd, st, rfl, _⟩ := h
    rfl
  · obtain ⟨v, u, f, wd, st, rfl, dv, du, ok, k⟩ := h
    refine ⟨_, (pss_cons (ps_if (pt_not (pt_val (pe_callB call_isi (by rfl) B0.isi (by decide +kernel) (pa_cons (pv 0) (pa_cons (pe_bltn (v := .ty "tuple") (by rfl) B0.tuple (by decide +kernel) rfl) pa_nil)))))
  (pss_one (ps_ret (pe_tup (pa_cons (pv 0) (pa_cons (pv 2) (pa_cons pe_non pa_nil))))))
  pss_nil)
  (pss_cons (ps_if (PW.pt (pw_and (pt_cmpR (op_neD hr.units) (pv 1) pe_int (nomark _)) (pw_and1 (pt_cmpR op_eq (pe_ix ix_tup (pv 1) pe_int (fun _ _ => rfl)) pe_str (nomark _)))))
  (pss_one (ps_ret (pe_tup (pa_cons (pe_ix ix_tup (pv 0) pe_int (fun _ _ => rfl)) (pa_cons (pe_callB (call_max2 rfl) (by rfl) zx (by decide +kernel) (pa_cons (pv 2) (pa_cons (pe_ix ix_tup (pv 1) pe_int (fun _ _ => rfl)) pa_nil))) (pa_cons (pe_ix ix_tup (pv 0) pe_int (fun _ _ => rfl)) pa_nil))))))
  pss_nil)
  (pss_one (ps_ret (pe_tup (pa_cons (pe_ix ix_tup (pv 0) pe_int (fun _ _ => rfl)) (pa_cons (pv 2) (pa_cons pe_non pa_nil)))))))), ?_⟩
    have fin : ∀ p xs, H p = none → xs = shown3 wd st f → Q (.ref p) (upd H p (.tup xs)) := fun p xs hp e => by
      subst e
      exact k _ p hp (up1 hp) upd_same
    cases wd with
    | addr a =>
      have := wd_addr dv
      subst this
      refine ⟨_, rfl, _, _, _, _, false, rfl, .ty "tuple", .base (.int a), kit_ty (by decide +kernel), _, rfl, iteT ?_⟩
      exact ⟨_, rfl, _, rfl, (by show 3 ≤ sizeLine; decide), fun p hp => fin p _ hp rfl⟩
    | mark d s o n =>
      obtain ⟨p, rfl, hp⟩ := wd_mark dv
      refine ⟨_, rfl, _, _, _, _, true, rfl, .ty "tuple", tyT hp, kit_ty (by decide +kernel), _, rfl, iteF ?_⟩
      cases st with
      | zero =>
        have := sta_zero du
        subst this
        refine ⟨_, rfl, .int 0, .int 0, .int 0, .int 0, by decide +kernel, by decide +kernel, _, rfl, iteC (by decide +kernel) ?_⟩
        exact ⟨_, rfl, p, _, 2, _, rfl, rfl, hp, rfl, _, rfl, (by show 3 ≤ sizeLine; decide), fun q hq => fin q _ hq rfl⟩
      | tup z t =>
        obtain ⟨pu, rfl, hpu⟩ := sta_tup du
        refine ⟨_, rfl, .tuple [.str z, .int t], .int 0, .tup hpu (.cons (.str _) (.cons (.int _) .nil)), .int 0, (Sta.nice (s := .tup z t) ok).1, by decide +kernel, _, rfl, ?_⟩
        rw [show PyData.eqv (.tuple [.str z, .int t]) (.int 0) = false by simp [PyData.eqv]]
        refine iteT ⟨_, rfl, pu, _, 0, _, rfl, rfl, hpu, rfl, rfl, _, rfl, ?_⟩
        cases hz : decide (z = "done") with
        | true =>
          have hz' : z = "done" := of_decide_eq_true hz
          rw [decide_eq_true (show V.str z = V.str "done" from congrArg V.str hz')]
          have hd : (Sta.tup z t).done = true := hz
          refine iteT ⟨_, rfl, p, _, 3, _, rfl, rfl, hp, rfl, _, rfl, _, rfl, pu, _, 1, _, rfl, rfl, hpu, rfl, _, _, rfl, _, rfl, p, _, 1, _, rfl, rfl, hp, rfl, (by show 3 ≤ sizeLine; decide), fun q hq => fin q _ hq ?_⟩
          show _ = shRes _ f s o n
          unfold shRes
          rw [hd, if_pos rfl]
          rfl
        | false =>
          have hz' : ¬ z = "done" := of_decide_eq_false hz
          rw [decide_eq_false (show ¬ V.str z = V.str "done" from fun e => hz' (V.str.inj e))]
          have hd : (Sta.tup z t).done = false := hz
          refine iteF ⟨_, rfl, p, _, 2, _, rfl, rfl, hp, rfl, _, rfl, (by show 3 ≤ sizeLine; decide), fun q hq => fin q _ hq ?_⟩
          show _ = shRes _ f s o n
          unfold shRes
          rw [hd]
          rfl
theorem scLNow : FnScope ["memory", "index", "value", "status"] ["memory", "index"] (defScope sLNow) := ⟨rfl, rfl, rfl, by decide +kernel, rfl, by decide +kernel, by decide +kernel⟩
theorem go_lnow (F : GT K mg "_law_now" sLNow ["memory", "index"]) (B0 : Bn mg) (TM : MTxt K M) (GPk : MO P w K mg base CX0 M 8 "peek" ["self", "cell"] (spPeek C M)) (GSn : GO P w K mg base CX0 9 "shown_now" ["memory", "index"] (spShNow K C M)) (GLs : GO P w K mg base CX0 1 "_law_shown" ["value", "status", "first"] (spLShown K)) :
    GO P w K mg base CX0 10 "_law_now" ["memory", "index"] (spLNow K C M) := by
  obtain ⟨f, fd, F, hm, hb⟩ := F
  refine ⟨f, fd, ?_, hm, F.kp, hb⟩
  refine F.ok scLNow (fun vs H Q E h => ?_) (fun cdv A outer s H vs Q E hr h => ?_)
  · obtain ⟨m, i, A, X, W, T, rfl, _⟩ := h
    rfl
  · obtain ⟨m, i, A0, X, W, T, rfl, hi, D, k4, k⟩ := h
    have nd := scLNow.nd
    have hr1 : Room 1 _ := hr.mono (by decide)
    have hr8 : Room 8 _ := hr.mono (by decide)
    have hr9 : Room 9 _ := hr
    refine ⟨_, (pss_cons (ps_set (i := 2) nd rfl (Or.inl rfl) (pm_ GPk TM.cl hr8 (pv 0) (pa_cons (pe_op op_add pe_int (pv 1)) pa_nil)))
  (pss_cons (ps_set (i := 3) nd rfl (Or.inl rfl) pe_int)
  (pss_cons (ps_if (pt_val (pe_callB call_isi (by rfl) B0.isi (by decide +kernel) (pa_cons (pv 2) (pa_cons (pe_bltn (v := .ty "tuple") (by rfl) B0.tuple (by decide +kernel) rfl) pa_nil))))
  (pss_one (ps_set (i := 3) nd rfl (Or.inl rfl) (pm_ GPk TM.cl hr8 (pv 0) (pa_cons (pe_ix ix_tup (pv 2) pe_int (fun _ _ => rfl)) pa_nil))))
  pss_nil)
  (pss_one (ps_ret (pe_cmpR op_eq (pc_ GSn hr9 (pa_cons (pv 0) (pa_cons (pv 1) pa_nil))) (pe_ix ix_tup (pc_ GLs hr1 (pa_cons (pv 2) (pa_cons (pv 3) (pa_cons pe_int pa_nil)))) pe_int (fun _ _ => rfl)) (nomark _))))))), ?_⟩
    obtain ⟨dm, hm'⟩ := D.ob
    have c1 := k4.w i hi
    obtain ⟨v, hv, dv⟩ := k4.w i hi
    obtain ⟨u, hu, du⟩ := k4.t i hi
    refine ⟨_, rfl, m, dm, _, rfl, hm', rfl, _, rfl, _, _, rfl, rfl, m, 2, 3, 30, 5 + i, A0, X, v, (by rw [show ((5 + i : Nat) : Int) = 5 + (i : Int) by omega]; rfl), D, (by omega), hv, ?_⟩
    -- the end, whatever the status is
    cases hw : W i with
    | addr a =>
      rw [hw] at dv
      have := wd_addr dv.d
      subst this
      refine ⟨_, rfl, _, _, _, _, false, rfl, .ty "tuple", .base (.int a), kit_ty (by decide +kernel), _, rfl, iteF ?_⟩
      refine ⟨_, rfl, _, rfl, m, 2, 3, 30, i, A0, X, .addr a, 20 + i, T i, rfl, nok2, D, hi, (by rw [hw] at c1; exact c1), (fun _ _ _ _ z => by cases z), by omega, ⟨u, hu, du⟩, k4.k i hi, fun H1 s1 => ?_⟩
      refine ⟨_, rfl, _, rfl, _, .int 0, 0, .addr a, .zero, rfl, .sc (t := "int") rfl, .sc (t := "int") rfl, trivial, fun H2 p hp s2 h2 => ?_⟩
      refine ⟨p, _, 0, _, rfl, rfl, SqT.of h2, at_head, rfl, ?_⟩
      rw [decide_eq_true (show V.int ((Wd.addr a).shown (T i)) = V.int a from rfl)]
      exact k H2 (s1.trans s2)
    | mark d s1 o n =>
      rw [hw] at dv
      obtain ⟨p0, rfl, hp0⟩ := wd_mark dv.d
      have hs := k4.m i hi _ _ _ _ hw
      refine ⟨_, rfl, _, _, _, _, true, rfl, .ty "tuple", tyT hp0, kit_ty (by decide +kernel), _, rfl, iteT ?_⟩
      refine ⟨_, rfl, m, dm, _, rfl, hm', rfl, _, rfl, p0, _, 1, _, rfl, rfl, hp0, rfl, m, 2, 3, 30, 20 + i, A0, X, u, (by rw [hs, show ((20 + i : Nat) : Int) = 20 + (i : Int) by omega]; rfl), D, by omega, hu, ?_⟩
      refine ⟨_, rfl, _, rfl, m, 2, 3, 30, i, A0, X, .mark d s1 o n, 20 + i, T i, rfl, nok2, D, hi, (by rw [hw] at c1; exact c1), (fun _ s2 _ _ z => by cases z; omega), by omega, ⟨u, hu, du⟩, k4.k i hi, fun H1 s1' => ?_⟩
      refine ⟨_, rfl, _, rfl, _, u, 0, .mark d s1 o n, T i, rfl, DV.ext s1' _ _ dv.d, DV.ext s1' _ _ du.d, k4.k i hi, fun H2 p hp s2 h2 => ?_⟩
      have e : ∃ r, shown3 (.mark d s1 o n) (T i) 0 = .int ((Wd.mark d s1 o n).shown (T i)) :: r := by
        show ∃ r, shRes (T i) 0 s1 o n = .int (if (T i).done = true then n else o) :: r
        unfold shRes
        cases (T i).done
        · exact ⟨_, rfl⟩
        · exact ⟨_, rfl⟩
      obtain ⟨r, e⟩ := e
      rw [e] at h2
      refine ⟨p, _, 0, _, rfl, rfl, SqT.of h2, at_head, rfl, ?_⟩
      rw [decide_eq_true (rfl : V.int _ = V.int _)]
      exact k H2 (s1'.trans s2)
theorem scLChange : FnScope ["memory", "number", "pick", "index", "cell", "status", "kind"] ["memory", "number", "pick"] (defScope sLChange) := ⟨rfl, rfl, rfl, by decide +kernel, rfl, by decide +kernel, by decide +kernel⟩
theorem go_lchange (F : GT K mg "_law_change" sLChange ["memory", "number", "pick"]) (TM : MTxt K M) (GAc : MO P w K mg base CX0 M 11 "access" ["self", "thread", "request"] (spAccess K C M)) (GDr : MO P w K mg base CX0 M 9 "drift" ["self", "cell", "steps"] (spDrift C M)) :
    GO P w K mg base CX0 12 "_law_change" ["memory", "number", "pick"] (spChange K C M) := by
  obtain ⟨f, fd, F, hm, hb⟩ := F
  refine ⟨f, fd, ?_, hm, F.kp, hb⟩
  refine F.ok scLChange (fun vs H Q E h => ?_) (fun cdv A outer s H vs Q E hr h => ?_)
  · obtain ⟨m, n, p, A, X, B, W, T, rfl, _⟩ := h
    rfl
  · obtain ⟨m, n, p, A0, X, B, W, T, rfl, hn0, hp0, D, so, hB, k4, k⟩ := h
    have nd := scLChange.nd
    have hrM : Room 11 _ := hr
    have hr9 : Room 9 _ := hr.mono (by decide)
    have hsl : sizeLine = 16777216 := sizeLine_eq
    refine ⟨_, (pss_cons (ps_set (i := 3) nd rfl (Or.inl rfl) (pe_op op_mod (pv 2) pe_int))
  (pss_cons (ps_set (i := 4) nd rfl (Or.inl rfl) (pe_op op_add pe_int (pv 3)))
  (pss_cons (ps_set (i := 5) nd rfl (Or.inl rfl) (pe_op op_add pe_int (pv 3)))
  (pss_cons (ps_set (i := 6) nd rfl (Or.inl rfl) (pe_op op_mod (pv 1) pe_int))
  (pss_one (ps_if (pt_cmpR op_eq (pv 6) pe_int (nomark _))
  (pss_one (ps_expr (pm_ GAc TM.cl hrM (pv 0) (pa_cons pe_int (pa_cons (pe_tup (pa_cons pe_str (pa_cons (pv 4) (pa_cons (pe_op op_add pe_int (pe_op op_mod (pv 1) pe_int)) pa_nil)))) pa_nil)))))
  (pss_one (ps_if (pt_cmpR op_eq (pv 6) pe_int (nomark _))
  (pss_one (ps_expr (pm_ GAc TM.cl hrM (pv 0) (pa_cons pe_int (pa_cons (pe_tup (pa_cons pe_str (pa_cons (pv 4) (pa_cons (pe_tup (pa_cons (pe_op op_add pe_int (pv 3)) (pa_cons (pv 5) (pa_cons (pe_op op_add pe_int (pe_op op_mod (pv 2) pe_int)) (pa_cons (pe_op op_add pe_int (pe_op op_mod (pv 2) pe_int)) pa_nil))))) pa_nil)))) pa_nil)))))
  (pss_one (ps_if (pt_cmpR op_eq (pv 6) pe_int (nomark _))
  (pss_one (ps_expr (pm_ GAc TM.cl hrM (pv 0) (pa_cons pe_int (pa_cons (pe_tup (pa_cons pe_str (pa_cons (pv 5) (pa_cons pe_int pa_nil)))) pa_nil)))))
  (pss_one (ps_if (pt_cmpR op_eq (pv 6) pe_int (nomark _))
  (pss_one (ps_expr (pm_ GAc TM.cl hrM (pv 0) (pa_cons pe_int (pa_cons (pe_tup (pa_cons pe_str (pa_cons (pv 5) (pa_cons (pe_tup (pa_cons (pe_ix ix_list (pe_lst (pa_cons pe_str (pa_cons pe_str pa_nil))) (pe_op op_mod (pe_op op_fdiv (pv 2) pe_int) pe_int) (fun _ _ => rfl)) (pa_cons (pe_op op_mod (pe_op op_fdiv (pv 2) pe_int) pe_int) pa_nil))) pa_nil)))) pa_nil)))))
  (pss_one (ps_if (pt_cmpR op_eq (pv 6) pe_int (nomark _))
  (pss_one (ps_expr (pm_ GAc TM.cl hrM (pv 0) (pa_cons pe_int (pa_cons (pe_tup (pa_cons pe_str (pa_cons (pv 5) (pa_cons (pe_ix ix_list (pe_lst (pa_cons pe_str (pa_cons pe_str pa_nil))) (pe_op op_mod (pe_op op_fdiv (pv 2) pe_int) pe_int) (fun _ _ => rfl)) pa_nil)))) pa_nil)))))
  (pss_one (ps_expr (pm_ GDr TM.cl hr9 (pv 0) (pa_cons (pv 4) (pa_cons (pe_op op_mod (pv 2) pe_int) pa_nil))))))))))))))))))), ?_⟩
    obtain ⟨dm, hm'⟩ := D.ob
    refine ⟨_, rfl, _, _, rfl, rfl, (by show (0 : Int) < 3; decide), ?_⟩
    show gName 3 (V.int (p % 3)) _ _ _
    obtain ⟨i, hpi, hi⟩ : ∃ i : Nat, p % 3 = (i : Int) ∧ i < 3 := ⟨(p % 3).toNat, by omega, by omega⟩
    rw [hpi]
    refine ⟨_, rfl, _, _, rfl, rfl, _, rfl, _, _, rfl, rfl, _, rfl, _, _, rfl, rfl, (by show (0 : Int) < 6; decide), ?_⟩
    show gName 6 (V.int (n % 6)) _ _ _
    generalize n % 6 = kd
    have so' : SOk X 2 (2 + 3 + 30) B := so
    have hps : ∀ {c : Int} {l : List V}, ((X.withCount c).withLog l).ps.length = 1 + 2 := fun {c l} => so.psl
    have e5 : (5 : Int) + (i : Int) = ((5 + i : Nat) : Int) := by omega
    have e20 : (20 : Int) + (i : Int) = ((20 + i : Nat) : Int) := by omega
    -- writing a word
    have wrW : ∀ (H1 : Hp) (q : Addr) (v : V) (wd : Wd), Same H H1 → H1 q = some (.tup [.str "write", .int (5 + (i : Int)), v]) → DV K H1 v wd.tr → (∀ d s o n, wd = .mark d s o n → s = 20 + (i : Int)) → spAccess K C M [.ref m, .int 1, .ref q] H1 (fun _ H' => Q .non H') E0 := fun H1 q v wd s1 hq dv hmk => by
      refine ⟨m, 2, 3, 30, 1, B, A0, X, .write (5 + i) v, q, rfl, nok2, D.same s1, by decide, (by rw [hq, e5]; rfl), (by show 5 + i < 1 + 2 + (2 + 3 + 30); omega), so', by omega, ⟨_, wd.nice.dvl dv⟩, trivial, fun v6 y6 p6 A6 X6 H6 ea6 R6 hp6 so6 D6 st6 => ?_⟩
      obtain ⟨_, hX⟩ := R6
      have ex := st6.ext (D.same s1)
      refine k H6 A6 X6 (setA W i wd) T ea6 D6 so6 ?_ ((Step.same s1).trans st6)
      refine ((k4.same s1).ext ex).word hi (v := v) ?_ (fun c hc => ?_) (DV.extT ex _ _ dv) hmk
      · rw [hX]; exact cellV_give_same hps
      · rw [hX, cellV_give_ne hc]; rfl
    -- writing a status
    have wrS : ∀ (H1 : Hp) (q : Addr) (v : V) (st : Sta), Same H H1 → H1 q = some (.tup [.str "write", .int (20 + (i : Int)), v]) → DV K H1 v st.tr → st.ok → spAccess K C M [.ref m, .int 1, .ref q] H1 (fun _ H' => Q .non H') E0 := fun H1 q v st s1 hq dv ok => by
      refine ⟨m, 2, 3, 30, 1, B, A0, X, .write (20 + i) v, q, rfl, nok2, D.same s1, by decide, (by rw [hq, e20]; rfl), (by show 20 + i < 1 + 2 + (2 + 3 + 30); omega), so', by omega, ⟨_, (Sta.nice ok).dvl dv⟩, trivial, fun v6 y6 p6 A6 X6 H6 ea6 R6 hp6 so6 D6 st6 => ?_⟩
      obtain ⟨_, hX⟩ := R6
      have ex := st6.ext (D.same s1)
      refine k H6 A6 X6 W (setA T i st) ea6 D6 so6 ?_ ((Step.same s1).trans st6)
      refine ((k4.same s1).ext ex).stat hi (v := v) ?_ (fun c hc => ?_) (DV.extT ex _ _ dv) ok
      · rw [hX]; exact cellV_give_same hps
      · rw [hX, cellV_give_ne hc]; rfl
    have pick : ∀ j : Int, 0 ≤ j → j < 2 → ∃ z : Str, atI [V.str "done", V.str "failed"] j = some (.str z) ∧ (z = "done" ∨ z = "failed") := fun j h0 h2 => by
      have : j = 0 ∨ j = 1 := by omega
      rcases this with rfl | rfl
      · exact ⟨_, rfl, .inl rfl⟩
      · exact ⟨_, rfl, .inr rfl⟩
    refine ⟨_, rfl, rfl, _, rfl, ite2 (fun c => ?_) (fun c => ?_)⟩
    · refine ⟨_, rfl, m, dm, _, rfl, hm', rfl, _, rfl, _, rfl, _, _, rfl, rfl, (by show (0 : Int) < 9; decide), _, _, rfl, rfl, (by show 3 ≤ sizeLine; decide), fun q hq => ?_⟩
      exact wrW _ q _ (.addr _) (up1 hq) upd_same (.sc (t := "int") rfl) (fun _ _ _ _ z => by cases z)
    refine ⟨_, rfl, rfl, _, rfl, ite2 (fun c => ?_) (fun c => ?_)⟩
    · refine ⟨_, rfl, m, dm, _, rfl, hm', rfl, _, rfl, _, rfl, _, _, rfl, rfl, _, rfl, _, rfl, _, _, rfl, rfl, (by show (0 : Int) < 7; decide), _, _, rfl, rfl, _, rfl, _, _, rfl, rfl, (by show (0 : Int) < 5; decide), _, _, rfl, rfl, (by show 4 ≤ sizeLine; decide), fun u hu => ?_⟩
      have s1 := up1 (o := HO.tup [V.int (26 + (i : Int)), V.int (20 + (i : Int)), V.int (9 + p % 7), V.int (30 + p % 5)]) hu
      have e1 : upd H u (HO.tup [V.int (26 + (i : Int)), V.int (20 + (i : Int)), V.int (9 + p % 7), V.int (30 + p % 5)]) u = _ := upd_same
      generalize upd H u (HO.tup [V.int (26 + (i : Int)), V.int (20 + (i : Int)), V.int (9 + p % 7), V.int (30 + p % 5)]) = H1 at s1 e1 ⊢
      refine ⟨(by show 3 ≤ sizeLine; decide), fun q hq => ?_⟩
      have s2 := up1 (o := HO.tup [V.str "write", V.int (5 + (i : Int)), V.ref u]) hq
      refine wrW _ q (.ref u) (.mark (26 + (i : Int)) (20 + (i : Int)) (9 + p % 7) (30 + p % 5)) (s1.trans s2) upd_same ?_ (fun _ _ _ _ z => by cases z; rfl)
      exact .tup (SqT.of (s2 _ _ e1)) (.cons (.sc (t := "int") rfl) (.cons (.sc (t := "int") rfl) (.cons (.sc (t := "int") rfl) (.cons (.sc (t := "int") rfl) .nil))))
    refine ⟨_, rfl, rfl, _, rfl, ite2 (fun c => ?_) (fun c => ?_)⟩
    · refine ⟨_, rfl, m, dm, _, rfl, hm', rfl, _, rfl, (by show 3 ≤ sizeLine; decide), fun q hq => ?_⟩
      exact wrS _ q _ .zero (up1 hq) upd_same (.sc (t := "int") rfl) trivial
    refine ⟨_, rfl, rfl, _, rfl, ite2 (fun c => ?_) (fun c => ?_)⟩
    · refine ⟨_, rfl, m, dm, _, rfl, hm', rfl, _, rfl, (by show 2 ≤ sizeLine; decide), fun l hl => ?_⟩
      have s1 := up1 (o := HO.lst [V.str "done", V.str "failed"]) hl
      have e1 : upd H l (HO.lst [V.str "done", V.str "failed"]) l = _ := upd_same
      generalize upd H l (HO.lst [V.str "done", V.str "failed"]) = H1 at s1 e1 ⊢
      obtain ⟨z, hz, hzk⟩ := pick (p / 4 % 2) (by omega) (by omega)
      refine ⟨_, rfl, _, _, rfl, rfl, ⟨by decide, by decide⟩, _, _, rfl, rfl, (by show (0 : Int) < 2; decide), l, _, _, _, rfl, rfl, SqL.of e1, hz, _, rfl, _, _, rfl, rfl, ⟨by decide, by decide⟩, _, _, rfl, rfl, (by show (0 : Int) < 40; decide), (by show 2 ≤ sizeLine; decide), fun u hu => ?_⟩
      have s2 := up1 (o := HO.tup [V.str z, V.int (p / 8 % 40)]) hu
      have e2 : upd H1 u (HO.tup [V.str z, V.int (p / 8 % 40)]) u = _ := upd_same
      generalize upd H1 u (HO.tup [V.str z, V.int (p / 8 % 40)]) = H2 at s2 e2 ⊢
      refine ⟨(by show 3 ≤ sizeLine; decide), fun q hq => ?_⟩
      have s3 := up1 (o := HO.tup [V.str "write", V.int (20 + (i : Int)), V.ref u]) hq
      exact wrS _ q (.ref u) (.tup z (p / 8 % 40)) (s1.trans (s2.trans s3)) upd_same (.tup (SqT.of (s3 _ _ e2)) (.cons (.sc (t := "str") rfl) (.cons (.sc (t := "int") rfl) .nil))) hzk
    refine ⟨_, rfl, rfl, _, rfl, ite2 (fun c => ?_) (fun c => ?_)⟩
    · refine ⟨_, rfl, m, dm, _, rfl, hm', rfl, _, rfl, (by show 2 ≤ sizeLine; decide), fun l hl => ?_⟩
      have s1 := up1 (o := HO.lst [V.str "done", V.str "failed"]) hl
      have e1 : upd H l (HO.lst [V.str "done", V.str "failed"]) l = _ := upd_same
      generalize upd H l (HO.lst [V.str "done", V.str "failed"]) = H1 at s1 e1 ⊢
      obtain ⟨z, hz, hzk⟩ := pick (p / 4 % 2) (by omega) (by omega)
      refine ⟨_, rfl, _, _, rfl, rfl, ⟨by decide, by decide⟩, _, _, rfl, rfl, (by show (0 : Int) < 2; decide), l, _, _, _, rfl, rfl, SqL.of e1, hz, (by show 3 ≤ sizeLine; decide), fun q hq => ?_⟩
      have s3 := up1 (o := HO.tup [V.str "decide", V.int (20 + (i : Int)), V.str z]) hq
      have e3 : upd H1 q (HO.tup [V.str "decide", V.int (20 + (i : Int)), V.str z]) q = _ := upd_same
      generalize upd H1 q (HO.tup [V.str "decide", V.int (20 + (i : Int)), V.str z]) = H3 at s3 e3 ⊢
      have s13 := s1.trans s3
      obtain ⟨u, hu, du⟩ := (k4.same s13).t i hi
      refine ⟨m, 2, 3, 30, 1, B, A0, X, .decide (20 + i) z, q, rfl, nok2, D.same s13, by decide, (by rw [e3, e20]; rfl), (by show 20 + i < 1 + 2 + (2 + 3 + 30); omega), so', by omega, trivial, ⟨u, _, hu, du⟩, fun v6 y6 p6 A6 X6 H6 ea6 R6 hp6 so6 D6 st6 => ?_⟩
      have ex := st6.ext (D.same s13)
      obtain ⟨pp, tp, hpp, dpp, hR⟩ := R6
      rcases hR with ⟨_, _, q2, hq2, hX⟩ | ⟨_, _, hX⟩
      · refine k H6 A6 X6 W (setA T i (.tup z (X.count + 1))) ea6 D6 so6 ?_ ((Step.same s13).trans st6)
        refine ((k4.same s13).ext ex).stat hi (v := .ref q2) ?_ (fun c hc => ?_) (.tup (SqT.of hq2) (.cons (.sc (t := "str") rfl) (.cons (.sc (t := "int") rfl) .nil))) hzk
        · rw [hX]; exact cellV_give_same hps
        · rw [hX, cellV_give_ne hc]; rfl
      · refine k H6 A6 X6 W T ea6 D6 so6 (((k4.same s13).ext ex).eq fun c => ?_) ((Step.same s13).trans st6)
        rw [hX]; rfl
    · obtain ⟨j, hj, hj3⟩ : ∃ j : Nat, p % 3 = (j : Int) ∧ j < 3 := ⟨i, hpi, hi⟩
      refine ⟨_, rfl, m, dm, _, rfl, hm', rfl, _, rfl, _, rfl, _, _, rfl, rfl, (by show (0 : Int) < 3; decide), m, 2, 3, 30, 2 + i, i, A0, X, (by rw [show ((1 + 2 + (2 + i) : Nat) : Int) = 5 + (i : Int) by omega, ← hpi]; rfl), nok2, D, by omega, so.tne _ (by omega), fun H' D' st' => ?_⟩
      have ex := st'.ext D
      refine k H' A0 _ W T rfl D' ?_ ((k4.ext ex).eq fun c => cellV_short) st'
      exact (SOk.short so).mono (by omega)
end
end Dk

set_option maxHeartbeats 4000000
/-! the law k04: the stack's steps -/
namespace Dk
open PySem PySem.Spec PyProof.Rows L2
theorem foot_some {C M : Addr} {H : Hp} {m : Addr} {t w r : Nat} {A : Adr} {S : MS} (D : MemAt C M H m t w r A S) {b : Addr} (hb : Foot m A (t + w + r) b) : ∃ u, H b = some u := by
  obtain ⟨dx, h1⟩ := D.ob
  rcases hb with q | q | q | q | q | q | ⟨j, hj, q⟩ | q
  · exact ⟨_, q ▸ h1⟩
  · exact ⟨_, q ▸ D.ps⟩
  · exact ⟨_, q ▸ D.tr.d⟩
  · exact ⟨_, q ▸ D.ld⟩
  · exact ⟨_, q ▸ D.nl⟩
  · exact ⟨_, q ▸ D.gl⟩
  · exact ⟨_, q ▸ D.tr.l j hj⟩
  · obtain ⟨z, hz⟩ := List.getElem?_of_mem q
    obtain ⟨ns, _, e2⟩ := D.no z b hz
    exact ⟨_, e2⟩
theorem MemAt.on {C M : Addr} {H H' : Hp} {m : Addr} {t w r : Nat} {A : Adr} {S : MS} (D : MemAt C M H m t w r A S) (f : ∀ c o, H c = some o → Foot m A (t + w + r) c → H' c = some o) (g : ∀ o, H A.a = some o → H' A.a = some o) : MemAt C M H' m t w r A S := by
  obtain ⟨dx, ho⟩ := D.ob
  obtain ⟨da, hlay⟩ := D.lay
  exact ⟨⟨dx, f _ _ ho (.inl rfl)⟩, ⟨da, g _ hlay⟩, f _ _ D.ps (.inr (.inl rfl)), ⟨f _ _ D.tr.d (.inr (.inr (.inl rfl))), fun j hj => f _ _ (D.tr.l j hj) (.inr (.inr (.inr (.inr (.inr (.inr (.inl ⟨j, hj, rfl⟩))))))), D.tr.inj⟩, f _ _ D.ld (.inr (.inr (.inr (.inl rfl)))),
    f _ _ D.nl (.inr (.inr (.inr (.inr (.inl rfl))))), D.nn, D.nd, fun i c hc => let ⟨ns, e1, e2⟩ := D.no i c hc; ⟨ns, e1, f _ _ e2 (.inr (.inr (.inr (.inr (.inr (.inr (.inr (List.mem_of_getElem? hc))))))))⟩, f _ _ D.gl (.inr (.inr (.inr (.inr (.inr (.inl rfl)))))), D.d1, D.d2, D.d3, D.d4, D.d5⟩
theorem ins_ne {H : Hp} {a b C D dx dy : Addr} {fs gs : List (Str × V)} (ha : H a = some (.ins C dx fs)) (hb : H b = some (.ins D dy gs)) (h : fs.length ≠ gs.length) : a ≠ b := fun z => by
  rw [z, hb] at ha
  have := Option.some.inj ha
  injection this with h1 h2 h3
  exact h (by rw [h3])
def Mv (Z : Addr → Prop) (H : Hp) (Z' : Addr → Prop) (H' : Hp) : Prop := ∀ b o, H b = some o → ¬ Z b → H' b = some o ∧ ¬ Z' b
theorem Mv.trans {Z Z1 Z2 : Addr → Prop} {H H1 H2 : Hp} (a : Mv Z H Z1 H1) (b : Mv Z1 H1 Z2 H2) : Mv Z H Z2 H2 := fun c o h n => let ⟨h1, n1⟩ := a c o h n; b c o h1 n1
theorem Mv.same {Z : Addr → Prop} {H H' : Hp} (s : Same H H') : Mv Z H Z H' := fun c o h n => ⟨s c o h, n⟩
theorem Mv.step {m : Addr} {n : Nat} {A A' : Adr} {H H' : Hp} (s : Step m n A H A' H') : Mv (Foot m A n) H (Foot m A' n) H' := fun c o h hn => s.out h hn
def Ot (H : Hp) (Z : Addr → Prop) (b : Addr) (o : HO) : Prop := H b = some o ∧ ¬ Z b
theorem Ot.mv {H H' : Hp} {Z Z' : Addr → Prop} {b : Addr} {o : HO} (h : Ot H Z b o) (k : Mv Z H Z' H') : Ot H' Z' b o := k b o h.1 h.2
structure HCl (P : Program) (W : World) (K : PySem.W.Frag) (mg : Str → Option Value) (base : Heap) (CS fa : Addr) : Prop where
  cl : Cls K CS
  rq : MD P W K mg base 1 CS "request" (spReq CS)
  ma : Meth K CS "accept" fa
  fa : FnR P W K mg base CX0 6 fa (spAcc P W K mg base 4 CS)
section
variable {P : Program} {w : World} {K : PySem.W.Frag} {mg : Str → Option Value} {base : Heap} {C M S CS gw gs fa g : Addr}
/-- a step of the stack with one machine that reads a cell -/
theorem kst {sp : Sp} {H : Hp} {m k dk ml a dx q l qm : Addr} {c B : Nat} {A : Adr} {X : MS} {Q : VK} {mk : V} {acc : Int} (hc : HCl P w K mg base CS fa) (D : MemAt C M H m 2 3 30 A X) (so : SOk X 2 35 B) (hB : B < 100000) (hk : StkAt S H k dk ml [a] .non) (ma : MaAt CS H a dx (.ref q) l (.ref qm) [] (shrest mk acc)) (hq : H q = some (.tup [.str "read", .int (c : Int)])) (hcl : c < 38) (hqm : Ot H (Foot m A 35) qm (.met g a))
    (na : ¬ Foot m A 35 a) (nl : ¬ Foot m A 35 l) (nk : ¬ Foot m A 35 k) (nml : ¬ Foot m A 35 ml) (fi : PySem.W.fnIn K g = true) (FR : FnR P w K mg base CX0 4 g sp)
    (next : ∀ (v : V) (p : Addr) (A' : Adr) (X' : MS) (H1 : Hp), A'.a = A.a → cellV X 2 c = some v → (∀ c, cellV X' 2 c = cellV X 2 c) → X'.count = X.count + 1 → H1 p = some (.tup [v, .int (X.count + 1)]) → SOk X' 2 35 (B + 2) → MemAt C M H1 m 2 3 30 A' X' → Step m 35 A H A' H1 → MaAt CS H1 a dx (.ref q) l (.ref qm) [] (shrest mk acc) → StkAt S H1 k dk ml [a] .non →
      ∀ Q' : Hp → Prop, (∀ H2, Behind P w K mg base S k dk ml a CS dx .non H2 Q → Q' H2) → sp [.ref a, .ref p] H1 (fun _ H' => Q' H') E0) :
    spKStep P w K mg base 6 S C M [.ref k, .ref m, .int 0] H Q E0 := by
  refine ⟨k, dk, ml, m, [a], .non, 2, 3, 30, 0, B, A, X, rfl, hk, nok2, D, by decide, so, by rw [sizeLine_eq]; omega, .inr ⟨a, CS, dx, q, l, fa, .ref qm, [], shrest mk acc, .read c, _, rfl, ⟨ma, hc.cl, hc.rq, rfl, rfl, by show 2 < 900; decide⟩, hq, (by show c < 1 + 2 + (2 + 3 + 30); omega), trivial, trivial, hc.ma, hc.fa, fun v x p A' X' H1 ea R hp so' D' st Q' hQ' => ?_⟩⟩
  obtain ⟨hv, hX⟩ := R
  have ma1 : MaAt CS H1 a dx (.ref q) l (.ref qm) [] (shrest mk acc) := ⟨(st.out ma.ob na).1, (st.out ma.lf nl).1⟩
  have hk1 : StkAt S H1 k dk ml [a] .non := ⟨(st.out hk.ob nk).1, (st.out hk.l nml).1⟩
  refine ⟨fun a' dx' fs h1 h2 => ?_, a, dx, l, .ref q, .ref qm, .ref p, [], shrest mk acc, rfl, ma1, by show 2 < 900; decide, .inr ⟨rfl, qm, g, sp, rfl, (st.out hqm.1 hqm.2).1, fi, FR, next v p A' X' H1 ea hv (fun c => by rw [hX]; rfl) (by rw [hX]; rfl) hp so' D' st ma1 hk1 _ fun H2 h2 => hQ' .non H2 h2⟩⟩
  have e : a = a' := V.ref.inj (Option.some.inj h1)
  subst e
  rw [ma1.ob] at h2
  cases h2
  rfl
/-- the stages of a reading -/
structure Stk0 (S CS : Addr) (H : Hp) (Z : Addr → Prop) (tp k dk ml a dx q l qm g : Addr) (c : Nat) (mk : V) (acc : Int) : Prop where
  fk : Ot H Z k (.ins S dk [("_machines", .ref ml), ("_value", .non)])
  fml : Ot H Z ml (.lst [.ref a])
  fa : Ot H Z a (.ins CS dx (mfs (.ref q) l (.ref qm) (shrest mk acc)))
  fl : Ot H Z l (.lst [])
  fq : H q = some (.tup [.str "read", .int (c : Int)])
  fqm : Ot H Z qm (.met g a)
  d1 : tp ≠ ml
  d2 : tp ≠ l
theorem Stk0.mv {S CS : Addr} {H H' : Hp} {Z Z' : Addr → Prop} {tp k dk ml a dx q l qm g : Addr} {c : Nat} {mk : V} {acc : Int} (h : Stk0 S CS H Z tp k dk ml a dx q l qm g c mk acc) (mv : Mv Z H Z' H') (ex : ExT H H') : Stk0 S CS H' Z' tp k dk ml a dx q l qm g c mk acc :=
  ⟨h.fk.mv mv, h.fml.mv mv, h.fa.mv mv, h.fl.mv mv, ex.1 _ _ h.fq, h.fqm.mv mv, h.d1, h.d2⟩
structure StkE (S : Addr) (H : Hp) (Z : Addr → Prop) (k dk ml u : Addr) (xs : List V) : Prop where
  fk : Ot H Z k (.ins S dk [("_machines", .ref ml), ("_value", .ref u)])
  fml : Ot H Z ml (.lst [])
  fu : H u = some (.tup xs)
theorem StkE.mv {S : Addr} {H H' : Hp} {Z Z' : Addr → Prop} {k dk ml u : Addr} {xs : List V} (h : StkE S H Z k dk ml u xs) (mv : Mv Z H Z' H') (ex : ExT H H') : StkE S H' Z' k dk ml u xs := ⟨h.fk.mv mv, h.fml.mv mv, ex.1 _ _ h.fu⟩
/-- what holds behind a step that moved: the memory, and whatever is no part of it or of the stack -/
structure Aft (C M : Addr) (H H' : Hp) (m : Addr) (A A' : Adr) (X X' : MS) (B : Nat) (k ml a l : Addr) : Prop where
  ea : A'.a = A.a
  c : ∀ c, cellV X' 2 c = cellV X 2 c
  n : X'.count = X.count + 1
  so : SOk X' 2 35 (B + 2)
  D : MemAt C M H' m 2 3 30 A' X'
  o : ∀ b o, H b = some o → ¬ Foot m A 35 b → b ≠ k → b ≠ ml → b ≠ a → b ≠ l → H' b = some o ∧ ¬ Foot m A' 35 b
  x : ExT H H'
theorem k2_mem {H H' : Hp} {m k ml a : Addr} {A : Adr} {X : MS} {dk dx : Addr} {fs gs : List (Str × V)} (D : MemAt C M H m 2 3 30 A X) (hk : H k = some (.ins S dk fs)) (ha : H a = some (.ins CS dx gs)) (hml : ∃ xs, H ml = some (.lst xs)) (n1 : fs.length = 2) (n2 : gs.length = 5) (nk : ¬ Foot m A 35 k) (nml : ¬ Foot m A 35 ml) (na : ¬ Foot m A 35 a) (kp : ∀ b o, H b = some o → b ≠ k → b ≠ ml → b ≠ a → H' b = some o) : MemAt C M H' m 2 3 30 A X := by
  obtain ⟨da, hl⟩ := D.lay
  obtain ⟨xs, hml⟩ := hml
  refine D.on (fun c o h hf => kp c o h (fun z => nk (z ▸ hf)) (fun z => nml (z ▸ hf)) fun z => na (z ▸ hf)) fun o h => kp _ o h (ins_ne hl hk (by rw [n1]; show 3 ≠ 2; decide)) (ne_of hl hml (by intro z; cases z)) (ins_ne hl ha (by rw [n2]; show 3 ≠ 5; decide))
theorem kp_ext {H H' : Hp} {k ml a : Addr} (hk : ∃ C d fs, H k = some (.ins C d fs)) (ha : ∃ C d fs, H a = some (.ins C d fs)) (hml : ∃ xs, H ml = some (.lst xs)) (kp : ∀ b o, H b = some o → b ≠ k → b ≠ ml → b ≠ a → H' b = some o) : ExT H H' := by
  obtain ⟨_, _, _, hk⟩ := hk
  obtain ⟨_, _, _, ha⟩ := ha
  obtain ⟨_, hml⟩ := hml
  exact ⟨fun b xs e => kp b _ e (ne_of e hk (by intro z; cases z)) (ne_of e hml (by intro z; cases z)) (ne_of e ha (by intro z; cases z)), fun b o xs e => kp b _ e (ne_of e hk (by intro z; cases z)) (ne_of e hml (by intro z; cases z)) (ne_of e ha (by intro z; cases z))⟩
/-- the first step of a reading -/
theorem kst0 {H : Hp} {m tp k dk ml a dx q l qm : Addr} {c B : Nat} {A : Adr} {X : MS} {Q : VK} {wd : Wd} {v : V} (hc : HCl P w K mg base CS fa) (D : MemAt C M H m 2 3 30 A X) (so : SOk X 2 35 B) (hB : B < 100000) (hcl : c < 38) (st : Stk0 S CS H (Foot m A 35) tp k dk ml a dx q l qm gw c .non 0) (fi : PySem.W.fnIn K gw = true) (FR : FnR P w K mg base CX0 4 gw (spShWord K CS gs)) (hv : cellV X 2 c = some v) (dv : DV K H v wd.tr) (htp : ∃ xs, Ot H (Foot m A 35) tp (.lst xs))
    (kA : ∀ (H' : Hp) (A' : Adr) (X' : MS) (u : Addr) (x : Int), wd = .addr x → Aft C M H H' m A A' X X' B k ml a l → StkE S H' (Foot m A' 35) k dk ml u [v, .int (X.count + 1), .non] → Q (.bl true) H')
    (kM : ∀ (H' : Hp) (A' : Adr) (X' : MS) (q' l' qm' : Addr) (d s o n : Int) (s' : Nat), wd = .mark d s o n → s = (s' : Int) → Aft C M H H' m A A' X X' B k ml a l → Stk0 S CS H' (Foot m A' 35) tp k dk ml a dx q' l' qm' gs s' v (X.count + 1) → Q (.bl true) H')
    (hs : ∀ d s o n, wd = .mark d s o n → ∃ s' : Nat, s = (s' : Int)) :
    spKStep P w K mg base 6 S C M [.ref k, .ref m, .int 0] H Q E0 := by
  refine kst hc D so hB ⟨st.fk.1, st.fml.1⟩ ⟨st.fa.1, st.fl.1⟩ st.fq hcl st.fqm st.fa.2 st.fl.2 st.fk.2 st.fml.2 fi FR fun v' p A' X' H1 ea hv' hcc hn hp so' D' sp1 ma1 hk1 Q' hQ' => ?_
  rw [hv] at hv'
  have ev := Option.some.inj hv'
  subst ev
  have ex1 := sp1.ext D
  have mv1 := Mv.step sp1
  have k1 := st.fk.mv mv1
  have ml1 := st.fml.mv mv1
  have a1 := st.fa.mv mv1
  have l1 := st.fl.mv mv1
  have dv1 := DV.extT ex1 _ _ dv
  have a_k : a ≠ k := fun z => by
    have h := a1.1
    rw [z, k1.1] at h
    have := Option.some.inj h
    injection this with _ _ h3
    simp at h3
  have a_ml : a ≠ ml := ne_of a1.1 ml1.1 (by intro z; cases z)
  have l_a : l ≠ a := ne_of l1.1 a1.1 (by intro z; cases z)
  have k_ml : k ≠ ml := ne_of k1.1 ml1.1 (by intro z; cases z)
  have oth : ∀ (H3 : Hp), (∀ b o, H1 b = some o → b ≠ k → b ≠ ml → b ≠ a → H3 b = some o) → Aft C M H H3 m A A' X X' B k ml a l := fun H3 kp3 =>
    ⟨ea, hcc, hn, so', k2_mem D' k1.1 a1.1 ⟨_, ml1.1⟩ rfl rfl k1.2 ml1.2 a1.2 kp3, fun b o h hnf n1 n2 n3 n4 => let ⟨h1, h2⟩ := mv1 b o h hnf; ⟨kp3 b o h1 n1 n2 n3, h2⟩, ex1.trans (kp_ext ⟨_, _, _, k1.1⟩ ⟨_, _, _, a1.1⟩ ⟨_, ml1.1⟩ kp3)⟩
  refine ⟨a, dx, p, l, .ref q, .ref qm, .non, [], 0, X.count + 1, v, wd, rfl, ma1, hp, dv1, ?_⟩
  cases wd with
  | addr x =>
    refine .inl ⟨x, rfl, fun H2 q2 u nq nu hq2 hu2 ma2 kp2 => hQ' H2 ?_⟩
    have hk2 : StkAt S H2 k dk ml [a] .non := ⟨kp2 _ _ k1.1 a_k.symm, kp2 _ _ ml1.1 a_ml.symm⟩
    refine ⟨hk2, .inr ⟨q2, l, .ref qm, [], _, .ref u, ⟨ma2, hc.cl, hc.rq, rfl, rfl, by show 2 < 900; decide⟩, hq2, fun H3 hk3 kp3 => ?_⟩⟩
    have kpt : ∀ b o, H1 b = some o → b ≠ k → b ≠ ml → b ≠ a → H3 b = some o := fun b o h n1 n2 n3 => kp3 b o (kp2 b o h n3) n1 n2
    exact kA H3 A' X' u x rfl (oth H3 kpt) ⟨⟨hk3.ob, k1.2⟩, ⟨hk3.l, ml1.2⟩, kp3 _ _ hu2 (ne_of hu2 hk2.ob (by intro z; cases z)) (ne_of hu2 hk2.l (by intro z; cases z))⟩
  | mark d s o n =>
    obtain ⟨s', hs'⟩ := hs d s o n rfl
    refine .inr ⟨d, s, o, n, rfl, fun H2 q2 l2 qm2 nq nl2 nqm hq2 hqm2 ma2 kp2 => hQ' H2 ?_⟩
    have hk2 : StkAt S H2 k dk ml [a] .non := ⟨kp2 _ _ k1.1 a_k.symm, kp2 _ _ ml1.1 a_ml.symm⟩
    refine ⟨hk2, .inl ⟨q2, l2, .ref qm2, [], _, .read s', ⟨ma2, hc.cl, hc.rq, rfl, rfl, by show 2 < 900; decide⟩, (by rw [hq2, hs']; rfl), ?_⟩⟩
    have kpt : ∀ b o, H1 b = some o → b ≠ k → b ≠ ml → b ≠ a → H2 b = some o := fun b o h n1 n2 n3 => kp2 b o h n3
    have nf : ∀ b, H1 b = none → ¬ Foot m A' 35 b := fun b h hf => by obtain ⟨u, hu⟩ := foot_some D' hf; rw [h] at hu; cases hu
    obtain ⟨xs, htp⟩ := htp
    refine kM H2 A' X' q2 l2 qm2 d s o n s' rfl hs' (oth H2 kpt) ⟨⟨hk2.ob, k1.2⟩, ⟨hk2.l, ml1.2⟩, ⟨ma2.ob, a1.2⟩, ⟨ma2.lf, nf _ nl2⟩, (by rw [hq2, hs']), ⟨hqm2, nf _ nqm⟩, st.d1, fun z => ?_⟩
    have := (mv1 _ _ htp.1 htp.2).1
    rw [z, nl2] at this
    cases this
/-- the second step -/
theorem kst1 {H : Hp} {m tp k dk ml a dx q l qm mp : Addr} {c B : Nat} {A : Adr} {X : MS} {Q : VK} {st : Sta} {v : V} {acc d s o n : Int} (hc : HCl P w K mg base CS fa) (D : MemAt C M H m 2 3 30 A X) (so : SOk X 2 35 B) (hB : B < 100000) (hcl : c < 38) (stk : Stk0 S CS H (Foot m A 35) tp k dk ml a dx q l qm gs c (.ref mp) acc) (fi : PySem.W.fnIn K gs = true) (FR : FnR P w K mg base CX0 4 gs (spShStat K CS)) (hmp : SqT K H mp [.int d, .int s, .int o, .int n]) (hv : cellV X 2 c = some v) (dv : DV K H v st.tr) (ok : st.ok)
    (kE : ∀ (H' : Hp) (A' : Adr) (X' : MS) (u : Addr), Aft C M H H' m A A' X X' B k ml a l → StkE S H' (Foot m A' 35) k dk ml u (shRes st acc s o n) → Q (.bl true) H') :
    spKStep P w K mg base 6 S C M [.ref k, .ref m, .int 0] H Q E0 := by
  refine kst hc D so hB ⟨stk.fk.1, stk.fml.1⟩ ⟨stk.fa.1, stk.fl.1⟩ stk.fq hcl stk.fqm stk.fa.2 stk.fl.2 stk.fk.2 stk.fml.2 fi FR fun v' p A' X' H1 ea hv' hcc hn hp so' D' sp1 ma1 hk1 Q' hQ' => ?_
  rw [hv] at hv'
  have ev := Option.some.inj hv'
  subst ev
  have ex1 := sp1.ext D
  have mv1 := Mv.step sp1
  have k1 := stk.fk.mv mv1
  have ml1 := stk.fml.mv mv1
  have a1 := stk.fa.mv mv1
  have dv1 := DV.extT ex1 _ _ dv
  have a_k : a ≠ k := fun z => by
    have h := a1.1
    rw [z, k1.1] at h
    have := Option.some.inj h
    injection this with _ _ h3
    simp at h3
  have a_ml : a ≠ ml := ne_of a1.1 ml1.1 (by intro z; cases z)
  refine ⟨a, dx, p, l, mp, .ref q, .ref qm, [], acc, X.count + 1, d, s, o, n, v, st, rfl, ma1, hp, hmp.extT ex1, dv1, ok, fun H2 q2 u nq nu hq2 hu2 ma2 kp2 => hQ' H2 ?_⟩
  have hk2 : StkAt S H2 k dk ml [a] .non := ⟨kp2 _ _ k1.1 a_k.symm, kp2 _ _ ml1.1 a_ml.symm⟩
  refine ⟨hk2, .inr ⟨q2, l, .ref qm, [], _, .ref u, ⟨ma2, hc.cl, hc.rq, rfl, rfl, by show 2 < 900; decide⟩, hq2, fun H3 hk3 kp3 => ?_⟩⟩
  have kpt : ∀ b o, H1 b = some o → b ≠ k → b ≠ ml → b ≠ a → H3 b = some o := fun b o h n1 n2 n3 => kp3 b o (kp2 b o h n3) n1 n2
  exact kE H3 A' X' u ⟨ea, hcc, hn, so', k2_mem D' k1.1 a1.1 ⟨_, ml1.1⟩ rfl rfl k1.2 ml1.2 a1.2 kpt, fun b o h hnf n1 n2 n3 n4 => let ⟨h1, h2⟩ := mv1 b o h hnf; ⟨kpt b o h1 n1 n2 n3, h2⟩, ex1.trans (kp_ext ⟨_, _, _, k1.1⟩ ⟨_, _, _, a1.1⟩ ⟨_, ml1.1⟩ kpt)⟩ ⟨⟨hk3.ob, k1.2⟩, ⟨hk3.l, ml1.2⟩, kp3 _ _ hu2 (ne_of hu2 hk2.ob (by intro z; cases z)) (ne_of hu2 hk2.l (by intro z; cases z))⟩
/-- a step of the stack that has ended -/
theorem kstE {H : Hp} {m k dk ml u : Addr} {xs : List V} {B : Nat} {A : Adr} {X : MS} {Q : VK} (D : MemAt C M H m 2 3 30 A X) (so : SOk X 2 35 B) (hB : B < 100000) (e : StkE S H (Foot m A 35) k dk ml u xs) (kQ : Q (.bl false) H) : spKStep P w K mg base 6 S C M [.ref k, .ref m, .int 0] H Q E0 :=
  ⟨k, dk, ml, m, [], .ref u, 2, 3, 30, 0, B, A, X, rfl, ⟨e.fk.1, e.fml.1⟩, nok2, D, by decide, so, by rw [sizeLine_eq]; omega, .inl ⟨rfl, kQ⟩⟩
end
end Dk

set_option maxHeartbeats 4000000
/-! the law k04: a step of a reading -/
namespace Dk
open PySem PySem.Spec PyProof.Rows L2
abbrev sLaw : Stmt := top 33
def loopBody : Stmt → List Stmt
  | .For _ _ b _ _ => b
  | _ => []
abbrev pass0S : Stmt := .Pass ⟨0, 0, 0, 0⟩
/-- the body of a turn, of a step -/
abbrev turnB : List Stmt := loopBody ((defBody sLaw).getD 5 pass0S)
abbrev stepB : List Stmt := loopBody (turnB.getD 5 pass0S)
abbrev NLw : List Str := ["script", "tape", "layout", "memory", "index", "place", "turn", "stack", "value", "status", "first", "step", "k", "before", "kept", "moved", "cell"]
abbrev sl (a tp la m : Addr) (ix pl : Nat) (v6 : Option V) (k : Addr) (v sv : V) (f : Int) (st : Nat) (v12 v13 v14 v15 v16 : Option V) : L2.St :=
  [some (.ref a), some (.ref tp), some (.ref la), some (.ref m), some (.int (ix : Int)), some (.int (pl : Int)), v6, some (.ref k), some v, some sv, some (.int f), some (.int (st : Int)), v12, v13, v14, v15, v16]
def isM : Wd → Bool
  | .addr _ => false
  | .mark .. => true
def expB (i : Nat) (wd : Wd) : Bool := decide (i = 0) || (decide (i = 1) && isM wd)
theorem isi_wd {K : PySem.W.Frag} {H : Hp} {v : V} {wd : Wd} (d : DV K H v wd.tr) : ∃ t, TyX K H v t ∧ PySem.W.kitOne K t (.type "tuple") = some (isM wd) := by
  cases wd with
  | addr a =>
    have := wd_addr d
    subst this
    exact ⟨_, .base (.int a), kit_ty (show kitB "int" "tuple" = some false by decide +kernel)⟩
  | mark d1 s o n =>
    obtain ⟨p, rfl, hp⟩ := wd_mark d
    exact ⟨_, tyT hp, kit_ty (show kitB "tuple" "tuple" = some true by decide +kernel)⟩
theorem isi_non {K : PySem.W.Frag} {H : Hp} : ∃ t, TyX K H .non t ∧ PySem.W.kitOne K t (.type "tuple") = some false := ⟨_, .base .non, kit_ty (show kitB "NoneType" "tuple" = some false by decide +kernel)⟩
theorem exp_read {K : PySem.W.Frag} {σ : L2.St} {H : Hp} {Q : VK} {i : Nat} {v : V} {wd : Wd} (h11 : σ[11]? = some (some (.int (i : Int)))) (h8 : σ[8]? = some (some v)) (d : DV K H v wd.tr) (hi : i < 3) (k : Q (.bl (expB i wd)) H) :
    tOrV (tOp rEq (tVar 11) (tC (.int 0))) (tAndV (tOp rEq (tVar 11) (tC (.int 1))) (tCB (rIsi K) (tCons (tVar 8) (tCons (tC (.ty "tuple")) tNil)))) σ H Q := by
  refine ⟨_, h11, rfl, _, rfl, ?_⟩
  obtain ⟨t, ht, hk⟩ := isi_wd d
  match i, hi, h11 with
  | 0, _, _ => exact k
  | 1, _, h11 =>
    refine ⟨_, h11, rfl, _, rfl, ?_⟩
    exact ⟨_, h8, _, _, _, _, _, rfl, .ty "tuple", ht, hk, k⟩
  | 2, _, h11 => exact ⟨_, h11, rfl, _, rfl, k⟩
/-- the values of the cells -/
def cv (X : MS) (c : Nat) : V := (cellV X 2 c).getD .non
theorem K4.us {K : PySem.W.Frag} {H : Hp} {X : MS} {W : Nat → Wd} {T : Nat → Sta} (h : K4 K H X W T) : ∃ us : Nat → Tr, ∀ c, c < 38 → cellV X 2 c = some (cv X c) ∧ DV K H (cv X c) (us c) ∧ Nice (us c) := by
  refine ⟨fun c => if q : c < 38 then Classical.choose (h.a c q) else .sc .non, fun c q => ?_⟩
  obtain ⟨⟨v, hv, dv⟩, nu⟩ := Classical.choose_spec (h.a c q)
  have e : cv X c = v := by unfold cv; rw [hv]; rfl
  dsimp only
  rw [dif_pos q, e]
  exact ⟨hv, dv.d, nu⟩
def dCells (us : Nat → Tr) (n : Nat) : List PyData := (List.range n).map fun c => (us c).data
theorem cells_dp {K : PySem.W.Frag} {H : Hp} {X : MS} {us : Nat → Tr} : ∀ n, (∀ c, c < n → DV K H (cv X c) (us c)) → DpAll K H ((List.range n).map (cv X)) (dCells us n) := fun n h => by
  unfold dCells
  have : ∀ l : List Nat, (∀ c ∈ l, c < n) → DpAll K H (l.map (cv X)) (l.map fun c => (us c).data) := fun l => by
    induction l with
    | nil => exact fun _ => .nil
    | cons c l ih => exact fun hl => .cons (DV.dp _ _ (h c (hl c List.mem_cons_self))) (ih fun c' hc => hl c' (List.mem_cons_of_mem _ hc))
  exact this _ fun c hc => List.mem_range.mp hc
theorem cells_shaped {us : Nat → Tr} {n : Nat} (h : ∀ c, c < n → Nice (us c)) : SeqAt.shaped (.list (dCells us n)) = true := by
  refine shaped_iff.mpr ?_
  have : ∀ l : List Nat, (∀ c ∈ l, c < n) → PyData.canLayAll0 (l.map fun c => (us c).data) = true ∧ PyData.depthAll (l.map fun c => (us c).data) ≤ 11 := fun l => by
    induction l with
    | nil => exact fun _ => ⟨by simp [PyData.canLayAll0], by simp [PyData.depthAll]⟩
    | cons c l ih =>
      intro hl
      obtain ⟨h1, h2⟩ := ih fun c' hc => hl c' (List.mem_cons_of_mem _ hc)
      obtain ⟨g1, _, g3⟩ := h c (hl c List.mem_cons_self)
      obtain ⟨g1, _⟩ := shaped_iff.mp g1
      refine ⟨by simp [PyData.canLayAll0, g1, h1], ?_⟩
      simp only [List.map_cons, PyData.depthAll]
      omega
  obtain ⟨h1, h2⟩ := this (List.range n) fun c hc => List.mem_range.mp hc
  unfold dCells
  refine ⟨by simp only [PyData.canLay0]; exact h1, ?_⟩
  simp only [PyData.depth]
  omega
theorem eqv_sh {d : PyData} (h : SeqAt.shaped d = true) : PyData.eqv d d = true := SeqAt.eqv_refl _ (SeqAt.canLay_of_shaped h)
structure Co (K : PySem.W.Frag) (C M : Addr) (H : Hp) (m la tp : Addr) (ms : List Int) (A : Adr) (X : MS) (B : Nat) (W : Nat → Wd) (T : Nat → Sta) : Prop where
  D : MemAt C M H m 2 3 30 A X
  so : SOk X 2 35 B
  k4 : K4 K H X W T
  tp : Ot H (Foot m A 35) tp (.lst (ms.map V.int))
  la : A.a = la
theorem Co.same {K : PySem.W.Frag} {C M : Addr} {H H' : Hp} {m la tp : Addr} {ms : List Int} {A : Adr} {X : MS} {B : Nat} {W : Nat → Wd} {T : Nat → Sta} (c : Co K C M H m la tp ms A X B W T) (s : Same H H') : Co K C M H' m la tp ms A X B W T := ⟨c.D.same s, c.so, c.k4.same s, ⟨s _ _ c.tp.1, c.tp.2⟩, c.la⟩
section
variable {P : Program} {w : World} {K : PySem.W.Frag} {mg : Str → Option Value} {base : Heap} {C M S CS gw gs fa : Addr}
theorem scLaw : FnScope NLw ["script"] (defScope sLaw) := ⟨rfl, rfl, rfl, by decide +kernel, rfl, by decide +kernel, by decide +kernel⟩
/-- behind the step of the stack -/
structure Post (K : PySem.W.Frag) (C M : Addr) (H1 H' : Hp) (m la tp : Addr) (ms : List Int) (A' : Adr) (X X' : MS) (B : Nat) (W : Nat → Wd) (T : Nat → Sta) (mvd : Bool) : Prop where
  c : Co K C M H' m la tp ms A' X' (B + 2) W T
  e : ∀ c, cellV X' 2 c = cellV X 2 c
  n : X'.count = X.count + (if mvd = true then 1 else 0)
  x : ExT H1 H'
theorem law_s3 {f : Addr} {cdv : Value} {A0 : Around} {outer : List Env} {s : Shared} {Hs : Hp} {E : XK} (hr : Room 18 (A0.deeper (envOfC "law" (defScope sLaw) s.heap.objs.size f cdv))) (B0 : Bn mg) (TL : LTxt K mg C) (TM : MTxt K M) (TK : KTx K S)
    (GPk : MO P w K mg base CX0 M 8 "peek" ["self", "cell"] (spPeek C M)) (GCe : MO P w K mg base CX0 C 5 "cells" ["self"] (spL0 C fun t w r => .int (cells t w r))) (GSt : MO P w K mg base CX0 S 18 "step" ["self", "memory", "thread"] (spKStep P w K mg base 6 S C M)) :
    ∃ t3, PSs (cxOf CX0 P w K mg base NLw "law" (defScope sLaw) f cdv A0 outer s Hs E).nox (stepB.drop 3) t3 ∧
      ∀ (De : Ends) (a tp la m k : Addr) (ms : List Int) (ix pl i B : Nat) (v6 : Option V) (v sv : V) (fi : Int) (v12 v13 v14 v15 v16 : Option V) (wd : Wd) (H : Hp) (A : Adr) (X : MS) (W : Nat → Wd) (T : Nat → Sta) (mvd : Bool) (PP : Hp → Adr → MS → Prop), i < 3 → B < 90000 →
        Co K C M H m la tp ms A X B W T → DV K H v wd.tr → expB i wd = mvd → (∃ dk fs, H k = some (.ins S dk fs) ∧ fs.lookup ("step" : Str) = none) →
        (∀ (H1 : Hp) (Q : VK), Same H H1 → (∀ H' A' X', Post K C M H1 H' m la tp ms A' X X' B W T mvd → (∀ D xs, H D = none → H1 D = some (.lst xs) → H' D = some (.lst xs)) → PP H' A' X' → Q (.bl mvd) H') → spKStep P w K mg base 6 S C M [.ref k, .ref m, .int 0] H1 Q E0) →
        (∀ (v13 v14 v15 v16 : Option V) (H1 H' H2 : Hp) (A' : Adr) (X' : MS), Same H H1 → Same H' H2 → Post K C M H1 H' m la tp ms A' X X' B W T mvd → PP H' A' X' → (if mvd = true then De.nx else De.bk) (sl a tp la m ix pl v6 k v sv fi i v12 v13 v14 v15 v16) H2) →
        t3 De (sl a tp la m ix pl v6 k v sv fi i v12 v13 v14 v15 v16) H := by
  have nd := scLaw.nd
  have hr5 : Room 5 _ := hr.mono (by decide)
  have hr8 : Room 8 _ := hr.mono (by decide)
  have hrS : Room 18 _ := hr
  have hsl : sizeLine = 16777216 := sizeLine_eq
  refine ⟨_, (pss_cons (ps_set (i := 13) nd rfl (Or.inl rfl) (pe_fld (pv 3) rfl))
  (pss_cons (ps_setLc (i := 14) (own := [("cell", 16)]) (g := (gName 16)) (tt := tYes) rfl nd rfl rfl (sw_true rfl rfl rfl (by decide +kernel)) (pi_range1 (by rfl) B0.range (pa_cons (pm0_ GCe TL.cl hr5 (pv 2)) pa_nil)) (blkOk_by (N := ["script", "tape", "layout", "memory", "index", "place", "turn", "stack", "value", "status", "first", "step", "k", "before", "kept", "moved", "cell"]) (sc := defScope sLaw) (by decide +kernel)) (fun _ _ _ _ _ => (pg_name (i := 16) nd rfl (Or.inl rfl))) (fun _ _ _ _ _ => pts_nil) (fun _ _ _ _ _ => (pm_ GPk TM.cl hr8 (pv 3) (pa_cons (pv 16) pa_nil))))
  (pss_cons (ps_set (i := 15) nd rfl (Or.inl rfl) (pm_ GSt TK.cl hrS (pv 7) (pa_cons (pv 3) (pa_cons pe_int pa_nil))))
  (pss_cons (ps_if (pt_cmpR op_ne (pv 15) (pe_or (pe_cmpR op_eq (pv 11) pe_int (nomark _)) (pe_one (pe_and (pe_cmpR op_eq (pv 11) pe_int (nomark _)) (pe_one (pe_callB call_isi (by rfl) B0.isi (by decide +kernel) (pa_cons (pv 8) (pa_cons (pe_bltn (v := .ty "tuple") (by rfl) B0.tuple (by decide +kernel) rfl) pa_nil))))))) (nomark _))
  (pss_one (ps_ret pe_bl))
  pss_nil)
  (pss_cons (ps_if (PW.pt (pw_or (pt_cmpR op_ne (pe_fld (pv 3) rfl) (pe_op op_add (pv 13) (pe_callTy call_int1 (by rfl) B0.int (by decide +kernel) (pa_cons (pv 15) pa_nil))) (nomark _)) (pw_or1 (pt_cmpR (op_neD hr.units) (pv 14) (pe_lc (own := [("cell", 16)]) (g := (gName 16)) (tt := tYes) rfl nd (pi_range1 (by rfl) B0.range (pa_cons (pm0_ GCe TL.cl hr5 (pv 2)) pa_nil)) (blkOk_by (N := ["script", "tape", "layout", "memory", "index", "place", "turn", "stack", "value", "status", "first", "step", "k", "before", "kept", "moved", "cell"]) (sc := defScope sLaw) (by decide +kernel)) (fun _ _ _ _ _ => (pg_name (i := 16) nd rfl (Or.inl rfl))) (fun _ _ _ _ _ => pts_nil) (fun _ _ _ _ _ => (pm_ GPk TM.cl hr8 (pv 3) (pa_cons (pv 16) pa_nil)))) (nomark _)))))
  (pss_one (ps_ret pe_bl))
  pss_nil)
  (pss_one (ps_if (pt_not (pt_truth (pv 15) (by intro _; rfl)))
  (pss_one ps_break)
  pss_nil))))))), ?_⟩
  intro De a tp la m k ms ix pl i B v6 v sv fi v12 v13 v14 v15 v16 wd H A X W T mvd PP hi hB co dv hex hk hstep kD
  obtain ⟨dm, hm⟩ := co.D.ob
  refine ⟨_, rfl, m, M, dm, _, _, rfl, hm, TM.cl, TM.nC, rfl, ?_⟩
  obtain ⟨us, hus⟩ := co.k4.us
  obtain ⟨da, hla⟩ := co.D.lay
  rw [co.la] at hla
  have ce : cells 2 3 30 = 38 := rfl
  -- kept
  refine ⟨_, rfl, la, da, _, rfl, hla, rfl, la, 2, 3, 30, rfl, ⟨da, hla⟩, 38, rfl, by decide, by decide, fun D hD => lc_range (lo := 0) (n := 38) (fun j H' => H' D = some (.lst ((List.range j).map (cv X))) ∧ Same H H') ⟨upd_same, up1 hD⟩ ?_ ?_⟩
  · rintro j H' hj ⟨hD', s1⟩
    obtain ⟨dm1, hm1⟩ := (co.D.same s1).ob
    refine ⟨rfl, _, rfl, m, dm1, _, rfl, hm1, rfl, _, rfl, m, 2, 3, 30, j, A, X, cv X j, (by rw [Int.zero_add]; rfl), co.D.same s1, by omega, (hus j hj).1, _, hD', (by rw [List.length_map, List.length_range]; omega), ?_, fun b o h => by rw [upd_ne (ne_of_none h hD)]; exact s1 b o h⟩
    rw [upd_same, List.range_succ, List.map_append]
    rfl
  rintro H1 ⟨hD1, s1⟩
  have co1 := co.same s1
  -- the step
  obtain ⟨dk, fs, hk1, hk2⟩ := hk
  obtain ⟨dm1, hm1⟩ := co1.D.ob
  refine ⟨_, rfl, k, dk, _, rfl, s1 _ _ hk1, hk2, _, rfl, ?_⟩
  dsimp only [tCons, tC, tNil]
  refine hstep H1 _ s1 fun H2 A2 X2 po hl2 pp => ?_
  have hD2 := hl2 _ _ hD hD1
  -- moved as it should
  refine ⟨_, rfl, exp_read (i := i) (v := v) (wd := wd) rfl rfl (DV.extT po.x _ _ (DV.ext s1 _ _ dv)) hi ?_⟩
  rw [hex]
  refine ⟨(by cases mvd <;> rfl), _, rfl, iteNS rfl ?_⟩
  -- count
  obtain ⟨dm2, hm2⟩ := po.c.D.ob
  refine ⟨_, rfl, m, M, dm2, _, _, rfl, hm2, TM.cl, TM.nC, rfl, _, rfl, _, rfl, .inr ⟨mvd, rfl, _, _, rfl, rfl, rfl, _, rfl, iteNS (congrArg V.int po.n) ?_⟩⟩
  obtain ⟨da2, hla2⟩ := po.c.D.lay
  rw [po.c.la] at hla2
  refine ⟨_, rfl, _, rfl, la, da2, _, rfl, hla2, rfl, la, 2, 3, 30, rfl, ⟨da2, hla2⟩, 38, rfl, by decide, by decide, fun D2 hD2' => lc_range (lo := 0) (n := 38) (fun j H' => H' D2 = some (.lst ((List.range j).map (cv X))) ∧ Same H2 H') ⟨upd_same, up1 hD2'⟩ ?_ ?_⟩
  · rintro j H' hj ⟨hD', s2⟩
    obtain ⟨dm3, hm3⟩ := (po.c.D.same s2).ob
    refine ⟨rfl, _, rfl, m, dm3, _, rfl, hm3, rfl, _, rfl, m, 2, 3, 30, j, A2, X2, cv X j, (by rw [Int.zero_add]; rfl), po.c.D.same s2, by omega, (by rw [po.e]; exact (hus j hj).1), _, hD', (by rw [List.length_map, List.length_range]; omega), ?_, fun b o h => by rw [upd_ne (ne_of_none h hD2')]; exact s2 b o h⟩
    rw [upd_same, List.range_succ, List.map_append]
    rfl
  rintro H3 ⟨hD3, s2⟩
  have hs := cells_shaped (us := us) (n := 38) fun c hc => (hus c hc).2.2
  have dc : ∀ {H' : Hp}, (∀ c, c < 38 → DV K H' (cv X c) (us c)) → DpAll K H' ((List.range 38).map (cv X)) (dCells us 38) := fun h => cells_dp 38 h
  have d3 : ∀ c, c < 38 → DV K H3 (cv X c) (us c) := fun c hc => DV.ext s2 _ _ (DV.extT po.x _ _ (DV.ext s1 _ _ (hus c hc).2.1))
  refine ⟨.list (dCells us 38), .list (dCells us 38), .lst (SqL.of (s2 _ _ hD2)) (dc d3), .lst (SqL.of hD3) (dc d3), hs, hs, _, rfl, iteC (by rw [eqv_sh hs]; rfl) ?_⟩
  have fin := kD (some (.int X.count)) (some (.ref D)) (some (.bl mvd)) v16 H1 H2 H3 A2 X2 s1 s2 po pp
  refine ⟨_, rfl, mvd, rfl, ?_⟩
  cases mvd with
  | true => exact iteF fin
  | false => exact iteT fin
end
end Dk

set_option maxHeartbeats 4000000
/-! the law k04: a step, from its beginning -/
namespace Dk
open PySem PySem.Spec PyProof.Rows L2
inductive Stg (K : PySem.W.Frag) (S CS gw gs tp k : Addr) (ix : Nat) (H : Hp) (Z : Addr → Prop) : Nat → V → V → Int → Prop
  | s0 {dk ml a dx q l qm : Addr} (h : Stk0 S CS H Z tp k dk ml a dx q l qm gw (5 + ix) .non 0) : Stg K S CS gw gs tp k ix H Z 0 .non (.int 0) 0
  | sA {v : V} {x f : Int} {dk ml u : Addr} (dv : DV K H v (Wd.addr x).tr) (h : StkE S H Z k dk ml u [v, .int f, .non]) : Stg K S CS gw gs tp k ix H Z 1 v (.int 0) f
  | sM {mp dk ml a dx q l qm : Addr} {d o n f : Int} (dv : SqT K H mp [.int d, .int (20 + (ix : Int)), .int o, .int n]) (h : Stk0 S CS H Z tp k dk ml a dx q l qm gs (20 + ix) (.ref mp) f) : Stg K S CS gw gs tp k ix H Z 1 (.ref mp) (.int 0) f
  | sE {v sv : V} {d s o n f : Int} {st : Sta} {dk ml u : Addr} (dv : DV K H v (Wd.mark d s o n).tr) (ds : DV K H sv st.tr) (ok : st.ok) (h : StkE S H Z k dk ml u (shRes st f s o n)) : Stg K S CS gw gs tp k ix H Z 2 v sv f
theorem Stg.mv {K : PySem.W.Frag} {S CS gw gs tp k : Addr} {ix : Nat} {H H' : Hp} {Z Z' : Addr → Prop} {i : Nat} {v sv : V} {f : Int} (h : Stg K S CS gw gs tp k ix H Z i v sv f) (mv : Mv Z H Z' H') (ex : ExT H H') : Stg K S CS gw gs tp k ix H' Z' i v sv f := by
  cases h with
  | s0 h => exact .s0 (h.mv mv ex)
  | sA dv h => exact .sA (DV.extT ex _ _ dv) (h.mv mv ex)
  | sM dv h => exact .sM (dv.extT ex) (h.mv mv ex)
  | sE dv ds ok h => exact .sE (DV.extT ex _ _ dv) (DV.extT ex _ _ ds) ok (h.mv mv ex)
def Fin4 (K : PySem.W.Frag) (S k : Addr) (H : Hp) (Z : Addr → Prop) (v sv : V) (f : Int) : Prop := ∃ (wd : Wd) (st : Sta) (dk ml u : Addr), DV K H v wd.tr ∧ DV K H sv st.tr ∧ st.ok ∧ StkE S H Z k dk ml u (shown3 wd st f)
section
variable {P : Program} {w : World} {K : PySem.W.Frag} {mg : Str → Option Value} {base : Heap} {C M S CS gw gs fa : Addr}
theorem law_s1 {f : Addr} {cdv : Value} {A0 : Around} {outer : List Env} {s : Shared} {Hs : Hp} {E : XK} (hr : Room 18 (A0.deeper (envOfC "law" (defScope sLaw) s.heap.objs.size f cdv))) (B0 : Bn mg) (TL : LTxt K mg C) (TM : MTxt K M) (TK : KTx K S)
    (GPk : MO P w K mg base CX0 M 8 "peek" ["self", "cell"] (spPeek C M)) (GCe : MO P w K mg base CX0 C 5 "cells" ["self"] (spL0 C fun t w r => .int (cells t w r))) (GSt : MO P w K mg base CX0 S 18 "step" ["self", "memory", "thread"] (spKStep P w K mg base 6 S C M))
    (hc : HCl P w K mg base CS fa) (fiw : PySem.W.fnIn K gw = true) (FRw : FnR P w K mg base CX0 4 gw (spShWord K CS gs)) (fis : PySem.W.fnIn K gs = true) (FRs : FnR P w K mg base CX0 4 gs (spShStat K CS)) :
    ∃ t1, PSs (cxOf CX0 P w K mg base NLw "law" (defScope sLaw) f cdv A0 outer s Hs E).nox (stepB.drop 1) t1 ∧
      ∀ (De : Ends) (a tp la m k : Addr) (ms : List Int) (ix pl i B : Nat) (v6 : Option V) (v sv : V) (fi : Int) (v12 v13 v14 v15 v16 : Option V) (H : Hp) (A : Adr) (X : MS) (W : Nat → Wd) (T : Nat → Sta), ix < 3 → i < 3 → B < 90000 →
        Co K C M H m la tp ms A X B W T → Stg K S CS gw gs tp k ix H (Foot m A 35) i v sv fi →
        (∀ (v' sv' : V) (f' : Int) (v13 v14 v15 v16 : Option V) (H' : Hp) (A' : Adr) (X' : MS), Co K C M H' m la tp ms A' X' (B + 2) W T → Stg K S CS gw gs tp k ix H' (Foot m A' 35) (i + 1) v' sv' f' → De.nx (sl a tp la m ix pl v6 k v' sv' f' i v12 v13 v14 v15 v16) H') →
        (∀ (v' sv' : V) (f' : Int) (v13 v14 v15 v16 : Option V) (H' : Hp) (A' : Adr) (X' : MS), Co K C M H' m la tp ms A' X' (B + 2) W T → Fin4 K S k H' (Foot m A' 35) v' sv' f' → De.bk (sl a tp la m ix pl v6 k v' sv' f' i v12 v13 v14 v15 v16) H') →
        t1 De (sl a tp la m ix pl v6 k v sv fi i v12 v13 v14 v15 v16) H := by
  have nd := scLaw.nd
  have hr8 : Room 8 _ := hr.mono (by decide)
  have hsl : sizeLine = 16777216 := sizeLine_eq
  obtain ⟨t3, hp3, r3⟩ := law_s3 (C := C) (w := w) (f := f) (cdv := cdv) (A0 := A0) (outer := outer) (s := s) (Hs := Hs) (E := E) hr B0 TL TM TK GPk GCe GSt
  refine ⟨_, (pss_cons (ps_if (pt_cmpR op_eq (pv 11) pe_int (nomark _))
  (pss_cons (ps_set (i := 8) nd rfl (Or.inl rfl) (pm_ GPk TM.cl hr8 (pv 3) (pa_cons (pe_op op_add pe_int (pv 4)) pa_nil)))
  (pss_one (ps_set (i := 10) nd rfl (Or.inl rfl) (pe_op op_add (pe_fld (pv 3) rfl) pe_int))))
  pss_nil)
  (pss_cons (ps_if (PW.pt (pw_and (pt_cmpR op_eq (pv 11) pe_int (nomark _)) (pw_and1 (pt_val (pe_callB call_isi (by rfl) B0.isi (by decide +kernel) (pa_cons (pv 8) (pa_cons (pe_bltn (v := .ty "tuple") (by rfl) B0.tuple (by decide +kernel) rfl) pa_nil)))))))
  (pss_one (ps_set (i := 9) nd rfl (Or.inl rfl) (pm_ GPk TM.cl hr8 (pv 3) (pa_cons (pe_ix ix_tup (pv 8) pe_int (fun _ _ => rfl)) pa_nil))))
  pss_nil)
  hp3)), ?_⟩
  intro De a tp la m k ms ix pl i B v6 v sv fi v12 v13 v14 v15 v16 H A X W T hix hi hB co stg kN kB
  obtain ⟨dm, hm⟩ := co.D.ob
  have e5 : ((5 + ix : Nat) : Int) = 5 + (ix : Int) := by omega
  have e20 : ((20 + ix : Nat) : Int) = 20 + (ix : Int) := by omega
  have post : ∀ {H1 H' : Hp} {A' : Adr} {X' : MS} {k ml a l : Addr} {mvd : Bool}, Same H H1 → mvd = true → Aft C M H1 H' m A A' X X' B k ml a l → (tp ≠ k ∧ tp ≠ ml ∧ tp ≠ a ∧ tp ≠ l) → Post K C M H1 H' m la tp ms A' X X' B W T mvd := fun {H1 H' A' X' k ml a l mvd} s1 hm af hne => by
    subst hm
    have hk4 : K4 K H' X' W T := ((co.k4.same s1).ext af.x).eq af.c
    exact ⟨⟨af.D, af.so, hk4, af.o _ _ (s1 _ _ co.tp.1) co.tp.2 hne.1 hne.2.1 hne.2.2.1 hne.2.2.2, af.ea.trans co.la⟩, af.c, af.n, af.x⟩
  have hne : ∀ (H : Hp) {ml a l dk dx : Addr} {gs fs : List (Str × V)} {xs : List V}, H tp = some (.lst xs) → H k = some (.ins S dk gs) → H a = some (.ins CS dx fs) → tp ≠ ml → tp ≠ l → (tp ≠ k ∧ tp ≠ ml ∧ tp ≠ a ∧ tp ≠ l) := fun H ml a l dk dx gs fs xs h1 h2 h3 h4 h5 => ⟨ne_of h1 h2 (by intro z; cases z), h4, ne_of h1 h3 (by intro z; cases z), h5⟩
  have lists : ∀ {H1 H' : Hp} {A' : Adr} {X' : MS} {k ml a l : Addr}, Same H H1 → Aft C M H1 H' m A A' X X' B k ml a l → (∃ o, H k = some o) → (∃ o, H ml = some o) → (∃ o, H a = some o) → (∃ o, H l = some o) → ∀ D xs, H D = none → H1 D = some (.lst xs) → H' D = some (.lst xs) := fun {H1 H' A' X' k ml a l} s1 af h1 h2 h3 h4 D xs nD hD =>
    (af.o D _ hD (fun hf => by obtain ⟨u, hu⟩ := foot_some co.D hf; rw [nD] at hu; cases hu) (fun z => by obtain ⟨o, h⟩ := h1; rw [← z, nD] at h; cases h) (fun z => by obtain ⟨o, h⟩ := h2; rw [← z, nD] at h; cases h) (fun z => by obtain ⟨o, h⟩ := h3; rw [← z, nD] at h; cases h) (fun z => by obtain ⟨o, h⟩ := h4; rw [← z, nD] at h; cases h)).1
  have ended : ∀ {H1 : Hp}, Same H H1 → Post K C M H1 H1 m la tp ms A X X B W T false := fun {H1} s1 => ⟨⟨co.D.same s1, co.so.mono (by omega), co.k4.same s1, ⟨s1 _ _ co.tp.1, co.tp.2⟩, co.la⟩, fun _ => rfl, by rw [if_neg (by decide)]; omega, .of (Same.refl H1)⟩
  cases stg with
  | s0 h =>
    rename_i dk ml am dx q l qm
    obtain ⟨v0, hv, dv⟩ := co.k4.w ix hix
    obtain ⟨dm, hm⟩ := co.D.ob
    refine ⟨_, rfl, rfl, _, rfl, iteD rfl ?_⟩
    refine ⟨_, rfl, m, dm, _, rfl, hm, rfl, _, rfl, _, _, rfl, rfl, m, 2, 3, 30, 5 + ix, A, X, v0, (by rw [e5]; rfl), co.D, by omega, hv, ?_⟩
    refine ⟨_, rfl, m, M, dm, _, _, rfl, hm, TM.cl, TM.nC, rfl, _, _, rfl, rfl, ?_⟩
    refine ⟨_, rfl, rfl, _, rfl, iteND (by decide) ?_⟩
    refine r3 De a tp la m k ms ix pl 0 B v6 v0 (.int 0) (X.count + 1) v12 v13 v14 v15 v16 (W ix) H A X W T true (fun H' A' X' => Stg K S CS gw gs tp k ix H' (Foot m A' 35) 1 v0 (.int 0) (X.count + 1)) (by decide) hB co dv.d rfl ⟨dk, _, h.fk.1, rfl⟩ (fun H1 Q s1 kQ => ?_) (fun v13 v14 v15 v16 H1 H' H2 A' X' s1 s2 po pp => ?_)
    · have h1 := h.mv (Mv.same s1) (.of s1)
      have hne := hne H (ml := ml) (a := am) (l := l) co.tp.1 h.fk.1 h.fa.1 h.d1 h.d2
      have ls := fun (H' : Hp) (A' : Adr) (X' : MS) (af : Aft C M H1 H' m A A' X X' B k ml am l) => lists s1 af ⟨_, h.fk.1⟩ ⟨_, h.fml.1⟩ ⟨_, h.fa.1⟩ ⟨_, h.fl.1⟩
      refine kst0 hc (co.D.same s1) co.so (by omega) (by omega) h1 fiw FRw hv (DV.ext s1 _ _ dv.d) ⟨_, s1 _ _ co.tp.1, co.tp.2⟩ (fun H' A' X' u x hx af se => ?_) (fun H' A' X' q' l' qm' d s0 o n s' hw hs' af stk => ?_) (fun d s0 o n hw => ⟨20 + ix, by rw [e20]; exact co.k4.m ix hix d s0 o n hw⟩)
      · refine kQ H' A' X' (post s1 rfl af hne) (ls H' A' X' af) (.sA (x := x) ?_ se)
        rw [← hx]
        exact DV.extT af.x _ _ (DV.ext s1 _ _ dv.d)
      · have em := co.k4.m ix hix d s0 o n hw
        have es : s' = 20 + ix := by omega
        subst es
        have dv' := dv.d
        rw [hw, em] at dv'
        obtain ⟨mp, rfl, hmp⟩ := wd_mark dv'
        exact kQ H' A' X' (post s1 rfl af hne) (ls H' A' X' af) (.sM ((hmp.same s1).extT af.x) stk)
    · rw [if_pos rfl]
      exact kN v0 _ _ v13 v14 v15 v16 H2 A' X' (po.c.same s2) (pp.mv (Mv.same s2) (.of s2))
  | sA dv h =>
    rename_i x dk ml u
    have ev := wd_addr dv
    subst ev
    refine ⟨_, rfl, rfl, _, rfl, iteND (by decide) ?_⟩
    refine ⟨_, rfl, rfl, _, rfl, iteD rfl ⟨_, rfl, _, _, _, _, false, rfl, .ty "tuple", .base (.int x), kit_ty (by decide +kernel), _, rfl, iteF ?_⟩⟩
    refine r3 De a tp la m k ms ix pl 1 B v6 (.int x) (.int 0) fi v12 v13 v14 v15 v16 (.addr x) H A X W T false (fun H' A' X' => StkE S H' (Foot m A' 35) k dk ml u [.int x, .int fi, .non]) (by decide) hB co dv rfl ⟨dk, _, h.fk.1, rfl⟩ (fun H1 Q s1 kQ => ?_) (fun v13 v14 v15 v16 H1 H' H2 A' X' s1 s2 po pp => ?_)
    · have h1 := h.mv (Mv.same s1) (.of s1)
      exact kstE (co.D.same s1) co.so (by omega) h1 (kQ H1 A X (ended s1) (fun D xs nD hD => hD) h1)
    · rw [if_neg (by decide)]
      exact kB _ _ _ v13 v14 v15 v16 H2 A' X' (po.c.same s2) ⟨.addr x, .zero, dk, ml, u, .sc (t := "int") rfl, .sc (t := "int") rfl, trivial, pp.mv (Mv.same s2) (.of s2)⟩
  | sM dv h =>
    rename_i mp dk ml am dx q l qm d o n
    obtain ⟨sv0, hu, du⟩ := co.k4.t ix hix
    refine ⟨_, rfl, rfl, _, rfl, iteND (by decide) ?_⟩
    refine ⟨_, rfl, rfl, _, rfl, iteD rfl ⟨_, rfl, _, _, _, _, true, rfl, .ty "tuple", tyT dv, kit_ty (by decide +kernel), _, rfl, iteT ?_⟩⟩
    refine ⟨_, rfl, m, dm, _, rfl, hm, rfl, _, rfl, mp, _, 1, _, rfl, rfl, dv, rfl, m, 2, 3, 30, 20 + ix, A, X, sv0, (by rw [e20]; rfl), co.D, by omega, hu, ?_⟩
    have dvm : DV K H (.ref mp) (Wd.mark d (20 + (ix : Int)) o n).tr := .tup dv (.cons (.sc (t := "int") rfl) (.cons (.sc (t := "int") rfl) (.cons (.sc (t := "int") rfl) (.cons (.sc (t := "int") rfl) .nil))))
    refine r3 De a tp la m k ms ix pl 1 B v6 (.ref mp) sv0 fi v12 v13 v14 v15 v16 (.mark d (20 + (ix : Int)) o n) H A X W T true (fun H' A' X' => Stg K S CS gw gs tp k ix H' (Foot m A' 35) 2 (.ref mp) sv0 fi) (by decide) hB co dvm rfl ⟨dk, _, h.fk.1, rfl⟩ (fun H1 Q s1 kQ => ?_) (fun v13 v14 v15 v16 H1 H' H2 A' X' s1 s2 po pp => ?_)
    · have h1 := h.mv (Mv.same s1) (.of s1)
      have hne := hne H (ml := ml) (a := am) (l := l) co.tp.1 h.fk.1 h.fa.1 h.d1 h.d2
      refine kst1 (st := T ix) hc (co.D.same s1) co.so (by omega) (by omega) h1 fis FRs (dv.same s1) hu (DV.ext s1 _ _ du.d) (co.k4.k ix hix) fun H' A' X' u af se => ?_
      exact kQ H' A' X' (post s1 rfl af hne) (lists s1 af ⟨_, h.fk.1⟩ ⟨_, h.fml.1⟩ ⟨_, h.fa.1⟩ ⟨_, h.fl.1⟩) (.sE (DV.extT af.x _ _ (DV.ext s1 _ _ dvm)) (DV.extT af.x _ _ (DV.ext s1 _ _ du.d)) (co.k4.k ix hix) se)
    · rw [if_pos rfl]
      exact kN _ _ _ v13 v14 v15 v16 H2 A' X' (po.c.same s2) (pp.mv (Mv.same s2) (.of s2))
  | sE dv ds ok h =>
    rename_i d s0 o n st dk ml u
    refine ⟨_, rfl, rfl, _, rfl, iteND (by decide) ?_⟩
    refine ⟨_, rfl, rfl, _, rfl, iteND (by decide) ?_⟩
    refine r3 De a tp la m k ms ix pl 2 B v6 v sv fi v12 v13 v14 v15 v16 (.mark d s0 o n) H A X W T false (fun H' A' X' => StkE S H' (Foot m A' 35) k dk ml u (shRes st fi s0 o n) ∧ DV K H' v (Wd.mark d s0 o n).tr ∧ DV K H' sv st.tr) (by decide) hB co dv rfl ⟨dk, _, h.fk.1, rfl⟩ (fun H1 Q s1 kQ => ?_) (fun v13 v14 v15 v16 H1 H' H2 A' X' s1 s2 po pp => ?_)
    · have h1 := h.mv (Mv.same s1) (.of s1)
      exact kstE (co.D.same s1) co.so (by omega) h1 (kQ H1 A X (ended s1) (fun D xs nD hD => hD) ⟨h1, DV.ext s1 _ _ dv, DV.ext s1 _ _ ds⟩)
    · rw [if_neg (by decide)]
      exact kB _ _ _ v13 v14 v15 v16 H2 A' X' (po.c.same s2) ⟨.mark d s0 o n, st, dk, ml, u, DV.ext s2 _ _ pp.2.1, DV.ext s2 _ _ pp.2.2, ok, pp.1.mv (Mv.same s2) (.of s2)⟩
end
end Dk

set_option maxHeartbeats 4000000
/-! the law k04: a whole step, a turn -/
namespace Dk
open PySem PySem.Spec PyProof.Rows L2
section
variable {P : Program} {w : World} {K : PySem.W.Frag} {mg : Str → Option Value} {base : Heap} {C M S CS gw gs fa : Addr}
theorem law_s0 {f : Addr} {cdv : Value} {A0 : Around} {outer : List Env} {s : Shared} {Hs : Hp} {E : XK} (hr : Room 18 (A0.deeper (envOfC "law" (defScope sLaw) s.heap.objs.size f cdv))) (B0 : Bn mg) (TL : LTxt K mg C) (TM : MTxt K M) (TK : KTx K S)
    (GPk : MO P w K mg base CX0 M 8 "peek" ["self", "cell"] (spPeek C M)) (GCe : MO P w K mg base CX0 C 5 "cells" ["self"] (spL0 C fun t w r => .int (cells t w r))) (GSt : MO P w K mg base CX0 S 18 "step" ["self", "memory", "thread"] (spKStep P w K mg base 6 S C M))
    (hc : HCl P w K mg base CS fa) (fiw : PySem.W.fnIn K gw = true) (FRw : FnR P w K mg base CX0 4 gw (spShWord K CS gs)) (fis : PySem.W.fnIn K gs = true) (FRs : FnR P w K mg base CX0 4 gs (spShStat K CS))
    (GAt : GO P w K mg base CX0 1 "_law_at" ["tape", "k"] (spAt K)) (GCh : GO P w K mg base CX0 12 "_law_change" ["memory", "number", "pick"] (spChange K C M)) (GLn : GO P w K mg base CX0 10 "_law_now" ["memory", "index"] (spLNow K C M)) :
    ∃ t0, PSs (cxOf CX0 P w K mg base NLw "law" (defScope sLaw) f cdv A0 outer s Hs E).nox stepB t0 ∧
      ∀ (De : Ends) (a tp la m k : Addr) (ms : List Int) (ix pl i B : Nat) (v6 : Option V) (v sv : V) (fi : Int) (v12 v13 v14 v15 v16 : Option V) (H : Hp) (A : Adr) (X : MS) (W : Nat → Wd) (T : Nat → Sta), ix < 3 → i < 3 → B < 80000 → Small ms →
        Co K C M H m la tp ms A X B W T → Stg K S CS gw gs tp k ix H (Foot m A 35) i v sv fi →
        (∀ (v' sv' : V) (f' : Int) (v12 v13 v14 v15 v16 : Option V) (H' : Hp) (A' : Adr) (X' : MS) (W' : Nat → Wd) (T' : Nat → Sta), Co K C M H' m la tp ms A' X' (B + 12) W' T' → Stg K S CS gw gs tp k ix H' (Foot m A' 35) (i + 1) v' sv' f' → De.nx (sl a tp la m ix pl v6 k v' sv' f' i v12 v13 v14 v15 v16) H') →
        (∀ (v' sv' : V) (f' : Int) (v12 v13 v14 v15 v16 : Option V) (H' : Hp) (A' : Adr) (X' : MS) (W' : Nat → Wd) (T' : Nat → Sta), Co K C M H' m la tp ms A' X' (B + 12) W' T' → Fin4 K S k H' (Foot m A' 35) v' sv' f' → De.bk (sl a tp la m ix pl v6 k v' sv' f' i v12 v13 v14 v15 v16) H') →
        t0 De (sl a tp la m ix pl v6 k v sv fi i v12 v13 v14 v15 v16) H := by
  have nd := scLaw.nd
  have hr1 : Room 1 _ := hr.mono (by decide)
  have hr10 : Room 10 _ := hr.mono (by decide)
  have hr12 : Room 12 _ := hr.mono (by decide)
  obtain ⟨t1, hp1, r1⟩ := law_s1 (C := C) (w := w) (f := f) (cdv := cdv) (A0 := A0) (outer := outer) (s := s) (Hs := Hs) (E := E) hr B0 TL TM TK GPk GCe GSt hc fiw FRw fis FRs
  refine ⟨_, (pss_cons (ps_for PassesOwn.never rfl (pi_range1 (by rfl) B0.range (pa_cons (pe_op op_mod (pc_ GAt hr1 (pa_cons (pv 1) (pa_cons (pe_op op_add (pe_op op_add (pv 5) pe_int) (pv 11)) pa_nil))) pe_int) pa_nil)) (pg_name (i := 12) nd rfl (Or.inl rfl))
  (pss_cons (ps_expr (pc_ GCh hr12 (pa_cons (pv 3) (pa_cons (pc_ GAt hr1 (pa_cons (pv 1) (pa_cons (pe_op op_add (pe_op op_add (pe_op op_add (pv 5) pe_int) (pv 11)) (pe_op op_mul pe_int (pv 12))) pa_nil))) (pa_cons (pc_ GAt hr1 (pa_cons (pv 1) (pa_cons (pe_op op_add (pe_op op_add (pe_op op_add (pv 5) pe_int) (pv 11)) (pe_op op_mul pe_int (pv 12))) pa_nil))) pa_nil)))))
  (pss_one (ps_if (pt_not (pt_val (pc_ GLn hr10 (pa_cons (pv 3) (pa_cons (pv 4) pa_nil)))))
  (pss_one (ps_ret pe_bl))
  pss_nil))))
  hp1), ?_⟩
  intro De a tp la m k ms ix pl i B v6 v sv fi v12 v13 v14 v15 v16 H A X W T hix hi hB sm co stg kN kB
  refine ⟨_, rfl, _, rfl, _, _, rfl, rfl, _, rfl, _, _, rfl, rfl, tp, ms, pl + 1 + i, rfl, SqL.of co.tp.1, _, _, rfl, rfl, (by show (0 : Int) < 6; decide), ?_⟩
  obtain ⟨N, hN, hN6⟩ : ∃ N : Nat, atD ms (pl + 1 + i) % 6 = (N : Int) ∧ N < 6 := ⟨(atD ms (pl + 1 + i) % 6).toNat, by omega, by omega⟩
  refine ⟨_, rfl, by omega, by omega, ?_⟩
  rw [hN]
  refine for_range (lo := 0) (n := (N : Int).toNat) (fun j σ H' => ∃ (v12' : Option V) (A' : Adr) (X' : MS) (W' : Nat → Wd) (T' : Nat → Sta), σ = sl a tp la m ix pl v6 k v sv fi i v12' v13 v14 v15 v16 ∧ Co K C M H' m la tp ms A' X' (B + 2 * j) W' T' ∧ Mv (Foot m A 35) H (Foot m A' 35) H' ∧ ExT H H') ⟨v12, A, X, W, T, rfl, co, Mv.same (Same.refl H), .of (Same.refl H)⟩ ?_ ?_
  · rintro j σ H' hj ⟨v12', A1, X1, W1, T1, rfl, co1, mv1, ex1⟩
    have hj : j < 6 := by omega
    have ez : (0 : Int) + (j : Int) = (j : Int) := by omega
    rw [ez]
    have nn : ∀ z, 0 ≤ atD ms z := fun z => (atD_small sm).1
    refine ⟨_, rfl, _, rfl, _, rfl, _, _, rfl, rfl, _, rfl, _, _, rfl, rfl, _, rfl, _, _, rfl, rfl, .inl ⟨by decide, by decide⟩, _, _, rfl, rfl, tp, ms, pl + 4 + i + 2 * j, rfl, SqL.of co1.tp.1, ?_⟩
    refine ⟨_, rfl, _, rfl, _, _, rfl, rfl, _, rfl, _, _, rfl, rfl, _, rfl, _, _, rfl, rfl, .inl ⟨by decide, by decide⟩, _, _, rfl, rfl, tp, ms, pl + 5 + i + 2 * j, rfl, SqL.of co1.tp.1, ?_⟩
    refine ⟨m, _, _, A1, X1, B + 2 * j, W1, T1, rfl, nn _, nn _, co1.D, co1.so, by omega, co1.k4, fun H2 A2 X2 W2 T2 ea2 D2 so2 k42 st2 => ?_⟩
    have mv2 := Mv.step st2
    have ex2 := st2.ext co1.D
    have co2 : Co K C M H2 m la tp ms A2 X2 (B + 2 * (j + 1)) W2 T2 := ⟨D2, by rw [show B + 2 * (j + 1) = B + 2 * j + 2 by omega]; exact so2, k42, co1.tp.mv mv2, ea2.trans co1.la⟩
    refine ⟨_, rfl, _, rfl, m, ix, A2, X2, W2, T2, rfl, hix, D2, k42, fun H3 s3 => ⟨_, rfl, iteF ?_⟩⟩
    exact ⟨_, A2, X2, W2, T2, rfl, co2.same s3, (mv1.trans mv2).trans (Mv.same s3), (ex1.trans ex2).trans (.of s3)⟩
  · rintro σ H' ⟨v12', A1, X1, W1, T1, rfl, co1, mv1, ex1⟩
    have co2 : Co K C M H' m la tp ms A1 X1 (B + 10) W1 T1 := ⟨co1.D, co1.so.mono (by omega), co1.k4, co1.tp, co1.la⟩
    exact r1 De a tp la m k ms ix pl i (B + 10) v6 v sv fi v12' v13 v14 v15 v16 H' A1 X1 W1 T1 hix hi (by omega) co2 (stg.mv mv1 ex1) (fun v' sv' f' v13 v14 v15 v16 H' A' X' c st => kN v' sv' f' _ v13 v14 v15 v16 H' A' X' W1 T1 c st) (fun v' sv' f' v13 v14 v15 v16 H' A' X' c st => kB v' sv' f' _ v13 v14 v15 v16 H' A' X' W1 T1 c st)
end
end Dk

set_option maxHeartbeats 4000000
/-! the law k04 -/
namespace Dk
open PySem PySem.Spec PyProof.Rows L2
theorem made_same {H : Hp} {x dx C : Addr} (nx : H x = none) (nd : H dx = none) : Same H (upd (upd H dx (.own x)) x (.ins C dx [])) := fun b o e => by rw [upd_ne (ne_of_none e nx), upd_ne (ne_of_none e nd)]; exact e
theorem shown_dp {K : PySem.W.Frag} (wd : Wd) (st : Sta) (f : Int) : ∃ d, SeqAt.shaped d = true ∧ ∀ (H : Hp) (u : Addr), H u = some (.tup (shown3 wd st f)) → Dp K H (.ref u) d := by
  have h3 : ∀ a b c : Int, ∃ d, SeqAt.shaped d = true ∧ ∀ (H : Hp) (u : Addr), H u = some (.tup [.int a, .int b, .int c]) → Dp K H (.ref u) d := fun a b c =>
    ⟨.tuple [.int a, .int b, .int c], rfl, fun H u h => .tup (SqT.of h) (.cons (.int _) (.cons (.int _) (.cons (.int _) .nil)))⟩
  have h2 : ∀ a b : Int, ∃ d, SeqAt.shaped d = true ∧ ∀ (H : Hp) (u : Addr), H u = some (.tup [.int a, .int b, .non]) → Dp K H (.ref u) d := fun a b =>
    ⟨.tuple [.int a, .int b, .none], rfl, fun H u h => .tup (SqT.of h) (.cons (.int _) (.cons (.int _) (.cons .non .nil)))⟩
  cases wd with
  | addr a => exact h2 a f
  | mark d s o n =>
    show ∃ d, SeqAt.shaped d = true ∧ ∀ (H : Hp) (u : Addr), H u = some (.tup (shRes st f s o n)) → Dp K H (.ref u) d
    unfold shRes
    cases st.done
    · exact h2 _ _
    · exact h3 _ _ _
def spLaw (K : PySem.W.Frag) : Sp := fun vs H Q _ => ∃ (a : Addr) (ns : List Int), vs = [.ref a] ∧ SqL K H a (ns.map V.int) ∧ ns.length ≤ 63 ∧ ∀ H', Q (.bl true) H'
theorem so0 {t n : Nat} {tr : Nat → List V} (hI : ∀ j, j < n → ∃ v, tr j = [v]) : SOk (S0 t tr) t n 0 := by
  refine ⟨?_, fun j hj => ?_, fun j hj => ?_, fun th hth => ⟨[], ?_, ?_, ?_⟩, ?_⟩
  · show (V.int 0 :: List.replicate t V.non).length = 1 + t
    rw [List.length_cons, List.length_replicate]
    omega
  · obtain ⟨v, hv⟩ := hI j hj
    show tr j ≠ []
    rw [hv]; simp
  · obtain ⟨v, hv⟩ := hI j hj
    show (tr j).length ≤ 1
    rw [hv]; simp
  · show (List.replicate t ([] : List (Key × V)))[th]? = _
    rw [List.getElem?_replicate, if_pos hth]
    rfl
  · simp
  · simp
  · show ([] : List V).length ≤ 0
    simp
section
variable {P : Program} {w : World} {K : PySem.W.Frag} {mg : Str → Option Value} {base : Heap} {C M S CS gw gs fa NV Z Z1 fSk fSh fL fM : Addr} {fdSk fdSh fdL fdM : FuncData}
theorem law_turn {f : Addr} {cdv : Value} {A0 : Around} {outer : List Env} {s : Shared} {Hs : Hp} {E : XK} (hr : Room 18 (A0.deeper (envOfC "law" (defScope sLaw) s.heap.objs.size f cdv))) (B0 : Bn mg) (TL : LTxt K mg C) (TM : MTxt K M) (TK : KTx K S)
    (GPk : MO P w K mg base CX0 M 8 "peek" ["self", "cell"] (spPeek C M)) (GCe : MO P w K mg base CX0 C 5 "cells" ["self"] (spL0 C fun t w r => .int (cells t w r))) (GSt : MO P w K mg base CX0 S 18 "step" ["self", "memory", "thread"] (spKStep P w K mg base 6 S C M))
    (hc : HCl P w K mg base CS fa) (fiw : PySem.W.fnIn K gw = true) (FRw : FnR P w K mg base CX0 4 gw (spShWord K CS gs)) (fis : PySem.W.fnIn K gs = true) (FRs : FnR P w K mg base CX0 4 gs (spShStat K CS))
    (GAt : GO P w K mg base CX0 1 "_law_at" ["tape", "k"] (spAt K)) (GCh : GO P w K mg base CX0 12 "_law_change" ["memory", "number", "pick"] (spChange K C M)) (GLn : GO P w K mg base CX0 10 "_law_now" ["memory", "index"] (spLNow K C M)) (GLs : GO P w K mg base CX0 1 "_law_shown" ["value", "status", "first"] (spLShown K))
    (gSk : mg "Stack" = some (.ref S)) (MSk : Mk K S fSk) (FSk : FnOk P w K mg base CX0 1 fSk fdSk ["self", "machine"] (spKInit S)) (bSk : Binds K fdSk ["self", "machine"] []) (gSh : mg "Shown" = some (.ref CS)) (MSh : Mk K CS fSh) (FSh : FnOk P w K mg base CX0 4 fSh fdSh ["self", "layout", "index"] (spShInit C CS gw)) (bSh : Binds K fdSh ["self", "layout", "index"] [])
    (GEn : MO P w K mg base CX0 S 1 "ended" ["self"] (spKEnded S)) (GVa : MO P w K mg base CX0 S 1 "value" ["self"] (spKValue S)) :
    ∃ tt, PSs (cxOf CX0 P w K mg base NLw "law" (defScope sLaw) f cdv A0 outer s Hs E).nox turnB tt ∧
      ∀ (De : Ends) (a tp la m : Addr) (ms : List Int) (pl B : Nat) (v4 v6 v7 v8 v9 v10 v11 v12 v13 v14 v15 v16 : Option V) (H : Hp) (A : Adr) (X : MS) (W : Nat → Wd) (T : Nat → Sta), B < 70000 → Small ms → Co K C M H m la tp ms A X B W T →
        (∀ (v4 v7 v8 v9 v10 v11 v12 v13 v14 v15 v16 : Option V) (H' : Hp) (A' : Adr) (X' : MS) (W' : Nat → Wd) (T' : Nat → Sta), Co K C M H' m la tp ms A' X' (B + 36) W' T' → De.nx [some (.ref a), some (.ref tp), some (.ref la), some (.ref m), v4, some (.int ((pl + 9 : Nat) : Int)), v6, v7, v8, v9, v10, v11, v12, v13, v14, v15, v16] H') →
        tt De [some (.ref a), some (.ref tp), some (.ref la), some (.ref m), v4, some (.int (pl : Int)), v6, v7, v8, v9, v10, v11, v12, v13, v14, v15, v16] H := by
  have nd := scLaw.nd
  have hr1 : Room 1 _ := hr.mono (by decide)
  have hrK : Room (1 + 1) _ := hr.mono (by decide)
  have hrSh : Room (4 + 1) _ := hr.mono (by decide)
  obtain ⟨t0, hp0, r0⟩ := law_s0 (C := C) (w := w) (f := f) (cdv := cdv) (A0 := A0) (outer := outer) (s := s) (Hs := Hs) (E := E) hr B0 TL TM TK GPk GCe GSt hc fiw FRw fis FRs GAt GCh GLn
  have htail : PSs (cxOf CX0 P w K mg base NLw "law" (defScope sLaw) f cdv A0 outer s Hs E).nox (turnB.drop 6) _ := (pss_cons (ps_if (PW.pt (pw_or (pt_not (pt_val (pm0_ GEn TK.cl hr1 (pv 7)))) (pw_or1 (pt_cmpR (op_neD hr.units) (pm0_ GVa TK.cl hr1 (pv 7)) (pc_ GLs hr1 (pa_cons (pv 8) (pa_cons (pv 9) (pa_cons (pv 10) pa_nil)))) (nomark _)))))
  (pss_one (ps_ret pe_bl))
  pss_nil)
  (pss_one (ps_set (i := 5) nd rfl (Or.inl rfl) (pe_op op_add (pv 5) pe_int))))
  have hloop : PSs (cxOf CX0 P w K mg base NLw "law" (defScope sLaw) f cdv A0 outer s Hs E).nox (turnB.drop 5) _ := pss_cons (ps_for PassesOwn.never rfl (pi_range1 (by rfl) B0.range (pa_cons pe_int pa_nil)) (pg_name (i := 11) nd rfl (Or.inl rfl)) hp0) htail
  refine ⟨_, (pss_cons (ps_set (i := 4) nd rfl (Or.inl rfl) (pe_op op_mod (pc_ GAt hr1 (pa_cons (pv 1) (pa_cons (pv 5) pa_nil))) pe_int))
  (pss_cons (ps_set (i := 7) nd rfl (Or.inl rfl) (pe_make MSk FSk hrK rfl gSk bSk .nil pass0 (pa_cons (pe_make MSh FSh hrSh rfl gSh bSh .nil pass0 (pa_cons (pv 2) (pa_cons (pv 4) pa_nil))) pa_nil)))
  (pss_cons (ps_set (i := 8) nd rfl (Or.inl rfl) pe_non)
  (pss_cons (ps_set (i := 9) nd rfl (Or.inl rfl) pe_int)
  (pss_cons (ps_set (i := 10) nd rfl (Or.inl rfl) pe_int)
  hloop))))), ?_⟩
  intro De a tp la m ms pl B v4 v6 v7 v8 v9 v10 v11 v12 v13 v14 v15 v16 H A X W T hB sm co kD
  refine ⟨_, rfl, _, rfl, tp, ms, pl, rfl, SqL.of co.tp.1, _, _, rfl, rfl, (by show (0 : Int) < 3; decide), ?_⟩
  show gName 4 (V.int (atD ms pl % 3)) _ _ _
  have nn := (atD_small (k := pl) sm).1
  obtain ⟨ix, hix, hix3⟩ : ∃ ix : Nat, atD ms pl % 3 = (ix : Int) ∧ ix < 3 := ⟨(atD ms pl % 3).toNat, by omega, by omega⟩
  rw [hix]
  obtain ⟨da, hla⟩ := co.D.lay
  rw [co.la] at hla
  -- the machine
  refine ⟨_, rfl, _, rfl, fun am dx na nd' ne => ?_⟩
  have s1 := made_same (C := CS) na nd'
  refine ⟨am, dx, la, 2, 3, 30, ix, rfl, upd_same, ⟨da, s1 _ _ hla⟩, fun H1 q l qm nq nl nqm ma hq hqm kp => ⟨rfl, ?_⟩⟩
  have s2 : Same H H1 := fun b o h => kp b o (s1 b o h) (ne_of_none h na)
  -- the stack
  intro k dk nk ndk ne2
  have s3 := made_same (C := S) nk ndk
  refine ⟨k, dk, am, rfl, upd_same, fun H2 ml nml hk kp2 => ⟨rfl, ?_⟩⟩
  have s4 : Same H1 H2 := fun b o h => kp2 b o (s3 b o h) (ne_of_none h nk)
  have s24 := s2.trans s4
  have nf : ∀ b, H b = none → ¬ Foot m A 35 b := fun b h hf => by obtain ⟨u, hu⟩ := foot_some co.D hf; rw [h] at hu; cases hu
  have fl : ∀ b, upd (upd H dx (.own am)) am (.ins CS dx []) b = none → H b = none := fun b h => s1.free h
  have ma4 := ma.same s4
  have hq4 : H2 q = some (.tup [.str "read", .int ((5 + ix : Nat) : Int)]) := by
    rw [s4 _ _ hq]
    refine congrArg some (congrArg HO.tup ?_)
    rw [show (1 : Int) + 2 + 2 + (ix : Int) = ((5 + ix : Nat) : Int) by omega]
  have stk : Stk0 S CS H2 (Foot m A 35) tp k dk ml am dx q l qm gw (5 + ix) .non 0 := ⟨⟨hk.ob, nf _ (s2.free nk)⟩, ⟨hk.l, nf _ (s2.free (s3.free nml))⟩, ⟨ma4.ob, nf _ na⟩, ⟨ma4.lf, nf _ (fl _ nl)⟩, hq4, ⟨s4 _ _ hqm, nf _ (fl _ nqm)⟩, ne_of_none (s3 _ _ (s2 _ _ co.tp.1)) nml, ne_of_none (s1 _ _ co.tp.1) nl⟩
  have co2 := co.same s24
  refine ⟨3, rfl, by decide, by decide, for_range (lo := 0) (n := 3) (fun i σ H' => ∃ (v sv : V) (fi : Int) (v11 v12 v13 v14 v15 v16 : Option V) (A' : Adr) (X' : MS) (W' : Nat → Wd) (T' : Nat → Sta), σ = [some (.ref a), some (.ref tp), some (.ref la), some (.ref m), some (.int (ix : Int)), some (.int (pl : Int)), v6, some (.ref k), some v, some sv, some (.int fi), v11, v12, v13, v14, v15, v16] ∧ Co K C M H' m la tp ms A' X' (B + 12 * i) W' T' ∧ Stg K S CS gw gs tp k ix H' (Foot m A' 35) i v sv fi)
    ⟨.non, .int 0, 0, _, _, _, _, _, _, A, X, W, T, rfl, co2, .s0 stk⟩ ?_ ?_⟩
  · rintro i σ H' hi ⟨v, sv, fi, v11, v12, v13, v14, v15, v16, A1, X1, W1, T1, rfl, co1, stg1⟩
    have hi : i < 3 := hi
    have ez : (0 : Int) + (i : Int) = (i : Int) := by omega
    rw [ez]
    refine r0 _ a tp la m k ms ix pl i (B + 12 * i) v6 v sv fi v12 v13 v14 v15 v16 H' A1 X1 W1 T1 hix3 hi (by omega) sm co1 stg1 (fun v' sv' f' v12 v13 v14 v15 v16 H' A' X' W' T' c st => ?_) (fun v' sv' f' v12 v13 v14 v15 v16 H' A' X' W' T' c fn => ?_)
    · exact ⟨v', sv', f', _, _, _, _, _, _, A', X', W', T', rfl, by rw [show B + 12 * (i + 1) = B + 12 * i + 12 by omega]; exact c, st⟩
    · obtain ⟨wd, st, dk, ml, u, dv, ds, ok, se⟩ := fn
      refine ⟨_, rfl, k, dk, _, rfl, se.fk.1, rfl, k, dk, ml, [], .ref u, rfl, ⟨se.fk.1, se.fml.1⟩, _, rfl, iteF ?_⟩
      refine ⟨_, rfl, k, dk, _, rfl, se.fk.1, rfl, k, dk, ml, [], .ref u, rfl, ⟨se.fk.1, se.fml.1⟩, _, rfl, _, rfl, _, rfl, v', sv', f', wd, st, rfl, dv, ds, ok, fun H3 p np s3 hp => ?_⟩
      obtain ⟨d, hd, hdp⟩ := shown_dp (K := K) wd st f'
      refine ⟨d, d, hdp _ _ (s3 _ _ se.fu), hdp _ _ hp, hd, hd, _, rfl, iteC (by rw [eqv_sh hd]; rfl) ?_⟩
      refine ⟨_, rfl, _, _, rfl, rfl, ?_⟩
      have c3 := c.same s3
      exact kD _ _ _ _ _ _ _ _ _ _ _ H3 A' X' W' T' ⟨c3.D, c3.so.mono (by omega), c3.k4, c3.tp, c3.la⟩
  · rintro σ H' ⟨v, sv, fi, v11, v12, v13, v14, v15, v16, A1, X1, W1, T1, rfl, co1, stg1⟩
    cases stg1
end
end Dk

set_option maxHeartbeats 4000000
/-! the law k04: the whole -/
namespace Dk
open PySem PySem.Spec PyProof.Rows L2
def ZAt (K : PySem.W.Frag) (Z : Addr) : Prop := ∀ H, ∃ Z1, SqT K H Z [.str "items", .ref Z1] ∧ SqT K H Z1 []
structure Pre (K : PySem.W.Frag) (H : Hp) (X : MS) (n : Nat) : Prop where
  a : ∀ c, c < 38 → ∃ u, CellIs K H X 2 c u ∧ Nice u
  w : ∀ i, i < 3 → CellIs K H X 2 (5 + i) (Wd.addr (8 + (i : Int))).tr
  t : ∀ i, i < n → CellIs K H X 2 (20 + i) Sta.zero.tr
theorem Pre.ext {K : PySem.W.Frag} {H H' : Hp} {X : MS} {n : Nat} (h : Pre K H X n) (s : ExT H H') : Pre K H' X n := ⟨fun c hc => let ⟨u, a, b⟩ := h.a c hc; ⟨u, a.ext s, b⟩, fun i hi => (h.w i hi).ext s, fun i hi => (h.t i hi).ext s⟩
theorem pre0 {K : PySem.W.Frag} {H : Hp} {Z : Addr} {tr : Nat → List V} (hZ : ZAt K Z) (hI : ∀ j, j < 35 → ∃ v, tr j = [v] ∧ Init Z 2 3 30 3 j v) : Pre K H (S0 2 tr) 0 := by
  have cl : ∀ c, 3 ≤ c → c < 38 → ∃ v, cellV (S0 2 tr) 2 c = some v ∧ Init Z 2 3 30 3 (c - 3) v := fun c h1 h2 => by
    obtain ⟨v, e, h⟩ := hI (c - 3) (by omega)
    refine ⟨v, ?_, h⟩
    unfold cellV
    rw [if_neg (by omega)]
    show (tr (c - 3)).getLast? = some v
    rw [e]; rfl
  have sc : ∀ {v : V} {t : String}, vty v = some t → Nice (.sc v) → Dvl K H v (.sc v) := fun {v t} e n => n.dvl (.sc e)
  obtain ⟨Z1, z1, z2⟩ := hZ H
  have dZ : Dvl K H (.ref Z) (.tup [.sc (.str "items"), .tup []]) := nice_items.dvl (.tup z1 (.cons (.sc (t := "str") rfl) (.cons (.tup z2 .nil) .nil)))
  refine ⟨fun c hc => ?_, fun i hi => ?_, fun i hi => absurd hi (by omega)⟩
  · by_cases h3 : c < 3
    · have : c = 0 ∨ c = 1 ∨ c = 2 := by omega
      rcases this with rfl | rfl | rfl
      · exact ⟨_, ⟨.int 0, rfl, sc (t := "int") rfl (nice_int 0)⟩, nice_int 0⟩
      · exact ⟨_, ⟨.non, rfl, sc (t := "NoneType") rfl nice_non⟩, nice_non⟩
      · exact ⟨_, ⟨.non, rfl, sc (t := "NoneType") rfl nice_non⟩, nice_non⟩
    · obtain ⟨v, hv, hi⟩ := cl c (by omega) hc
      unfold Init at hi
      split at hi
      · subst hi
        exact ⟨_, ⟨_, hv, sc (t := "int") rfl (nice_int _)⟩, nice_int _⟩
      · split at hi
        · subst hi
          exact ⟨_, ⟨_, hv, dZ⟩, nice_items⟩
        · subst hi
          exact ⟨_, ⟨_, hv, sc (t := "NoneType") rfl nice_non⟩, nice_non⟩
  · obtain ⟨v, hv, h⟩ := cl (5 + i) (by omega) (by omega)
    unfold Init at h
    rw [if_pos (by omega)] at h
    subst h
    refine ⟨_, hv, ?_⟩
    have e : ((1 + 2 + (5 + i - 3) + 3 : Nat) : Int) = 8 + (i : Int) := by omega
    rw [e]
    exact sc (t := "int") rfl (nice_int _)
theorem Pre.k4 {K : PySem.W.Frag} {H : Hp} {X : MS} (h : Pre K H X 3) : K4 K H X (fun i => .addr (8 + (i : Int))) (fun _ => .zero) := ⟨h.a, h.w, (by intro _ _ _ _ _ _ z; cases z), h.t, fun _ _ => trivial⟩
section
variable {P : Program} {w : World} {K : PySem.W.Frag} {mg : Str → Option Value} {base : Heap} {C M S CS gw gs fa NV Z fSk fSh fL fM : Addr} {fdSk fdSh fdL fdM : FuncData}
theorem ok_law {f : Addr} {fd : FuncData} (F : Fun K "law" "law" sLaw f fd) (B0 : Bn mg) (TL : LTxt K mg C) (TM : MTxt K M) (TK : KTx K S) (hZ : ZAt K Z)
    (gC : mg "Layout" = some (.ref C)) (ML : Mk K C fL) (FL : FnOk P w K mg base (L2.CX P w) 3 fL fdL ["self", "threads", "words", "records"] (spLInit C NV)) (bL : Binds K fdL ["self", "threads", "words", "records"] [])
    (gM : mg "Memory" = some (.ref M)) (MM : Mk K M fM) (FM : FnOk P w K mg base CX0 7 fM fdM ["self", "layout"] (spMInit C M Z)) (bM : Binds K fdM ["self", "layout"] [])
    (GPk : MO P w K mg base CX0 M 8 "peek" ["self", "cell"] (spPeek C M)) (GCe : MO P w K mg base CX0 C 5 "cells" ["self"] (spL0 C fun t w r => .int (cells t w r))) (GSt : MO P w K mg base CX0 S 18 "step" ["self", "memory", "thread"] (spKStep P w K mg base 6 S C M))
    (hc : HCl P w K mg base CS fa) (fiw : PySem.W.fnIn K gw = true) (FRw : FnR P w K mg base CX0 4 gw (spShWord K CS gs)) (fis : PySem.W.fnIn K gs = true) (FRs : FnR P w K mg base CX0 4 gs (spShStat K CS))
    (GAt : GO P w K mg base CX0 1 "_law_at" ["tape", "k"] (spAt K)) (GCh : GO P w K mg base CX0 12 "_law_change" ["memory", "number", "pick"] (spChange K C M)) (GLn : GO P w K mg base CX0 10 "_law_now" ["memory", "index"] (spLNow K C M)) (GLs : GO P w K mg base CX0 1 "_law_shown" ["value", "status", "first"] (spLShown K))
    (gSk : mg "Stack" = some (.ref S)) (MSk : Mk K S fSk) (FSk : FnOk P w K mg base CX0 1 fSk fdSk ["self", "machine"] (spKInit S)) (bSk : Binds K fdSk ["self", "machine"] []) (gSh : mg "Shown" = some (.ref CS)) (MSh : Mk K CS fSh) (FSh : FnOk P w K mg base CX0 4 fSh fdSh ["self", "layout", "index"] (spShInit C CS gw)) (bSh : Binds K fdSh ["self", "layout", "index"] [])
    (GEn : MO P w K mg base CX0 S 1 "ended" ["self"] (spKEnded S)) (GVa : MO P w K mg base CX0 S 1 "value" ["self"] (spKValue S))
    (GTp : GO P w K mg base CX0 1 "_law_tape" ["script"] (spTape K)) (GAc : MO P w K mg base CX0 M 11 "access" ["self", "thread", "request"] (spAccess K C M)) : FnOk P w K mg base CX0 19 f fd ["script"] (spLaw K) := by
  refine F.ok scLaw (fun vs H Q E h => ?_) (fun cdv A0 outer s H vs Q E hr h => ?_)
  · obtain ⟨a, ns, rfl, _⟩ := h
    rfl
  · obtain ⟨a, ns, rfl, hS, hlen, kQ⟩ := h
    have nd := scLaw.nd
    have hr1 : Room 1 _ := hr.mono (by decide)
    have hrL : Room (3 + 1) _ := hr.mono (by decide)
    have hrMm : Room (7 + 1) _ := hr.mono (by decide)
    have hrM : Room 11 _ := hr.mono (by decide)
    have hsl : sizeLine = 16777216 := sizeLine_eq
    obtain ⟨tt, hpt, rt⟩ := law_turn (C := C) (w := w) (f := f) (cdv := cdv) (A0 := A0) (outer := outer) (s := s) (Hs := H) (E := E) hr B0 TL TM TK GPk GCe GSt hc fiw FRw fis FRs GAt GCh GLn GLs gSk MSk FSk bSk gSh MSh FSh bSh GEn GVa
    have hloop : PSs (cxOf CX0 P w K mg base NLw "law" (defScope sLaw) f cdv A0 outer s H E).nox ((defBody sLaw).drop 5) _ := pss_cons (ps_for PassesOwn.never rfl (pi_range1 (by rfl) B0.range (pa_cons pe_int pa_nil)) (pg_name (i := 6) nd rfl (Or.inl rfl)) hpt) (pss_one (ps_ret pe_bl))
    refine ⟨_, (pss_cons (ps_set (i := 1) nd rfl (Or.inl rfl) (pc_ GTp hr1 (pa_cons (pv 0) pa_nil)))
  (pss_cons (ps_set (i := 2) nd rfl (Or.inl rfl) (pe_make ML FL hrL rfl gC bL .nil passL (pa_cons pe_int (pa_cons pe_int (pa_cons pe_int pa_nil)))))
  (pss_cons (ps_set (i := 3) nd rfl (Or.inr rfl) (pe_make MM FM hrMm rfl gM bM .nil pass0 (pa_cons (pv 2) pa_nil)))
  (pss_cons (ps_for PassesOwn.never rfl (pi_range1 (by rfl) B0.range (pa_cons pe_int pa_nil)) (pg_name (i := 4) nd rfl (Or.inl rfl))
  (pss_one (ps_expr (pm_ GAc TM.cl hrM (pv 3) (pa_cons pe_int (pa_cons (pe_tup (pa_cons pe_str (pa_cons (pe_op op_add pe_int (pv 4)) (pa_cons pe_int pa_nil)))) pa_nil))))))
  (pss_cons (ps_set (i := 5) nd rfl (Or.inl rfl) pe_int)
  hloop))))), ?_⟩
    refine ⟨_, rfl, a, ns, rfl, hS, hlen, fun tp ms H1 _ htp sm hml s1 => ?_⟩
    have lk : lok 2 3 30 = true := lok_iff.mpr nok2.lok
    intro x dx nx ndx ne
    refine ⟨x, dx, 2, 3, 30, rfl, upd_same, (fun _ H2 lay kp2 => ⟨rfl, ?_⟩), fun h => by rw [lk] at h; cases h⟩
    have s2 : Same H1 H2 := fun b o e => by
      have b1 : b ≠ x := ne_of_none e nx
      refine kp2 b o ?_ b1
      rw [upd_ne b1, upd_ne (ne_of_none e ndx)]
      exact e
    obtain ⟨da, ha⟩ := lay
    refine ⟨_, rfl, fun m dx2 nx2 ndx2 ne2 => ?_⟩
    have s3 := made_same (C := M) nx2 ndx2
    refine ⟨m, dx2, x, 2, 3, 30, rfl, upd_same, ⟨da, s3 _ _ ha⟩, nok2, fun A tr H4 hA DM hI kp fr4 => ⟨rfl, ?_⟩⟩
    have s4 : Same H2 H4 := fun b o e => kp b o (s3 b o e) (ne_of_none e nx2)
    have htp4 : H4 tp = some (.lst (ms.map V.int)) := s4 _ _ (s2 _ _ htp)
    have tpF : ¬ Foot m A 35 tp := fun hf => by
      rcases fr4 tp hf with e | e
      · exact ne_of_none (s2 _ _ htp) nx2 e
      · rw [s3 _ _ (s2 _ _ htp)] at e
        cases e
    have so4 : SOk (S0 2 tr) 2 35 0 := so0 fun j hj => let ⟨v, e, _⟩ := hI j hj; ⟨v, e⟩
    have p4 : Pre K H4 (S0 2 tr) 0 := pre0 hZ hI
    refine ⟨3, rfl, by decide, by decide, for_range (lo := 0) (n := 3) (fun i σ H' => ∃ (v4 : Option V) (A' : Adr) (X' : MS), σ = [some (.ref a), some (.ref tp), some (.ref x), some (.ref m), v4, none, none, none, none, none, none, none, none, none, none, none, none] ∧ A'.a = x ∧ MemAt C M H' m 2 3 30 A' X' ∧ SOk X' 2 35 (2 * i) ∧ Pre K H' X' i ∧ Ot H' (Foot m A' 35) tp (.lst (ms.map V.int))) ⟨none, A, S0 2 tr, rfl, hA, DM, so4, p4, htp4, tpF⟩ ?_ ?_⟩
    · rintro i σ H5 hi ⟨v4, A5, X5, rfl, ea5, D5, so5, p5, otp⟩
      have hi : i < 3 := hi
      have ez : (0 : Int) + (i : Int) = (i : Int) := by omega
      rw [ez]
      obtain ⟨dm, hm⟩ := D5.ob
      refine ⟨_, rfl, m, dm, _, rfl, hm, rfl, _, rfl, _, _, rfl, rfl, (by show 3 ≤ sizeLine; decide), fun q hq => ?_⟩
      have s5 := up1 (o := HO.tup [V.str "write", V.int (20 + (i : Int)), V.int 0]) hq
      refine ⟨m, 2, 3, 30, 1, 2 * i, A5, X5, .write (20 + i) (.int 0), q, rfl, nok2, D5.same s5, by decide, (by rw [upd_same]; show some (HO.tup [V.str "write", V.int (20 + (i : Int)), V.int 0]) = _; rw [show (20 : Int) + (i : Int) = ((20 + i : Nat) : Int) by omega]; rfl), (by show 20 + i < 1 + 2 + (2 + 3 + 30); omega), so5, by omega, ⟨_, Dvl.int 0⟩, trivial, fun v6 y6 p6 A6 X6 H6 ea6 R6 hp6 so6 D6 st6 => ?_⟩
      obtain ⟨_, hX⟩ := R6
      have ex := st6.ext (D5.same s5)
      have p6' := (p5.ext (.of s5)).ext ex
      have hps : ((X5.withCount (X5.count + 1)).withLog (X5.log ++ [y6])).ps.length = 1 + 2 := so5.psl
      have c0 : CellIs K H6 X6 2 (20 + i) Sta.zero.tr := ⟨.int 0, by rw [hX]; exact cellV_give_same hps, (nice_int 0).dvl (.sc (t := "int") rfl)⟩
      have ce : ∀ c, c ≠ 20 + i → cellV X6 2 c = cellV X5 2 c := fun c hc => by rw [hX, cellV_give_ne hc]; rfl
      refine ⟨_, A6, X6, rfl, ea6.trans ea5, D6, by rw [show 2 * (i + 1) = 2 * i + 2 by omega]; exact so6, ⟨fun c hc => ?_, fun j hj => (p6'.w j hj).eq (ce _ (by omega)), fun j hj => ?_⟩, (Ot.mv (H := upd H5 q (HO.tup [V.str "write", V.int (20 + (i : Int)), V.int 0])) ⟨s5 _ _ otp.1, otp.2⟩ (Mv.step st6))⟩
      · by_cases qq : c = 20 + i
        · rw [qq]
          exact ⟨_, c0, nice_int 0⟩
        · obtain ⟨u, h1, h2⟩ := p6'.a c hc
          exact ⟨u, h1.eq (ce c qq), h2⟩
      · by_cases qq : j = i
        · rw [qq]; exact c0
        · exact (p6'.t j (by omega)).eq (ce _ (by omega))
    · rintro σ H5 ⟨v4, A5, X5, rfl, ea5, D5, so5, p5, otp⟩
      have p5 : Pre K H5 X5 3 := p5
      have co : Co K C M H5 m x tp ms A5 X5 6 (fun i => .addr (8 + (i : Int))) (fun _ => .zero) := ⟨D5, so5, p5.k4, otp, ea5⟩
      refine ⟨6, rfl, by decide, by decide, for_range (lo := 0) (n := 6) (fun i σ H' => ∃ (pl : Nat) (v4 v6 v7 v8 v9 v10 v11 v12 v13 v14 v15 v16 : Option V) (A' : Adr) (X' : MS) (W' : Nat → Wd) (T' : Nat → Sta), σ = [some (.ref a), some (.ref tp), some (.ref x), some (.ref m), v4, some (.int (pl : Int)), v6, v7, v8, v9, v10, v11, v12, v13, v14, v15, v16] ∧ Co K C M H' m x tp ms A' X' (6 + 36 * i) W' T') ⟨0, _, _, _, _, _, _, _, _, _, _, _, _, A5, X5, _, _, rfl, co⟩ ?_ ?_⟩
      · rintro i σ H' hi ⟨pl, v4, v6, v7, v8, v9, v10, v11, v12, v13, v14, v15, v16, A', X', W', T', rfl, c⟩
        have hi : i < 6 := hi
        refine rt _ a tp x m ms pl (6 + 36 * i) v4 _ v7 v8 v9 v10 v11 v12 v13 v14 v15 v16 H' A' X' W' T' (by omega) sm c fun v4 v7 v8 v9 v10 v11 v12 v13 v14 v15 v16 H' A' X' W' T' c => ?_
        exact ⟨pl + 9, _, _, _, _, _, _, _, _, _, _, _, _, A', X', W', T', rfl, by rw [show 6 + 36 * (i + 1) = 6 + 36 * i + 36 by omega]; exact c⟩
      · rintro σ H' ⟨pl, v4, v6, v7, v8, v9, v10, v11, v12, v13, v14, v15, v16, A', X', W', T', rfl, c⟩
        exact kQ _
end
end Dk

set_option maxHeartbeats 8000000
namespace Dk
open PySem PySem.Spec PyProof.Rows L2
theorem kit_self {K : PySem.W.Frag} {N : Addr} : PySem.W.kitOne K (.ref N) (.ref N) = some true := by
  unfold PySem.W.kitOne
  rw [if_pos (beq_self_eq_true _)]
theorem md_at {P : Program} {w : World} {K : PySem.W.Frag} {mg : Str → Option Value} {base : Heap} {k : Nat} {C f : Addr} {m : Str} {sp : Sp} (D : MD P w K mg base k C m sp) (h : Meth K C m f) : FnR P w K mg base CX0 k f sp := by
  obtain ⟨g, hm, F⟩ := D
  have e := hm.at_.symm.trans h.at_
  cases e
  exact F
theorem raw0 {P : Program} {w : World} {K : PySem.W.Frag} {mg : Str → Option Value} {base : Heap} {k : Nat} {f : Addr} {fd : FuncData} {ps : List Str} {sp : Sp} (F : FnOk P w K mg base CX0 k f fd ps sp) (hb : Binds K fd ps []) : FnR P w K mg base CX0 k f sp :=
  (F.raw hb .nil).imp fun vs H Q E h => by rw [List.append_nil]; exact h
theorem all_mk {l : PySem.W.OpenLaw} {w : World} {K : PySem.W.Frag} {h : Heap} {mg : Str → Option Value} {fa C M SK MA CS NV LE E0 E1 f1 f2 f3 f4 f5 f6 f7 f8 f9 f10 f11 f12 f13 f14 f15 f16 f17 f18 f19 f20 f21 f22 f23 f24 f25 f26 f27 f28 f29 f30 f31 f32 f33 f34 f35 f36 f37 f38 f39 f40 f41 f42 f43 f44 f45 f46 f47 f48 f49 f50 f51 f52 f53 f54 f55 : Addr} (X : K.In h) (G : h.Ns mainGlobals mg) (hfa : mg "law" = some (.ref fa))
    {tI : Tok} {dE0 dE1 : Option Addr} {nE0 nE1 : Nat} {sE0 sE1 : Array (Option Value)}
    {od1 an1 : Option Addr} {sl1 : Array (Option Value)} {oc1 kV1 dc1 pm1 cd1 ct1 : Value}
    {od2 an2 : Option Addr} {sl2 : Array (Option Value)} {oc2 kV2 dc2 pm2 cd2 ct2 : Value}
    {od3 an3 : Option Addr} {sl3 : Array (Option Value)} {oc3 kV3 dc3 pm3 cd3 ct3 : Value}
    {od4 an4 : Option Addr} {sl4 : Array (Option Value)} {oc4 kV4 dc4 pm4 cd4 ct4 : Value}
    {od5 an5 : Option Addr} {sl5 : Array (Option Value)} {oc5 kV5 dc5 pm5 cd5 ct5 : Value}
    {od6 an6 : Option Addr} {sl6 : Array (Option Value)} {oc6 kV6 dc6 pm6 cd6 ct6 : Value}
    {od7 an7 : Option Addr} {sl7 : Array (Option Value)} {oc7 kV7 dc7 pm7 cd7 ct7 : Value}
    {od8 an8 : Option Addr} {sl8 : Array (Option Value)} {oc8 kV8 dc8 pm8 cd8 ct8 : Value}
    {od9 an9 : Option Addr} {sl9 : Array (Option Value)} {oc9 kV9 dc9 pm9 cd9 ct9 : Value}
    {od10 an10 : Option Addr} {sl10 : Array (Option Value)} {oc10 kV10 dc10 pm10 cd10 ct10 : Value}
    {od11 an11 : Option Addr} {sl11 : Array (Option Value)} {oc11 kV11 dc11 pm11 cd11 ct11 : Value}
    {od12 an12 : Option Addr} {sl12 : Array (Option Value)} {oc12 kV12 dc12 pm12 cd12 ct12 : Value}
    {od13 an13 : Option Addr} {sl13 : Array (Option Value)} {oc13 kV13 dc13 pm13 cd13 ct13 : Value}
    {od14 an14 : Option Addr} {sl14 : Array (Option Value)} {oc14 kV14 dc14 pm14 cd14 ct14 : Value}
    {od15 an15 : Option Addr} {sl15 : Array (Option Value)} {oc15 kV15 dc15 pm15 cd15 ct15 : Value}
    {od16 an16 : Option Addr} {sl16 : Array (Option Value)} {oc16 kV16 dc16 pm16 cd16 ct16 : Value}
    {od17 an17 : Option Addr} {sl17 : Array (Option Value)} {oc17 kV17 dc17 pm17 cd17 ct17 : Value}
    {od18 an18 : Option Addr} {sl18 : Array (Option Value)} {oc18 kV18 dc18 pm18 cd18 ct18 : Value}
    {od19 an19 : Option Addr} {sl19 : Array (Option Value)} {oc19 kV19 dc19 pm19 cd19 ct19 : Value}
    {od20 an20 : Option Addr} {sl20 : Array (Option Value)} {oc20 kV20 dc20 pm20 cd20 ct20 : Value}
    {od21 an21 : Option Addr} {sl21 : Array (Option Value)} {oc21 kV21 dc21 pm21 cd21 ct21 : Value}
    {od22 an22 : Option Addr} {sl22 : Array (Option Value)} {oc22 kV22 dc22 pm22 cd22 ct22 : Value}
    {od23 an23 : Option Addr} {sl23 : Array (Option Value)} {oc23 kV23 dc23 pm23 cd23 ct23 : Value}
    {od24 an24 : Option Addr} {sl24 : Array (Option Value)} {oc24 kV24 dc24 pm24 cd24 ct24 : Value}
    {od25 an25 : Option Addr} {sl25 : Array (Option Value)} {oc25 kV25 dc25 pm25 cd25 ct25 : Value}
    {od26 an26 : Option Addr} {sl26 : Array (Option Value)} {oc26 kV26 dc26 pm26 cd26 ct26 : Value}
    {od27 an27 : Option Addr} {sl27 : Array (Option Value)} {oc27 kV27 dc27 pm27 cd27 ct27 : Value}
    {od28 an28 : Option Addr} {sl28 : Array (Option Value)} {oc28 kV28 dc28 pm28 cd28 ct28 : Value}
    {od29 an29 : Option Addr} {sl29 : Array (Option Value)} {oc29 kV29 dc29 pm29 cd29 ct29 : Value}
    {od30 an30 : Option Addr} {sl30 : Array (Option Value)} {oc30 kV30 dc30 pm30 cd30 ct30 : Value}
    {od31 an31 : Option Addr} {sl31 : Array (Option Value)} {oc31 kV31 dc31 pm31 cd31 ct31 : Value}
    {od32 an32 : Option Addr} {sl32 : Array (Option Value)} {oc32 kV32 dc32 pm32 cd32 ct32 : Value}
    {od33 an33 : Option Addr} {sl33 : Array (Option Value)} {oc33 kV33 dc33 pm33 cd33 ct33 : Value}
    {od34 an34 : Option Addr} {sl34 : Array (Option Value)} {oc34 kV34 dc34 pm34 cd34 ct34 : Value}
    {od35 an35 : Option Addr} {sl35 : Array (Option Value)} {oc35 kV35 dc35 pm35 cd35 ct35 : Value}
    {od36 an36 : Option Addr} {sl36 : Array (Option Value)} {oc36 kV36 dc36 pm36 cd36 ct36 : Value}
    {od37 an37 : Option Addr} {sl37 : Array (Option Value)} {oc37 kV37 dc37 pm37 cd37 ct37 : Value}
    {od38 an38 : Option Addr} {sl38 : Array (Option Value)} {oc38 kV38 dc38 pm38 cd38 ct38 : Value}
    {od39 an39 : Option Addr} {sl39 : Array (Option Value)} {oc39 kV39 dc39 pm39 cd39 ct39 : Value}
    {od40 an40 : Option Addr} {sl40 : Array (Option Value)} {oc40 kV40 dc40 pm40 cd40 ct40 : Value}
    {od41 an41 : Option Addr} {sl41 : Array (Option Value)} {oc41 kV41 dc41 pm41 cd41 ct41 : Value}
    {od42 an42 : Option Addr} {sl42 : Array (Option Value)} {oc42 kV42 dc42 pm42 cd42 ct42 : Value}
    {od43 an43 : Option Addr} {sl43 : Array (Option Value)} {oc43 kV43 dc43 pm43 cd43 ct43 : Value}
    {od44 an44 : Option Addr} {sl44 : Array (Option Value)} {oc44 kV44 dc44 pm44 cd44 ct44 : Value}
    {od45 an45 : Option Addr} {sl45 : Array (Option Value)} {oc45 kV45 dc45 pm45 cd45 ct45 : Value}
    {od46 an46 : Option Addr} {sl46 : Array (Option Value)} {oc46 kV46 dc46 pm46 cd46 ct46 : Value}
    {od47 an47 : Option Addr} {sl47 : Array (Option Value)} {oc47 kV47 dc47 pm47 cd47 ct47 : Value}
    {od48 an48 : Option Addr} {sl48 : Array (Option Value)} {oc48 kV48 dc48 pm48 cd48 ct48 : Value}
    {od49 an49 : Option Addr} {sl49 : Array (Option Value)} {oc49 kV49 dc49 pm49 cd49 ct49 : Value}
    {od50 an50 : Option Addr} {sl50 : Array (Option Value)} {oc50 kV50 dc50 pm50 cd50 ct50 : Value}
    {od51 an51 : Option Addr} {sl51 : Array (Option Value)} {oc51 kV51 dc51 pm51 cd51 ct51 : Value}
    {od52 an52 : Option Addr} {sl52 : Array (Option Value)} {oc52 kV52 dc52 pm52 cd52 ct52 : Value}
    {od53 an53 : Option Addr} {sl53 : Array (Option Value)} {oc53 kV53 dc53 pm53 cd53 ct53 : Value}
    {od54 an54 : Option Addr} {sl54 : Array (Option Value)} {oc54 kV54 dc54 pm54 cd54 ct54 : Value}
    {od55 an55 : Option Addr} {sl55 : Array (Option Value)} {oc55 kV55 dc55 pm55 cd55 ct55 : Value}
    (gC : PySem.W.nsIn K mainGlobals "Layout" = some (some (.ref C)))
    (gM : PySem.W.nsIn K mainGlobals "Memory" = some (some (.ref M)))
    (gSK : PySem.W.nsIn K mainGlobals "Stack" = some (some (.ref SK)))
    (gMA : PySem.W.nsIn K mainGlobals "Machine" = some (some (.ref MA)))
    (gCS : PySem.W.nsIn K mainGlobals "Shown" = some (some (.ref CS)))
    (gNV : PySem.W.nsIn K mainGlobals "NotValid" = some (some (.ref NV)))
    (gLE : PySem.W.nsIn K mainGlobals "LineError" = some (some (.ref LE)))
    (a1 : PySem.W.nsIn K mainGlobals "is_whole" = some (some (.ref f1)))
    (l1 : K.lookup f1 = some ⟨oc1, od1, .func (PySem.W.fnOf "is_whole" "is_whole" (defArgs sWhole) (defBody sWhole) (defScope sWhole) .none kV1 dc1 pm1 an1 cd1 ct1), sl1⟩)
    (c1 : PySem.W.codeIn K cd1 "is_whole" = true)
    (k1 : PySem.W.keepIn K (.ref f1) = true)
    (a2 : PySem.W.nsIn K mainGlobals "is_within" = some (some (.ref f2)))
    (l2 : K.lookup f2 = some ⟨oc2, od2, .func (PySem.W.fnOf "is_within" "is_within" (defArgs sWithin) (defBody sWithin) (defScope sWithin) .none kV2 dc2 pm2 an2 cd2 ct2), sl2⟩)
    (c2 : PySem.W.codeIn K cd2 "is_within" = true)
    (k2 : PySem.W.keepIn K (.ref f2) = true)
    (a3 : PySem.W.nsIn K mainGlobals "is_many" = some (some (.ref f3)))
    (l3 : K.lookup f3 = some ⟨oc3, od3, .func (PySem.W.fnOf "is_many" "is_many" (defArgs sMany) (defBody sMany) (defScope sMany) .none kV3 dc3 pm3 an3 cd3 ct3), sl3⟩)
    (c3 : PySem.W.codeIn K cd3 "is_many" = true)
    (k3 : PySem.W.keepIn K (.ref f3) = true)
    (a4 : PySem.W.nsIn K mainGlobals "is_value" = some (some (.ref f4)))
    (l4 : K.lookup f4 = some ⟨oc4, od4, .func (PySem.W.fnOf "is_value" "is_value" (defArgs sIsValue) (defBody sIsValue) (defScope sIsValue) .none kV4 dc4 pm4 an4 cd4 ct4), sl4⟩)
    (c4 : PySem.W.codeIn K cd4 "is_value" = true)
    (k4 : PySem.W.keepIn K (.ref f4) = true)
    (a5 : PySem.W.nsIn K mainGlobals "is_same" = some (some (.ref f5)))
    (l5 : K.lookup f5 = some ⟨oc5, od5, .func (PySem.W.fnOf "is_same" "is_same" (defArgs sIsSame) (defBody sIsSame) (defScope sIsSame) .none kV5 dc5 pm5 an5 cd5 ct5), sl5⟩)
    (c5 : PySem.W.codeIn K cd5 "is_same" = true)
    (k5 : PySem.W.keepIn K (.ref f5) = true)
    (a6 : PySem.W.nsIn K mainGlobals "is_mark" = some (some (.ref f6)))
    (l6 : K.lookup f6 = some ⟨oc6, od6, .func (PySem.W.fnOf "is_mark" "is_mark" (defArgs sIsMark) (defBody sIsMark) (defScope sIsMark) .none kV6 dc6 pm6 an6 cd6 ct6), sl6⟩)
    (c6 : PySem.W.codeIn K cd6 "is_mark" = true)
    (k6 : PySem.W.keepIn K (.ref f6) = true)
    (a7 : PySem.W.nsIn K mainGlobals "is_access" = some (some (.ref f7)))
    (l7 : K.lookup f7 = some ⟨oc7, od7, .func (PySem.W.fnOf "is_access" "is_access" (defArgs sIsAcc) (defBody sIsAcc) (defScope sIsAcc) .none kV7 dc7 pm7 an7 cd7 ct7), sl7⟩)
    (c7 : PySem.W.codeIn K cd7 "is_access" = true)
    (k7 : PySem.W.keepIn K (.ref f7) = true)
    (a8 : PySem.W.nsIn K mainGlobals "passing_values" = some (some (.ref f8)))
    (l8 : K.lookup f8 = some ⟨oc8, od8, .func (PySem.W.fnOf "passing_values" "passing_values" (defArgs sPass) (defBody sPass) (defScope sPass) .none kV8 dc8 pm8 an8 cd8 ct8), sl8⟩)
    (c8 : PySem.W.codeIn K cd8 "passing_values" = true)
    (k8 : PySem.W.keepIn K (.ref f8) = true)
    (a9 : PySem.W.nsIn K mainGlobals "first_trails" = some (some (.ref f9)))
    (l9 : K.lookup f9 = some ⟨oc9, od9, .func (PySem.W.fnOf "first_trails" "first_trails" (defArgs sTrails) (defBody sTrails) (defScope sTrails) .none kV9 dc9 pm9 an9 cd9 ct9), sl9⟩)
    (c9 : PySem.W.codeIn K cd9 "first_trails" = true)
    (k9 : PySem.W.keepIn K (.ref f9) = true)
    (a10 : PySem.W.nsIn K mainGlobals "no_notes" = some (some (.ref f10)))
    (l10 : K.lookup f10 = some ⟨oc10, od10, .func (PySem.W.fnOf "no_notes" "no_notes" (defArgs sNotes) (defBody sNotes) (defScope sNotes) .none kV10 dc10 pm10 an10 cd10 ct10), sl10⟩)
    (c10 : PySem.W.codeIn K cd10 "no_notes" = true)
    (k10 : PySem.W.keepIn K (.ref f10) = true)
    (a11 : PySem.W.nsIn K mainGlobals "is_done" = some (some (.ref f11)))
    (l11 : K.lookup f11 = some ⟨oc11, od11, .func (PySem.W.fnOf "is_done" "is_done" (defArgs sIsDone) (defBody sIsDone) (defScope sIsDone) .none kV11 dc11 pm11 an11 cd11 ct11), sl11⟩)
    (c11 : PySem.W.codeIn K cd11 "is_done" = true)
    (k11 : PySem.W.keepIn K (.ref f11) = true)
    (a12 : PySem.W.nsIn K mainGlobals "shown_by" = some (some (.ref f12)))
    (l12 : K.lookup f12 = some ⟨oc12, od12, .func (PySem.W.fnOf "shown_by" "shown_by" (defArgs sShBy) (defBody sShBy) (defScope sShBy) .none kV12 dc12 pm12 an12 cd12 ct12), sl12⟩)
    (c12 : PySem.W.codeIn K cd12 "shown_by" = true)
    (k12 : PySem.W.keepIn K (.ref f12) = true)
    (a13 : PySem.W.nsIn K mainGlobals "shown_now" = some (some (.ref f13)))
    (l13 : K.lookup f13 = some ⟨oc13, od13, .func (PySem.W.fnOf "shown_now" "shown_now" (defArgs sShNow) (defBody sShNow) (defScope sShNow) .none kV13 dc13 pm13 an13 cd13 ct13), sl13⟩)
    (c13 : PySem.W.codeIn K cd13 "shown_now" = true)
    (k13 : PySem.W.keepIn K (.ref f13) = true)
    (a14 : PySem.W.nsIn K mainGlobals "_law_tape" = some (some (.ref f14)))
    (l14 : K.lookup f14 = some ⟨oc14, od14, .func (PySem.W.fnOf "_law_tape" "_law_tape" (defArgs sTape) (defBody sTape) (defScope sTape) .none kV14 dc14 pm14 an14 cd14 ct14), sl14⟩)
    (c14 : PySem.W.codeIn K cd14 "_law_tape" = true)
    (k14 : PySem.W.keepIn K (.ref f14) = true)
    (a15 : PySem.W.nsIn K mainGlobals "_law_at" = some (some (.ref f15)))
    (l15 : K.lookup f15 = some ⟨oc15, od15, .func (PySem.W.fnOf "_law_at" "_law_at" (defArgs sAt) (defBody sAt) (defScope sAt) .none kV15 dc15 pm15 an15 cd15 ct15), sl15⟩)
    (c15 : PySem.W.codeIn K cd15 "_law_at" = true)
    (k15 : PySem.W.keepIn K (.ref f15) = true)
    (a16 : PySem.W.nsIn K mainGlobals "_law_change" = some (some (.ref f16)))
    (l16 : K.lookup f16 = some ⟨oc16, od16, .func (PySem.W.fnOf "_law_change" "_law_change" (defArgs sLChange) (defBody sLChange) (defScope sLChange) .none kV16 dc16 pm16 an16 cd16 ct16), sl16⟩)
    (c16 : PySem.W.codeIn K cd16 "_law_change" = true)
    (k16 : PySem.W.keepIn K (.ref f16) = true)
    (a17 : PySem.W.nsIn K mainGlobals "_law_shown" = some (some (.ref f17)))
    (l17 : K.lookup f17 = some ⟨oc17, od17, .func (PySem.W.fnOf "_law_shown" "_law_shown" (defArgs sLShown) (defBody sLShown) (defScope sLShown) .none kV17 dc17 pm17 an17 cd17 ct17), sl17⟩)
    (c17 : PySem.W.codeIn K cd17 "_law_shown" = true)
    (k17 : PySem.W.keepIn K (.ref f17) = true)
    (a18 : PySem.W.nsIn K mainGlobals "_law_now" = some (some (.ref f18)))
    (l18 : K.lookup f18 = some ⟨oc18, od18, .func (PySem.W.fnOf "_law_now" "_law_now" (defArgs sLNow) (defBody sLNow) (defScope sLNow) .none kV18 dc18 pm18 an18 cd18 ct18), sl18⟩)
    (c18 : PySem.W.codeIn K cd18 "_law_now" = true)
    (k18 : PySem.W.keepIn K (.ref f18) = true)
    (a19 : PySem.W.nsIn K mainGlobals "law" = some (some (.ref f19)))
    (l19 : K.lookup f19 = some ⟨oc19, od19, .func (PySem.W.fnOf "law" "law" (defArgs sLaw) (defBody sLaw) (defScope sLaw) .none kV19 dc19 pm19 an19 cd19 ct19), sl19⟩)
    (c19 : PySem.W.codeIn K cd19 "law" = true)
    (k19 : PySem.W.keepIn K (.ref f19) = true)
    (a20 : PySem.W.findIn K (.ref C) "__init__" = some (some (.ref f20)))
    (i20 : PySem.W.isFn K (.ref f20) = true)
    (l20 : K.lookup f20 = some ⟨oc20, od20, .func (PySem.W.fnOf "__init__" "Layout.__init__" (defArgs sLInit) (defBody sLInit) (defScope sLInit) .none kV20 dc20 pm20 an20 cd20 ct20), sl20⟩)
    (c20 : PySem.W.codeIn K cd20 "Layout.__init__" = true)
    (k20 : PySem.W.keepIn K (.ref f20) = true)
    (a21 : PySem.W.findIn K (.ref C) "epoch" = some (some (.ref f21)))
    (i21 : PySem.W.isFn K (.ref f21) = true)
    (l21 : K.lookup f21 = some ⟨oc21, od21, .func (PySem.W.fnOf "epoch" "Layout.epoch" (defArgs sEpoch) (defBody sEpoch) (defScope sEpoch) .none kV21 dc21 pm21 an21 cd21 ct21), sl21⟩)
    (c21 : PySem.W.codeIn K cd21 "Layout.epoch" = true)
    (k21 : PySem.W.keepIn K (.ref f21) = true)
    (a22 : PySem.W.findIn K (.ref C) "epoch_slot" = some (some (.ref f22)))
    (i22 : PySem.W.isFn K (.ref f22) = true)
    (l22 : K.lookup f22 = some ⟨oc22, od22, .func (PySem.W.fnOf "epoch_slot" "Layout.epoch_slot" (defArgs sESlot) (defBody sESlot) (defScope sESlot) .none kV22 dc22 pm22 an22 cd22 ct22), sl22⟩)
    (c22 : PySem.W.codeIn K cd22 "Layout.epoch_slot" = true)
    (k22 : PySem.W.keepIn K (.ref f22) = true)
    (a23 : PySem.W.findIn K (.ref C) "call_slot" = some (some (.ref f23)))
    (i23 : PySem.W.isFn K (.ref f23) = true)
    (l23 : K.lookup f23 = some ⟨oc23, od23, .func (PySem.W.fnOf "call_slot" "Layout.call_slot" (defArgs sCSlot) (defBody sCSlot) (defScope sCSlot) .none kV23 dc23 pm23 an23 cd23 ct23), sl23⟩)
    (c23 : PySem.W.codeIn K cd23 "Layout.call_slot" = true)
    (k23 : PySem.W.keepIn K (.ref f23) = true)
    (a24 : PySem.W.findIn K (.ref C) "word" = some (some (.ref f24)))
    (i24 : PySem.W.isFn K (.ref f24) = true)
    (l24 : K.lookup f24 = some ⟨oc24, od24, .func (PySem.W.fnOf "word" "Layout.word" (defArgs sWord) (defBody sWord) (defScope sWord) .none kV24 dc24 pm24 an24 cd24 ct24), sl24⟩)
    (c24 : PySem.W.codeIn K cd24 "Layout.word" = true)
    (k24 : PySem.W.keepIn K (.ref f24) = true)
    (a25 : PySem.W.findIn K (.ref C) "record" = some (some (.ref f25)))
    (i25 : PySem.W.isFn K (.ref f25) = true)
    (l25 : K.lookup f25 = some ⟨oc25, od25, .func (PySem.W.fnOf "record" "Layout.record" (defArgs sRecord) (defBody sRecord) (defScope sRecord) .none kV25 dc25 pm25 an25 cd25 ct25), sl25⟩)
    (c25 : PySem.W.codeIn K cd25 "Layout.record" = true)
    (k25 : PySem.W.keepIn K (.ref f25) = true)
    (a26 : PySem.W.findIn K (.ref C) "cells" = some (some (.ref f26)))
    (i26 : PySem.W.isFn K (.ref f26) = true)
    (l26 : K.lookup f26 = some ⟨oc26, od26, .func (PySem.W.fnOf "cells" "Layout.cells" (defArgs sCells) (defBody sCells) (defScope sCells) .none kV26 dc26 pm26 an26 cd26 ct26), sl26⟩)
    (c26 : PySem.W.codeIn K cd26 "Layout.cells" = true)
    (k26 : PySem.W.keepIn K (.ref f26) = true)
    (a27 : PySem.W.findIn K (.ref C) "is_cell" = some (some (.ref f27)))
    (i27 : PySem.W.isFn K (.ref f27) = true)
    (l27 : K.lookup f27 = some ⟨oc27, od27, .func (PySem.W.fnOf "is_cell" "Layout.is_cell" (defArgs sIsCell) (defBody sIsCell) (defScope sIsCell) .none kV27 dc27 pm27 an27 cd27 ct27), sl27⟩)
    (c27 : PySem.W.codeIn K cd27 "Layout.is_cell" = true)
    (k27 : PySem.W.keepIn K (.ref f27) = true)
    (a28 : PySem.W.findIn K (.ref C) "is_lasting" = some (some (.ref f28)))
    (i28 : PySem.W.isFn K (.ref f28) = true)
    (l28 : K.lookup f28 = some ⟨oc28, od28, .func (PySem.W.fnOf "is_lasting" "Layout.is_lasting" (defArgs sIsLast) (defBody sIsLast) (defScope sIsLast) .none kV28 dc28 pm28 an28 cd28 ct28), sl28⟩)
    (c28 : PySem.W.codeIn K cd28 "Layout.is_lasting" = true)
    (k28 : PySem.W.keepIn K (.ref f28) = true)
    (a29 : PySem.W.findIn K (.ref C) "has_thread" = some (some (.ref f29)))
    (i29 : PySem.W.isFn K (.ref f29) = true)
    (l29 : K.lookup f29 = some ⟨oc29, od29, .func (PySem.W.fnOf "has_thread" "Layout.has_thread" (defArgs sHasT) (defBody sHasT) (defScope sHasT) .none kV29 dc29 pm29 an29 cd29 ct29), sl29⟩)
    (c29 : PySem.W.codeIn K cd29 "Layout.has_thread" = true)
    (k29 : PySem.W.keepIn K (.ref f29) = true)
    (a30 : PySem.W.findIn K (.ref M) "__init__" = some (some (.ref f30)))
    (i30 : PySem.W.isFn K (.ref f30) = true)
    (l30 : K.lookup f30 = some ⟨oc30, od30, .func (PySem.W.fnOf "__init__" "Memory.__init__" (defArgs sMInit) (defBody sMInit) (defScope sMInit) .none kV30 dc30 pm30 an30 cd30 ct30), sl30⟩)
    (c30 : PySem.W.codeIn K cd30 "Memory.__init__" = true)
    (k30 : PySem.W.keepIn K (.ref f30) = true)
    (a31 : PySem.W.findIn K (.ref M) "access" = some (some (.ref f31)))
    (i31 : PySem.W.isFn K (.ref f31) = true)
    (l31 : K.lookup f31 = some ⟨oc31, od31, .func (PySem.W.fnOf "access" "Memory.access" (defArgs sAccess) (defBody sAccess) (defScope sAccess) .none kV31 dc31 pm31 an31 cd31 ct31), sl31⟩)
    (c31 : PySem.W.codeIn K cd31 "Memory.access" = true)
    (k31 : PySem.W.keepIn K (.ref f31) = true)
    (a32 : PySem.W.findIn K (.ref M) "peek" = some (some (.ref f32)))
    (i32 : PySem.W.isFn K (.ref f32) = true)
    (l32 : K.lookup f32 = some ⟨oc32, od32, .func (PySem.W.fnOf "peek" "Memory.peek" (defArgs sPeek) (defBody sPeek) (defScope sPeek) .none kV32 dc32 pm32 an32 cd32 ct32), sl32⟩)
    (c32 : PySem.W.codeIn K cd32 "Memory.peek" = true)
    (k32 : PySem.W.keepIn K (.ref f32) = true)
    (a33 : PySem.W.findIn K (.ref M) "drift" = some (some (.ref f33)))
    (i33 : PySem.W.isFn K (.ref f33) = true)
    (l33 : K.lookup f33 = some ⟨oc33, od33, .func (PySem.W.fnOf "drift" "Memory.drift" (defArgs sDrift) (defBody sDrift) (defScope sDrift) .none kV33 dc33 pm33 an33 cd33 ct33), sl33⟩)
    (c33 : PySem.W.codeIn K cd33 "Memory.drift" = true)
    (k33 : PySem.W.keepIn K (.ref f33) = true)
    (a34 : PySem.W.findIn K (.ref M) "_ask_lasting" = some (some (.ref f34)))
    (i34 : PySem.W.isFn K (.ref f34) = true)
    (l34 : K.lookup f34 = some ⟨oc34, od34, .func (PySem.W.fnOf "_ask_lasting" "Memory._ask_lasting" (defArgs sAsk) (defBody sAsk) (defScope sAsk) .none kV34 dc34 pm34 an34 cd34 ct34), sl34⟩)
    (c34 : PySem.W.codeIn K cd34 "Memory._ask_lasting" = true)
    (k34 : PySem.W.keepIn K (.ref f34) = true)
    (a35 : PySem.W.findIn K (.ref M) "_result" = some (some (.ref f35)))
    (i35 : PySem.W.isFn K (.ref f35) = true)
    (l35 : K.lookup f35 = some ⟨oc35, od35, .func (PySem.W.fnOf "_result" "Memory._result" (defArgs sResult) (defBody sResult) (defScope sResult) .none kV35 dc35 pm35 an35 cd35 ct35), sl35⟩)
    (c35 : PySem.W.codeIn K cd35 "Memory._result" = true)
    (k35 : PySem.W.keepIn K (.ref f35) = true)
    (a36 : PySem.W.findIn K (.ref M) "_give" = some (some (.ref f36)))
    (i36 : PySem.W.isFn K (.ref f36) = true)
    (l36 : K.lookup f36 = some ⟨oc36, od36, .func (PySem.W.fnOf "_give" "Memory._give" (defArgs sGive) (defBody sGive) (defScope sGive) .none kV36 dc36 pm36 an36 cd36 ct36), sl36⟩)
    (c36 : PySem.W.codeIn K cd36 "Memory._give" = true)
    (k36 : PySem.W.keepIn K (.ref f36) = true)
    (a37 : PySem.W.findIn K (.ref M) "_give_if" = some (some (.ref f37)))
    (i37 : PySem.W.isFn K (.ref f37) = true)
    (l37 : K.lookup f37 = some ⟨oc37, od37, .func (PySem.W.fnOf "_give_if" "Memory._give_if" (defArgs sGiveIf) (defBody sGiveIf) (defScope sGiveIf) .none kV37 dc37 pm37 an37 cd37 ct37), sl37⟩)
    (c37 : PySem.W.codeIn K cd37 "Memory._give_if" = true)
    (k37 : PySem.W.keepIn K (.ref f37) = true)
    (a38 : PySem.W.findIn K (.ref M) "_fence" = some (some (.ref f38)))
    (i38 : PySem.W.isFn K (.ref f38) = true)
    (l38 : K.lookup f38 = some ⟨oc38, od38, .func (PySem.W.fnOf "_fence" "Memory._fence" (defArgs sFence) (defBody sFence) (defScope sFence) .none kV38 dc38 pm38 an38 cd38 ct38), sl38⟩)
    (c38 : PySem.W.codeIn K cd38 "Memory._fence" = true)
    (k38 : PySem.W.keepIn K (.ref f38) = true)
    (a39 : PySem.W.findIn K (.ref M) "_shorten" = some (some (.ref f39)))
    (i39 : PySem.W.isFn K (.ref f39) = true)
    (l39 : K.lookup f39 = some ⟨oc39, od39, .func (PySem.W.fnOf "_shorten" "Memory._shorten" (defArgs sShort) (defBody sShort) (defScope sShort) .none kV39 dc39 pm39 an39 cd39 ct39), sl39⟩)
    (c39 : PySem.W.codeIn K cd39 "Memory._shorten" = true)
    (k39 : PySem.W.keepIn K (.ref f39) = true)
    (a40 : PySem.W.findIn K (.ref SK) "__init__" = some (some (.ref f40)))
    (i40 : PySem.W.isFn K (.ref f40) = true)
    (l40 : K.lookup f40 = some ⟨oc40, od40, .func (PySem.W.fnOf "__init__" "Stack.__init__" (defArgs sKInit) (defBody sKInit) (defScope sKInit) .none kV40 dc40 pm40 an40 cd40 ct40), sl40⟩)
    (c40 : PySem.W.codeIn K cd40 "Stack.__init__" = true)
    (k40 : PySem.W.keepIn K (.ref f40) = true)
    (a41 : PySem.W.findIn K (.ref SK) "step" = some (some (.ref f41)))
    (i41 : PySem.W.isFn K (.ref f41) = true)
    (l41 : K.lookup f41 = some ⟨oc41, od41, .func (PySem.W.fnOf "step" "Stack.step" (defArgs sKStep) (defBody sKStep) (defScope sKStep) .none kV41 dc41 pm41 an41 cd41 ct41), sl41⟩)
    (c41 : PySem.W.codeIn K cd41 "Stack.step" = true)
    (k41 : PySem.W.keepIn K (.ref f41) = true)
    (a42 : PySem.W.findIn K (.ref SK) "ended" = some (some (.ref f42)))
    (i42 : PySem.W.isFn K (.ref f42) = true)
    (l42 : K.lookup f42 = some ⟨oc42, od42, .func (PySem.W.fnOf "ended" "Stack.ended" (defArgs sKEnded) (defBody sKEnded) (defScope sKEnded) .none kV42 dc42 pm42 an42 cd42 ct42), sl42⟩)
    (c42 : PySem.W.codeIn K cd42 "Stack.ended" = true)
    (k42 : PySem.W.keepIn K (.ref f42) = true)
    (a43 : PySem.W.findIn K (.ref SK) "value" = some (some (.ref f43)))
    (i43 : PySem.W.isFn K (.ref f43) = true)
    (l43 : K.lookup f43 = some ⟨oc43, od43, .func (PySem.W.fnOf "value" "Stack.value" (defArgs sKValue) (defBody sKValue) (defScope sKValue) .none kV43 dc43 pm43 an43 cd43 ct43), sl43⟩)
    (c43 : PySem.W.codeIn K cd43 "Stack.value" = true)
    (k43 : PySem.W.keepIn K (.ref f43) = true)
    (a44 : PySem.W.findIn K (.ref SK) "_check_thread" = some (some (.ref f44)))
    (i44 : PySem.W.isFn K (.ref f44) = true)
    (l44 : K.lookup f44 = some ⟨oc44, od44, .func (PySem.W.fnOf "_check_thread" "Stack._check_thread" (defArgs sKCheck) (defBody sKCheck) (defScope sKCheck) .none kV44 dc44 pm44 an44 cd44 ct44), sl44⟩)
    (c44 : PySem.W.codeIn K cd44 "Stack._check_thread" = true)
    (k44 : PySem.W.keepIn K (.ref f44) = true)
    (a45 : PySem.W.findIn K (.ref SK) "_settle" = some (some (.ref f45)))
    (i45 : PySem.W.isFn K (.ref f45) = true)
    (l45 : K.lookup f45 = some ⟨oc45, od45, .func (PySem.W.fnOf "_settle" "Stack._settle" (defArgs sKSettle) (defBody sKSettle) (defScope sKSettle) .none kV45 dc45 pm45 an45 cd45 ct45), sl45⟩)
    (c45 : PySem.W.codeIn K cd45 "Stack._settle" = true)
    (k45 : PySem.W.keepIn K (.ref f45) = true)
    (a46 : PySem.W.findIn K (.ref SK) "_end" = some (some (.ref f46)))
    (i46 : PySem.W.isFn K (.ref f46) = true)
    (l46 : K.lookup f46 = some ⟨oc46, od46, .func (PySem.W.fnOf "_end" "Stack._end" (defArgs sKEnd) (defBody sKEnd) (defScope sKEnd) .none kV46 dc46 pm46 an46 cd46 ct46), sl46⟩)
    (c46 : PySem.W.codeIn K cd46 "Stack._end" = true)
    (k46 : PySem.W.keepIn K (.ref f46) = true)
    (a47 : PySem.W.findIn K (.ref MA) "__init__" = some (some (.ref f47)))
    (i47 : PySem.W.isFn K (.ref f47) = true)
    (l47 : K.lookup f47 = some ⟨oc47, od47, .func (PySem.W.fnOf "__init__" "Machine.__init__" (defArgs sMaInit) (defBody sMaInit) (defScope sMaInit) .none kV47 dc47 pm47 an47 cd47 ct47), sl47⟩)
    (c47 : PySem.W.codeIn K cd47 "Machine.__init__" = true)
    (k47 : PySem.W.keepIn K (.ref f47) = true)
    (a48 : PySem.W.findIn K (.ref CS) "__init__" = some (some (.ref f48)))
    (i48 : PySem.W.isFn K (.ref f48) = true)
    (l48 : K.lookup f48 = some ⟨oc48, od48, .func (PySem.W.fnOf "__init__" "Shown.__init__" (defArgs sShInit) (defBody sShInit) (defScope sShInit) .none kV48 dc48 pm48 an48 cd48 ct48), sl48⟩)
    (c48 : PySem.W.codeIn K cd48 "Shown.__init__" = true)
    (k48 : PySem.W.keepIn K (.ref f48) = true)
    (a49 : PySem.W.findIn K (.ref CS) "request" = some (some (.ref f49)))
    (i49 : PySem.W.isFn K (.ref f49) = true)
    (l49 : K.lookup f49 = some ⟨oc49, od49, .func (PySem.W.fnOf "request" "Shown.request" (defArgs sShReq) (defBody sShReq) (defScope sShReq) .none kV49 dc49 pm49 an49 cd49 ct49), sl49⟩)
    (c49 : PySem.W.codeIn K cd49 "Shown.request" = true)
    (k49 : PySem.W.keepIn K (.ref f49) = true)
    (a50 : PySem.W.findIn K (.ref CS) "accept" = some (some (.ref f50)))
    (i50 : PySem.W.isFn K (.ref f50) = true)
    (l50 : K.lookup f50 = some ⟨oc50, od50, .func (PySem.W.fnOf "accept" "Shown.accept" (defArgs sShAcc) (defBody sShAcc) (defScope sShAcc) .none kV50 dc50 pm50 an50 cd50 ct50), sl50⟩)
    (c50 : PySem.W.codeIn K cd50 "Shown.accept" = true)
    (k50 : PySem.W.keepIn K (.ref f50) = true)
    (a51 : PySem.W.findIn K (.ref CS) "_take_word" = some (some (.ref f51)))
    (i51 : PySem.W.isFn K (.ref f51) = true)
    (l51 : K.lookup f51 = some ⟨oc51, od51, .func (PySem.W.fnOf "_take_word" "Shown._take_word" (defArgs sShWord) (defBody sShWord) (defScope sShWord) .none kV51 dc51 pm51 an51 cd51 ct51), sl51⟩)
    (c51 : PySem.W.codeIn K cd51 "Shown._take_word" = true)
    (k51 : PySem.W.keepIn K (.ref f51) = true)
    (a52 : PySem.W.findIn K (.ref CS) "_take_status" = some (some (.ref f52)))
    (i52 : PySem.W.isFn K (.ref f52) = true)
    (l52 : K.lookup f52 = some ⟨oc52, od52, .func (PySem.W.fnOf "_take_status" "Shown._take_status" (defArgs sShStat) (defBody sShStat) (defScope sShStat) .none kV52 dc52 pm52 an52 cd52 ct52), sl52⟩)
    (c52 : PySem.W.codeIn K cd52 "Shown._take_status" = true)
    (k52 : PySem.W.keepIn K (.ref f52) = true)
    (a53 : PySem.W.findIn K (.ref CS) "_ask" = some (some (.ref f53)))
    (i53 : PySem.W.isFn K (.ref f53) = true)
    (l53 : K.lookup f53 = some ⟨oc53, od53, .func (PySem.W.fnOf "_ask" "Machine._ask" (defArgs sMaAsk) (defBody sMaAsk) (defScope sMaAsk) .none kV53 dc53 pm53 an53 cd53 ct53), sl53⟩)
    (c53 : PySem.W.codeIn K cd53 "Machine._ask" = true)
    (k53 : PySem.W.keepIn K (.ref f53) = true)
    (a54 : PySem.W.findIn K (.ref CS) "_end" = some (some (.ref f54)))
    (i54 : PySem.W.isFn K (.ref f54) = true)
    (l54 : K.lookup f54 = some ⟨oc54, od54, .func (PySem.W.fnOf "_end" "Machine._end" (defArgs sMaEnd) (defBody sMaEnd) (defScope sMaEnd) .none kV54 dc54 pm54 an54 cd54 ct54), sl54⟩)
    (c54 : PySem.W.codeIn K cd54 "Machine._end" = true)
    (k54 : PySem.W.keepIn K (.ref f54) = true)
    (a55 : PySem.W.findIn K (.ref CS) "_go_on" = some (some (.ref f55)))
    (i55 : PySem.W.isFn K (.ref f55) = true)
    (l55 : K.lookup f55 = some ⟨oc55, od55, .func (PySem.W.fnOf "_go_on" "Machine._go_on" (defArgs sMaGo) (defBody sMaGo) (defScope sMaGo) .none kV55 dc55 pm55 an55 cd55 ct55), sl55⟩)
    (c55 : PySem.W.codeIn K cd55 "Machine._go_on" = true)
    (k55 : PySem.W.keepIn K (.ref f55) = true)
    (pgC : PySem.W.plainGet K C Str.empty = true)
    (hdC : PySem.W.hasDictIn K C = true)
    (poC : PySem.W.plainOver K C = true)
    (saC : PySem.W.findIn K (.ref C) "__setattr__" = some (some (.builtin "object.__setattr__")))
    (mkC : PySem.W.makesIn K C = true)
    (kcC : PySem.W.keepIn K (.ref C) = true)
    (pgM : PySem.W.plainGet K M Str.empty = true)
    (hdM : PySem.W.hasDictIn K M = true)
    (poM : PySem.W.plainOver K M = true)
    (saM : PySem.W.findIn K (.ref M) "__setattr__" = some (some (.builtin "object.__setattr__")))
    (mkM : PySem.W.makesIn K M = true)
    (kcM : PySem.W.keepIn K (.ref M) = true)
    (pgSK : PySem.W.plainGet K SK Str.empty = true)
    (hdSK : PySem.W.hasDictIn K SK = true)
    (poSK : PySem.W.plainOver K SK = true)
    (saSK : PySem.W.findIn K (.ref SK) "__setattr__" = some (some (.builtin "object.__setattr__")))
    (mkSK : PySem.W.makesIn K SK = true)
    (kcSK : PySem.W.keepIn K (.ref SK) = true)
    (pgMA : PySem.W.plainGet K MA Str.empty = true)
    (hdMA : PySem.W.hasDictIn K MA = true)
    (poMA : PySem.W.plainOver K MA = true)
    (saMA : PySem.W.findIn K (.ref MA) "__setattr__" = some (some (.builtin "object.__setattr__")))
    (mkMA : PySem.W.makesIn K MA = true)
    (kcMA : PySem.W.keepIn K (.ref MA) = true)
    (pgCS : PySem.W.plainGet K CS Str.empty = true)
    (hdCS : PySem.W.hasDictIn K CS = true)
    (poCS : PySem.W.plainOver K CS = true)
    (saCS : PySem.W.findIn K (.ref CS) "__setattr__" = some (some (.builtin "object.__setattr__")))
    (mkCS : PySem.W.makesIn K CS = true)
    (kcCS : PySem.W.keepIn K (.ref CS) = true)
    (gEm : PySem.W.nsIn K mainGlobals "EMPTY" = some (some (.ref E0)))
    (lE0 : K.lookup E0 = some ⟨.type "tuple", dE0, .seq #[.str "items" tI, .ref E1] nE0, sE0⟩)
    (lE1 : K.lookup E1 = some ⟨.type "tuple", dE1, .seq #[] nE1, sE1⟩)
    (Cthreads : PySem.W.findIn K (.ref C) "threads" = some none)
    (Cwords : PySem.W.findIn K (.ref C) "words" = some none)
    (Crecords : PySem.W.findIn K (.ref C) "records" = some none)
    (Mlayout : PySem.W.findIn K (.ref M) "layout" = some none)
    (Mcount : PySem.W.findIn K (.ref M) "count" = some none)
    (M_passing : PySem.W.findIn K (.ref M) "_passing" = some none)
    (M_trails : PySem.W.findIn K (.ref M) "_trails" = some none)
    (M_lost : PySem.W.findIn K (.ref M) "_lost" = some none)
    (M_notes : PySem.W.findIn K (.ref M) "_notes" = some none)
    (M_log : PySem.W.findIn K (.ref M) "_log" = some none)
    (SK_machines : PySem.W.findIn K (.ref SK) "_machines" = some none)
    (SK_value : PySem.W.findIn K (.ref SK) "_value" = some none)
    (CS_wanted : PySem.W.findIn K (.ref CS) "_wanted" = some none)
    (CS_left : PySem.W.findIn K (.ref CS) "_left" = some none)
    (CS_then : PySem.W.findIn K (.ref CS) "_then" = some none)
    (CS_mark : PySem.W.findIn K (.ref CS) "_mark" = some none)
    (CS_access : PySem.W.findIn K (.ref CS) "_access" = some none)
    (hn : PySem.W.specialIn K (.builtin "object.__class__") "__get__" = some (some (.builtin "getset_descriptor.__get__")))
    (ht : PySem.W.takesIn K (.builtin "object.__class__") = some true)
    (xN : PySem.W.excIn K NV bmVE "ValueError.__new__" = true)
    (kN : PySem.W.keepIn K (.ref NV) = true)
    (sN : PySem.W.subIn K (.ref NV) (.type "BaseException") = some true)
    (tN : PySem.W.typeIn K (.ref NV) = some (.type "type"))
    (sL : PySem.W.subIn K (.ref LE) (.type "BaseException") = some true)
    (dL : PySem.W.hasDictIn K LE = true)
    (tL : PySem.W.typeIn K (.ref LE) = some (.type "type"))
    (sNL : PySem.W.subIn K (.ref NV) (.ref LE) = some true)
    (Ng : PySem.W.findIn K (.ref NV) "__getattribute__" = some (some (.builtin "BaseException.__getattribute__")))
    (Nk : PySem.W.findIn K (.ref NV) "__getattr__" = some none)
    (Nd : PySem.W.hasDictIn K NV = true)
    (Na : PySem.W.findIn K (.ref NV) "__class__" = some (some (.builtin "object.__class__")))
    (Nm : PySem.W.mroIn K NV (.type "object") = some true)
    (bgW : PySem.W.specialIn K (.ref f51) "__get__" = some (some (.builtin "function.__get__")))
    (btW : PySem.W.takesIn K (.ref f51) = some false)
    (bfW : PySem.W.fnIn K f51 = true)
    (bgT : PySem.W.specialIn K (.ref f52) "__get__" = some (some (.builtin "function.__get__")))
    (btT : PySem.W.takesIn K (.ref f52) = some false)
    (bfT : PySem.W.fnIn K f52 = true)
    (mr : PySem.W.readsIn K MA (.type "type") = true)
    (mc : PySem.W.findCls K (.ref MA) (.type "type") "__init__" = some (.val (.ref f47)))
    (mg0 : PySem.W.specialIn K (.ref MA) "__getattribute__" = some (some (.builtin "type.__getattribute__")))
    (z_isinstance : PySem.W.nsIn K mainGlobals "isinstance" = some none)
    (z_int : PySem.W.nsIn K mainGlobals "int" = some none)
    (z_bool : PySem.W.nsIn K mainGlobals "bool" = some none)
    (z_str : PySem.W.nsIn K mainGlobals "str" = some none)
    (z_tuple : PySem.W.nsIn K mainGlobals "tuple" = some none)
    (z_list : PySem.W.nsIn K mainGlobals "list" = some none)
    (z_range : PySem.W.nsIn K mainGlobals "range" = some none)
    (z_len : PySem.W.nsIn K mainGlobals "len" = some none)
    (z_abs : PySem.W.nsIn K mainGlobals "abs" = some none)
    (z_max : PySem.W.nsIn K mainGlobals "max" = some none)
    (z_min : PySem.W.nsIn K mainGlobals "min" = some none)
    (z_zip : PySem.W.nsIn K mainGlobals "zip" = some none)
    (z_sorted : PySem.W.nsIn K mainGlobals "sorted" = some none)
    : ∃ fd : FuncData, (∀ (s : Shared) (v : Value), BindsTo s fd ⟨[v], []⟩ [("script", v)]) ∧ ∀ base : Heap, K.In base → base.Ns mainGlobals mg → FnOk l.prog w K mg base CX0 19 fa fd ["script"] (spLaw K) := by
  have e := hfa.symm.trans (PySem.W.mg_of X G a19)
  cases e
  have F1 := fun_mk (st := sWhole) l1 c1 k1
  have b1 := F1.binds (ps := ["value"]) fun _ _ _ _ _ _ us hl => match us, hl with | [_], _ => rfl
  have T_is_whole : GT K mg "is_whole" sWhole ["value"] := ⟨_, _, F1, PySem.W.mg_of X G a1, b1⟩
  have F2 := fun_mk (st := sWithin) l2 c2 k2
  have b2 := F2.binds (ps := ["value", "low", "high"]) fun _ _ _ _ _ _ us hl => match us, hl with | [_, _, _], _ => rfl
  have T_is_within : GT K mg "is_within" sWithin ["value", "low", "high"] := ⟨_, _, F2, PySem.W.mg_of X G a2, b2⟩
  have F3 := fun_mk (st := sMany) l3 c3 k3
  have b3 := F3.binds (ps := ["value"]) fun _ _ _ _ _ _ us hl => match us, hl with | [_], _ => rfl
  have T_is_many : GT K mg "is_many" sMany ["value"] := ⟨_, _, F3, PySem.W.mg_of X G a3, b3⟩
  have F4 := fun_mk (st := sIsValue) l4 c4 k4
  have b4 := F4.binds (ps := ["value"]) fun _ _ _ _ _ _ us hl => match us, hl with | [_], _ => rfl
  have T_is_value : GT K mg "is_value" sIsValue ["value"] := ⟨_, _, F4, PySem.W.mg_of X G a4, b4⟩
  have F5 := fun_mk (st := sIsSame) l5 c5 k5
  have b5 := F5.binds (ps := ["one", "other"]) fun _ _ _ _ _ _ us hl => match us, hl with | [_, _], _ => rfl
  have T_is_same : GT K mg "is_same" sIsSame ["one", "other"] := ⟨_, _, F5, PySem.W.mg_of X G a5, b5⟩
  have F6 := fun_mk (st := sIsMark) l6 c6 k6
  have b6 := F6.binds (ps := ["value"]) fun _ _ _ _ _ _ us hl => match us, hl with | [_], _ => rfl
  have T_is_mark : GT K mg "is_mark" sIsMark ["value"] := ⟨_, _, F6, PySem.W.mg_of X G a6, b6⟩
  have F7 := fun_mk (st := sIsAcc) l7 c7 k7
  have b7 := F7.binds (ps := ["layout", "request"]) fun _ _ _ _ _ _ us hl => match us, hl with | [_, _], _ => rfl
  have T_is_access : GT K mg "is_access" sIsAcc ["layout", "request"] := ⟨_, _, F7, PySem.W.mg_of X G a7, b7⟩
  have F8 := fun_mk (st := sPass) l8 c8 k8
  have b8 := F8.binds (ps := ["layout"]) fun _ _ _ _ _ _ us hl => match us, hl with | [_], _ => rfl
  have T_passing_values : GT K mg "passing_values" sPass ["layout"] := ⟨_, _, F8, PySem.W.mg_of X G a8, b8⟩
  have F9 := fun_mk (st := sTrails) l9 c9 k9
  have b9 := F9.binds (ps := ["layout"]) fun _ _ _ _ _ _ us hl => match us, hl with | [_], _ => rfl
  have T_first_trails : GT K mg "first_trails" sTrails ["layout"] := ⟨_, _, F9, PySem.W.mg_of X G a9, b9⟩
  have F10 := fun_mk (st := sNotes) l10 c10 k10
  have b10 := F10.binds (ps := ["layout"]) fun _ _ _ _ _ _ us hl => match us, hl with | [_], _ => rfl
  have T_no_notes : GT K mg "no_notes" sNotes ["layout"] := ⟨_, _, F10, PySem.W.mg_of X G a10, b10⟩
  have F11 := fun_mk (st := sIsDone) l11 c11 k11
  have b11 := F11.binds (ps := ["status"]) fun _ _ _ _ _ _ us hl => match us, hl with | [_], _ => rfl
  have T_is_done : GT K mg "is_done" sIsDone ["status"] := ⟨_, _, F11, PySem.W.mg_of X G a11, b11⟩
  have F12 := fun_mk (st := sShBy) l12 c12 k12
  have b12 := F12.binds (ps := ["mark", "status"]) fun _ _ _ _ _ _ us hl => match us, hl with | [_, _], _ => rfl
  have T_shown_by : GT K mg "shown_by" sShBy ["mark", "status"] := ⟨_, _, F12, PySem.W.mg_of X G a12, b12⟩
  have F13 := fun_mk (st := sShNow) l13 c13 k13
  have b13 := F13.binds (ps := ["memory", "index"]) fun _ _ _ _ _ _ us hl => match us, hl with | [_, _], _ => rfl
  have T_shown_now : GT K mg "shown_now" sShNow ["memory", "index"] := ⟨_, _, F13, PySem.W.mg_of X G a13, b13⟩
  have F14 := fun_mk (st := sTape) l14 c14 k14
  have b14 := F14.binds (ps := ["script"]) fun _ _ _ _ _ _ us hl => match us, hl with | [_], _ => rfl
  have T__law_tape : GT K mg "_law_tape" sTape ["script"] := ⟨_, _, F14, PySem.W.mg_of X G a14, b14⟩
  have F15 := fun_mk (st := sAt) l15 c15 k15
  have b15 := F15.binds (ps := ["tape", "k"]) fun _ _ _ _ _ _ us hl => match us, hl with | [_, _], _ => rfl
  have T__law_at : GT K mg "_law_at" sAt ["tape", "k"] := ⟨_, _, F15, PySem.W.mg_of X G a15, b15⟩
  have F16 := fun_mk (st := sLChange) l16 c16 k16
  have b16 := F16.binds (ps := ["memory", "number", "pick"]) fun _ _ _ _ _ _ us hl => match us, hl with | [_, _, _], _ => rfl
  have T__law_change : GT K mg "_law_change" sLChange ["memory", "number", "pick"] := ⟨_, _, F16, PySem.W.mg_of X G a16, b16⟩
  have F17 := fun_mk (st := sLShown) l17 c17 k17
  have b17 := F17.binds (ps := ["value", "status", "first"]) fun _ _ _ _ _ _ us hl => match us, hl with | [_, _, _], _ => rfl
  have T__law_shown : GT K mg "_law_shown" sLShown ["value", "status", "first"] := ⟨_, _, F17, PySem.W.mg_of X G a17, b17⟩
  have F18 := fun_mk (st := sLNow) l18 c18 k18
  have b18 := F18.binds (ps := ["memory", "index"]) fun _ _ _ _ _ _ us hl => match us, hl with | [_, _], _ => rfl
  have T__law_now : GT K mg "_law_now" sLNow ["memory", "index"] := ⟨_, _, F18, PySem.W.mg_of X G a18, b18⟩
  have F19 := fun_mk (st := sLaw) l19 c19 k19
  have F20 := fun_mk (st := sLInit) l20 c20 k20
  have b20 := F20.binds (ps := ["self", "threads", "words", "records"]) fun _ _ _ _ _ _ us hl => match us, hl with | [_, _, _, _], _ => rfl
  have Mk_Layout : Mk K C f20 := ⟨mkC, a20, i20, kcC⟩
  have FI_Layout := F20
  have bI_Layout := b20
  have F21 := fun_mk (st := sEpoch) l21 c21 k21
  have b21 := F21.binds (ps := ["self"]) fun _ _ _ _ _ _ us hl => match us, hl with | [_], _ => rfl
  have T_Layout_epoch : MT K C "epoch" "Layout.epoch" sEpoch ["self"] := ⟨_, _, F21, ⟨a21, i21, k21⟩, b21⟩
  have F22 := fun_mk (st := sESlot) l22 c22 k22
  have b22 := F22.binds (ps := ["self", "thread"]) fun _ _ _ _ _ _ us hl => match us, hl with | [_, _], _ => rfl
  have T_Layout_epoch_slot : MT K C "epoch_slot" "Layout.epoch_slot" sESlot ["self", "thread"] := ⟨_, _, F22, ⟨a22, i22, k22⟩, b22⟩
  have F23 := fun_mk (st := sCSlot) l23 c23 k23
  have b23 := F23.binds (ps := ["self", "thread"]) fun _ _ _ _ _ _ us hl => match us, hl with | [_, _], _ => rfl
  have T_Layout_call_slot : MT K C "call_slot" "Layout.call_slot" sCSlot ["self", "thread"] := ⟨_, _, F23, ⟨a23, i23, k23⟩, b23⟩
  have F24 := fun_mk (st := sWord) l24 c24 k24
  have b24 := F24.binds (ps := ["self", "index"]) fun _ _ _ _ _ _ us hl => match us, hl with | [_, _], _ => rfl
  have T_Layout_word : MT K C "word" "Layout.word" sWord ["self", "index"] := ⟨_, _, F24, ⟨a24, i24, k24⟩, b24⟩
  have F25 := fun_mk (st := sRecord) l25 c25 k25
  have b25 := F25.binds (ps := ["self", "index"]) fun _ _ _ _ _ _ us hl => match us, hl with | [_, _], _ => rfl
  have T_Layout_record : MT K C "record" "Layout.record" sRecord ["self", "index"] := ⟨_, _, F25, ⟨a25, i25, k25⟩, b25⟩
  have F26 := fun_mk (st := sCells) l26 c26 k26
  have b26 := F26.binds (ps := ["self"]) fun _ _ _ _ _ _ us hl => match us, hl with | [_], _ => rfl
  have T_Layout_cells : MT K C "cells" "Layout.cells" sCells ["self"] := ⟨_, _, F26, ⟨a26, i26, k26⟩, b26⟩
  have F27 := fun_mk (st := sIsCell) l27 c27 k27
  have b27 := F27.binds (ps := ["self", "cell"]) fun _ _ _ _ _ _ us hl => match us, hl with | [_, _], _ => rfl
  have T_Layout_is_cell : MT K C "is_cell" "Layout.is_cell" sIsCell ["self", "cell"] := ⟨_, _, F27, ⟨a27, i27, k27⟩, b27⟩
  have F28 := fun_mk (st := sIsLast) l28 c28 k28
  have b28 := F28.binds (ps := ["self", "cell"]) fun _ _ _ _ _ _ us hl => match us, hl with | [_, _], _ => rfl
  have T_Layout_is_lasting : MT K C "is_lasting" "Layout.is_lasting" sIsLast ["self", "cell"] := ⟨_, _, F28, ⟨a28, i28, k28⟩, b28⟩
  have F29 := fun_mk (st := sHasT) l29 c29 k29
  have b29 := F29.binds (ps := ["self", "thread"]) fun _ _ _ _ _ _ us hl => match us, hl with | [_, _], _ => rfl
  have T_Layout_has_thread : MT K C "has_thread" "Layout.has_thread" sHasT ["self", "thread"] := ⟨_, _, F29, ⟨a29, i29, k29⟩, b29⟩
  have F30 := fun_mk (st := sMInit) l30 c30 k30
  have b30 := F30.binds (ps := ["self", "layout"]) fun _ _ _ _ _ _ us hl => match us, hl with | [_, _], _ => rfl
  have Mk_Memory : Mk K M f30 := ⟨mkM, a30, i30, kcM⟩
  have FI_Memory := F30
  have bI_Memory := b30
  have F31 := fun_mk (st := sAccess) l31 c31 k31
  have b31 := F31.binds (ps := ["self", "thread", "request"]) fun _ _ _ _ _ _ us hl => match us, hl with | [_, _, _], _ => rfl
  have T_Memory_access : MT K M "access" "Memory.access" sAccess ["self", "thread", "request"] := ⟨_, _, F31, ⟨a31, i31, k31⟩, b31⟩
  have F32 := fun_mk (st := sPeek) l32 c32 k32
  have b32 := F32.binds (ps := ["self", "cell"]) fun _ _ _ _ _ _ us hl => match us, hl with | [_, _], _ => rfl
  have T_Memory_peek : MT K M "peek" "Memory.peek" sPeek ["self", "cell"] := ⟨_, _, F32, ⟨a32, i32, k32⟩, b32⟩
  have F33 := fun_mk (st := sDrift) l33 c33 k33
  have b33 := F33.binds (ps := ["self", "cell", "steps"]) fun _ _ _ _ _ _ us hl => match us, hl with | [_, _, _], _ => rfl
  have T_Memory_drift : MT K M "drift" "Memory.drift" sDrift ["self", "cell", "steps"] := ⟨_, _, F33, ⟨a33, i33, k33⟩, b33⟩
  have F34 := fun_mk (st := sAsk) l34 c34 k34
  have b34 := F34.binds (ps := ["self", "cell"]) fun _ _ _ _ _ _ us hl => match us, hl with | [_, _], _ => rfl
  have T_Memory__ask_lasting : MT K M "_ask_lasting" "Memory._ask_lasting" sAsk ["self", "cell"] := ⟨_, _, F34, ⟨a34, i34, k34⟩, b34⟩
  have F35 := fun_mk (st := sResult) l35 c35 k35
  have b35 := F35.binds (ps := ["self", "thread", "request"]) fun _ _ _ _ _ _ us hl => match us, hl with | [_, _, _], _ => rfl
  have T_Memory__result : MT K M "_result" "Memory._result" sResult ["self", "thread", "request"] := ⟨_, _, F35, ⟨a35, i35, k35⟩, b35⟩
  have F36 := fun_mk (st := sGive) l36 c36 k36
  have b36 := F36.binds (ps := ["self", "cell", "value"]) fun _ _ _ _ _ _ us hl => match us, hl with | [_, _, _], _ => rfl
  have T_Memory__give : MT K M "_give" "Memory._give" sGive ["self", "cell", "value"] := ⟨_, _, F36, ⟨a36, i36, k36⟩, b36⟩
  have F37 := fun_mk (st := sGiveIf) l37 c37 k37
  have b37 := F37.binds (ps := ["self", "cell", "old", "new"]) fun _ _ _ _ _ _ us hl => match us, hl with | [_, _, _, _], _ => rfl
  have T_Memory__give_if : MT K M "_give_if" "Memory._give_if" sGiveIf ["self", "cell", "old", "new"] := ⟨_, _, F37, ⟨a37, i37, k37⟩, b37⟩
  have F38 := fun_mk (st := sFence) l38 c38 k38
  have b38 := F38.binds (ps := ["self", "thread"]) fun _ _ _ _ _ _ us hl => match us, hl with | [_, _], _ => rfl
  have T_Memory__fence : MT K M "_fence" "Memory._fence" sFence ["self", "thread"] := ⟨_, _, F38, ⟨a38, i38, k38⟩, b38⟩
  have F39 := fun_mk (st := sShort) l39 c39 k39
  have b39 := F39.binds (ps := ["self", "cell", "steps"]) fun _ _ _ _ _ _ us hl => match us, hl with | [_, _, _], _ => rfl
  have T_Memory__shorten : MT K M "_shorten" "Memory._shorten" sShort ["self", "cell", "steps"] := ⟨_, _, F39, ⟨a39, i39, k39⟩, b39⟩
  have F40 := fun_mk (st := sKInit) l40 c40 k40
  have b40 := F40.binds (ps := ["self", "machine"]) fun _ _ _ _ _ _ us hl => match us, hl with | [_, _], _ => rfl
  have Mk_Stack : Mk K SK f40 := ⟨mkSK, a40, i40, kcSK⟩
  have FI_Stack := F40
  have bI_Stack := b40
  have F41 := fun_mk (st := sKStep) l41 c41 k41
  have b41 := F41.binds (ps := ["self", "memory", "thread"]) fun _ _ _ _ _ _ us hl => match us, hl with | [_, _, _], _ => rfl
  have T_Stack_step : MT K SK "step" "Stack.step" sKStep ["self", "memory", "thread"] := ⟨_, _, F41, ⟨a41, i41, k41⟩, b41⟩
  have F42 := fun_mk (st := sKEnded) l42 c42 k42
  have b42 := F42.binds (ps := ["self"]) fun _ _ _ _ _ _ us hl => match us, hl with | [_], _ => rfl
  have T_Stack_ended : MT K SK "ended" "Stack.ended" sKEnded ["self"] := ⟨_, _, F42, ⟨a42, i42, k42⟩, b42⟩
  have F43 := fun_mk (st := sKValue) l43 c43 k43
  have b43 := F43.binds (ps := ["self"]) fun _ _ _ _ _ _ us hl => match us, hl with | [_], _ => rfl
  have T_Stack_value : MT K SK "value" "Stack.value" sKValue ["self"] := ⟨_, _, F43, ⟨a43, i43, k43⟩, b43⟩
  have F44 := fun_mk (st := sKCheck) l44 c44 k44
  have b44 := F44.binds (ps := ["self", "memory", "thread"]) fun _ _ _ _ _ _ us hl => match us, hl with | [_, _, _], _ => rfl
  have T_Stack__check_thread : MT K SK "_check_thread" "Stack._check_thread" sKCheck ["self", "memory", "thread"] := ⟨_, _, F44, ⟨a44, i44, k44⟩, b44⟩
  have F45 := fun_mk (st := sKSettle) l45 c45 k45
  have b45 := F45.binds (ps := ["self"]) fun _ _ _ _ _ _ us hl => match us, hl with | [_], _ => rfl
  have T_Stack__settle : MT K SK "_settle" "Stack._settle" sKSettle ["self"] := ⟨_, _, F45, ⟨a45, i45, k45⟩, b45⟩
  have F46 := fun_mk (st := sKEnd) l46 c46 k46
  have b46 := F46.binds (ps := ["self", "value"]) fun _ _ _ _ _ _ us hl => match us, hl with | [_, _], _ => rfl
  have T_Stack__end : MT K SK "_end" "Stack._end" sKEnd ["self", "value"] := ⟨_, _, F46, ⟨a46, i46, k46⟩, b46⟩
  have F47 := fun_mk (st := sMaInit) l47 c47 k47
  have b47 := F47.binds (ps := ["self"]) fun _ _ _ _ _ _ us hl => match us, hl with | [_], _ => rfl
  have Mk_Machine : Mk K MA f47 := ⟨mkMA, a47, i47, kcMA⟩
  have FI_Machine := F47
  have bI_Machine := b47
  have F48 := fun_mk (st := sShInit) l48 c48 k48
  have b48 := F48.binds (ps := ["self", "layout", "index"]) fun _ _ _ _ _ _ us hl => match us, hl with | [_, _, _], _ => rfl
  have Mk_Shown : Mk K CS f48 := ⟨mkCS, a48, i48, kcCS⟩
  have FI_Shown := F48
  have bI_Shown := b48
  have F49 := fun_mk (st := sShReq) l49 c49 k49
  have b49 := F49.binds (ps := ["self"]) fun _ _ _ _ _ _ us hl => match us, hl with | [_], _ => rfl
  have T_Shown_request : MT K CS "request" "Shown.request" sShReq ["self"] := ⟨_, _, F49, ⟨a49, i49, k49⟩, b49⟩
  have F50 := fun_mk (st := sShAcc) l50 c50 k50
  have b50 := F50.binds (ps := ["self", "result"]) fun _ _ _ _ _ _ us hl => match us, hl with | [_, _], _ => rfl
  have T_Shown_accept : MT K CS "accept" "Shown.accept" sShAcc ["self", "result"] := ⟨_, _, F50, ⟨a50, i50, k50⟩, b50⟩
  have F51 := fun_mk (st := sShWord) l51 c51 k51
  have b51 := F51.binds (ps := ["self", "result"]) fun _ _ _ _ _ _ us hl => match us, hl with | [_, _], _ => rfl
  have T_Shown__take_word : MT K CS "_take_word" "Shown._take_word" sShWord ["self", "result"] := ⟨_, _, F51, ⟨a51, i51, k51⟩, b51⟩
  have F52 := fun_mk (st := sShStat) l52 c52 k52
  have b52 := F52.binds (ps := ["self", "result"]) fun _ _ _ _ _ _ us hl => match us, hl with | [_, _], _ => rfl
  have T_Shown__take_status : MT K CS "_take_status" "Shown._take_status" sShStat ["self", "result"] := ⟨_, _, F52, ⟨a52, i52, k52⟩, b52⟩
  have F53 := fun_mk (st := sMaAsk) l53 c53 k53
  have b53 := F53.binds (ps := ["self", "requests", "then"]) fun _ _ _ _ _ _ us hl => match us, hl with | [_, _, _], _ => rfl
  have T_Shown__ask : MT K CS "_ask" "Machine._ask" sMaAsk ["self", "requests", "then"] := ⟨_, _, F53, ⟨a53, i53, k53⟩, b53⟩
  have F54 := fun_mk (st := sMaEnd) l54 c54 k54
  have b54 := F54.binds (ps := ["self", "value"]) fun _ _ _ _ _ _ us hl => match us, hl with | [_, _], _ => rfl
  have T_Shown__end : MT K CS "_end" "Machine._end" sMaEnd ["self", "value"] := ⟨_, _, F54, ⟨a54, i54, k54⟩, b54⟩
  have F55 := fun_mk (st := sMaGo) l55 c55 k55
  have b55 := F55.binds (ps := ["self", "result"]) fun _ _ _ _ _ _ us hl => match us, hl with | [_, _], _ => rfl
  have T_Shown__go_on : MT K CS "_go_on" "Machine._go_on" sMaGo ["self", "result"] := ⟨_, _, F55, ⟨a55, i55, k55⟩, b55⟩
  have Bn0 : Bn mg := ⟨PySem.W.mg_none_of X G z_isinstance, PySem.W.mg_none_of X G z_int, PySem.W.mg_none_of X G z_bool, PySem.W.mg_none_of X G z_str, PySem.W.mg_none_of X G z_tuple, PySem.W.mg_none_of X G z_list, PySem.W.mg_none_of X G z_range, PySem.W.mg_none_of X G z_len, PySem.W.mg_none_of X G z_abs⟩
  have T : LTxt K mg C := ⟨Bn0, ⟨pgC, hdC, poC, saC⟩, Cthreads, Cwords, Crecords⟩
  have TM : MTxt K M := ⟨⟨pgM, hdM, poM, saM⟩, Mlayout, Mcount, M_passing, M_trails, M_lost, M_notes, M_log⟩
  have TK : KTx K SK := ⟨⟨pgSK, hdSK, poSK, saSK⟩, SK_machines, SK_value⟩
  have TCS : MTx K CS := ⟨⟨pgCS, hdCS, poCS, saCS⟩, CS_wanted, CS_left, CS_then⟩
  have TH : HTx K CS := ⟨TCS, CS_mark, CS_access⟩
  have hE0 : ∀ H, SqT K H E0 [.str "items", .ref E1] := fun H => .inr ⟨_, _, _, lE0, rfl, rfl, (by show 2 ≤ sizeLine; decide), .cons ⟨_, rfl⟩ (.cons rfl .nil)⟩
  have hE1 : ∀ H, SqT K H E1 [] := fun H => .inr ⟨_, _, _, lE1, rfl, rfl, (by show 0 ≤ sizeLine; exact Nat.zero_le _), .nil⟩
  have hZ : ZAt K E0 := fun H => ⟨E1, hE0 H, hE1 H⟩
  have X0 : XTxt K mg NV LE := ⟨PySem.W.mg_of X G gNV, PySem.W.mg_of X G gLE, xN, kN, sN, tN, PySem.W.exm_ref sL dL tL sNL, ⟨Ng, Nk, sN, Nd, Na, hn, ht, Nm⟩, kit_self⟩
  have cMi : Mr.CFn K MA "__init__" f47 := ⟨⟨_, mr, mc⟩, mg0, k47⟩
  have BW : BMeth K CS "_take_word" f51 := ⟨⟨a51, i51, k51⟩, bgW, btW, by decide +kernel, bfW⟩
  have BT : BMeth K CS "_take_status" f52 := ⟨⟨a52, i52, k52⟩, bgT, btT, by decide +kernel, bfT⟩
  refine ⟨PySem.W.fnOf "law" "law" (defArgs sLaw) (defBody sLaw) (defScope sLaw) .none kV19 dc19 pm19 an19 cd19 ct19, fun s v => .of_eq rfl, fun base _ _ => ?_⟩
  have Gwh := go_whole (P := l.prog) (w := w) (base := base) T_is_whole Bn0
  have Gwi := go_within T_is_within Gwh
  have Giv := go_isvalueD (P := l.prog) (w := w) (base := base) T_is_value Bn0
  have Gsm := go_issameD (P := l.prog) (w := w) (base := base) T_is_same Bn0 (PySem.W.mg_none_of X G z_zip)
  have Gep := mo_epoch (P := l.prog) (w := w) (mg := mg) (base := base) T_Layout_epoch
  have Ges := mo_eslot (P := l.prog) (w := w) (mg := mg) (base := base) T_Layout_epoch_slot
  have Gcs := mo_cslot T_Layout_call_slot T Ges
  have Gwo := mo_word T_Layout_word T Gcs
  have Gre := mo_record T_Layout_record T Gwo
  have Gce := mo_cells T_Layout_cells T Gre
  have Gic := mo_iscell T_Layout_is_cell T Gce Gwi
  have Gil := mo_islast T_Layout_is_lasting T Gic Gcs
  have Ght := mo_hast T_Layout_has_thread T Gwi
  have Gia := go_isacc T_is_access T Gic Gil Giv
  have Gli := ok_linit FI_Layout T X0 Gwi
  have Gpv := go_pass (P := l.prog) (w := w) (base := base) T_passing_values T
  have Gft := go_trails T_first_trails T (PySem.W.mg_of X G gEm) Gcs Gwo Gre Gce
  have Gnn := go_notes (P := l.prog) (w := w) (base := base) T_no_notes T
  have Gmi := ok_minit FI_Memory T TM Gpv Gft Gnn
  have Gpk := mo_peek T_Memory_peek T TM Gic Gil
  have Ggi := mo_give T_Memory__give T TM Gil
  have Gsh := mo_short (P := l.prog) (w := w) (base := base) T_Memory__shorten T TM (PySem.W.mg_none_of X G z_max) (PySem.W.mg_none_of X G z_min)
  have Ggf := mo_giveif T_Memory__give_if T TM Gsm Gpk Ggi
  have Gfe := mo_fence T_Memory__fence TM Gsh
  have Grs := mo_result T_Memory__result T TM Gpk Ggi Ggf Gfe
  have Gac := mo_access T_Memory_access T TM Ght Gia Grs
  have Gtp := go_tape (P := l.prog) (w := w) (base := base) T__law_tape Bn0
  have Gat := go_at (P := l.prog) (w := w) (base := base) T__law_at Bn0
  have Gmy := go_many T_is_many Gwh
  have Gak := mo_ask T_Memory__ask_lasting T TM X0 Gil
  have Gdr := mo_drift T_Memory_drift TM Gak Gmy Gsh
  have Gki := ok_kinit (P := l.prog) (w := w) (base := base) (mg := mg) FI_Stack TK
  have Gke := mo_kended (P := l.prog) (w := w) (base := base) (mg := mg) T_Stack_ended TK
  have Gkv := mo_kvalue (P := l.prog) (w := w) (base := base) (mg := mg) T_Stack_value TK
  have Gkd := mo_kend (P := l.prog) (w := w) (base := base) (mg := mg) T_Stack__end TK
  have Gkc := mo_kcheck T_Stack__check_thread TK T TM Ght
  have Gks := mo_ksettle T_Stack__settle TK Gkd
  have Gkp := mo_kstep (ka := 6) T_Stack_step TK TM Gkc Gks Gac
  have Gmk := go_ismark (P := l.prog) (w := w) (base := base) T_is_mark Bn0
  have Gdn := go_isdone (P := l.prog) (w := w) (base := base) T_is_done Bn0
  have Gsb := go_shby T_shown_by Gdn
  have Gsn := go_shnow T_shown_now T TM Gpk Gwo Gmk Gsb
  have Gas := mo_maask (P := l.prog) (w := w) (base := base) (mg := mg) T_Shown__ask TCS
  have Ged := mo_maend (P := l.prog) (w := w) (base := base) (mg := mg) T_Shown__end TCS
  have Ggo := mo_mago (P := l.prog) (w := w) (base := base) (mg := mg) (k := 4) T_Shown__go_on TCS
  have Mi := raw0 (ok_mainit (P := l.prog) (w := w) (base := base) (mg := mg) FI_Machine TCS) bI_Machine
  have Grq := mo_shreq (P := l.prog) (w := w) (base := base) (mg := mg) T_Shown_request TCS
  have Gcc := mo_shacc (k := 4) T_Shown_accept TCS Ggo
  have Gsi := ok_shinit FI_Shown TH T (PySem.W.mg_of X G gMA) cMi Mi BW Gwo Gas
  have Gsw := mo_shword T_Shown__take_word TH BT Gmk Gas Ged
  have Gst := mo_shstat T_Shown__take_status TH (PySem.W.mg_none_of X G z_max) Gdn Gsb Ged
  have hc : HCl l.prog w K mg base CS f50 := ⟨TCS.cl, Grq.md, ⟨a50, i50, k50⟩, md_at Gcc.md ⟨a50, i50, k50⟩⟩
  have Gch := go_lchange T__law_change TM Gac Gdr
  have Gls := go_lshown (P := l.prog) (w := w) (base := base) T__law_shown Bn0 (PySem.W.mg_none_of X G z_max)
  have Gln := go_lnow T__law_now Bn0 TM Gpk Gsn Gls
  exact ok_law F19 Bn0 T TM TK hZ (PySem.W.mg_of X G gC) Mk_Layout Gli bI_Layout (PySem.W.mg_of X G gM) Mk_Memory Gmi bI_Memory Gpk Gce Gkp hc bfW (md_at Gsw.md BW.mt) bfT (md_at Gst.md BT.mt) Gat Gch Gln Gls (PySem.W.mg_of X G gSK) Mk_Stack Gki bI_Stack (PySem.W.mg_of X G gCS) Mk_Shown Gsi bI_Shown Gke Gkv Gtp Gac
theorem walk {l : PySem.W.OpenLaw} {q : Program} {loose : List Str} {XP : (Str → Option Value) → Heap → Prop} {YP : World → Heap → Prop} {d : DefRec} {K : Params → PySem.W.Frag} (hn : l.most = some 63) (hdf : d.params.defaults = [])
    (hY : ∀ (w : World) (h : Heap), YP w h → (K w.params).In h)
    (F : ∀ (w : World) (mg : Str → Option Value) (fa : Addr) (h : Heap), (K w.params).In h → h.Ns mainGlobals mg → mg d.name = some (.ref fa) →
      ∃ fd : FuncData, (∀ (s : Shared) (u : Value), BindsTo s fd ⟨[u], []⟩ [("script", u)]) ∧ ∀ base : Heap, (K w.params).In base → base.Ns mainGlobals mg → FnOk l.prog w (K w.params) mg base CX0 19 fa fd ["script"] (spLaw (K w.params))) :
    PySem.W.WalkO q loose XP YP l.row.toRowW d [] (fun f vs => PySem.call f vs) :=
  L2.walk_of (n := 63) (k := 19) (x := "script") (CX := fun _ => CX0) (sp := fun w => spLaw (K w.params)) hn (by decide) hdf ⟨rfl, by decide, by decide⟩ hY F (fun _ _ a ns hl _ hS => ⟨a, ns, rfl, hS, hl, fun _ => rfl⟩) fun _ _ _ _ _ z => z
end Dk
open PySem PySem.W PyProof.Rows
set_option maxRecDepth 100000 in
set_option maxHeartbeats 0 in
theorem PySem.Challenge.cw_driftkept_k04_reading_words_holds : PySem.Challenge.rw_driftkept_k04_reading_words.Holds := by
  w_on; o_law; k_head; (case hw => w_witness2)
  k_fill
  refine Dk.walk (l := PySem.Challenge.rw_driftkept_k04_reading_words) rfl rfl (fun w h Y => PySem.W.kIn_of Y) ?F
  case F =>
    intro w mg fa h KX G hmg
    refine' Dk.all_mk KX G hmg ?gC ?gM ?gSK ?gMA ?gCS ?gNV ?gLE ?a1 ?l1 ?c1 ?k1 ?a2 ?l2 ?c2 ?k2 ?a3 ?l3 ?c3 ?k3 ?a4 ?l4 ?c4 ?k4 ?a5 ?l5 ?c5 ?k5 ?a6 ?l6 ?c6 ?k6 ?a7 ?l7 ?c7 ?k7 ?a8 ?l8 ?c8 ?k8 ?a9 ?l9 ?c9 ?k9 ?a10 ?l10 ?c10 ?k10 ?a11 ?l11 ?c11 ?k11 ?a12 ?l12 ?c12 ?k12 ?a13 ?l13 ?c13 ?k13 ?a14 ?l14 ?c14 ?k14 ?a15 ?l15 ?c15 ?k15 ?a16 ?l16 ?c16 ?k16 ?a17 ?l17 ?c17 ?k17 ?a18 ?l18 ?c18 ?k18 ?a19 ?l19 ?c19 ?k19 ?a20 ?i20 ?l20 ?c20 ?k20 ?a21 ?i21 ?l21 ?c21 ?k21 ?a22 ?i22 ?l22 ?c22 ?k22 ?a23 ?i23 ?l23 ?c23 ?k23 ?a24 ?i24 ?l24 ?c24 ?k24 ?a25 ?i25 ?l25 ?c25 ?k25 ?a26 ?i26 ?l26 ?c26 ?k26 ?a27 ?i27 ?l27 ?c27 ?k27 ?a28 ?i28 ?l28 ?c28 ?k28 ?a29 ?i29 ?l29 ?c29 ?k29 ?a30 ?i30 ?l30 ?c30 ?k30 ?a31 ?i31 ?l31 ?c31 ?k31 ?a32 ?i32 ?l32 ?c32 ?k32 ?a33 ?i33 ?l33 ?c33 ?k33 ?a34 ?i34 ?l34 ?c34 ?k34 ?a35 ?i35 ?l35 ?c35 ?k35 ?a36 ?i36 ?l36 ?c36 ?k36 ?a37 ?i37 ?l37 ?c37 ?k37 ?a38 ?i38 ?l38 ?c38 ?k38 ?a39 ?i39 ?l39 ?c39 ?k39 ?a40 ?i40 ?l40 ?c40 ?k40 ?a41 ?i41 ?l41 ?c41 ?k41 ?a42 ?i42 ?l42 ?c42 ?k42 ?a43 ?i43 ?l43 ?c43 ?k43 ?a44 ?i44 ?l44 ?c44 ?k44 ?a45 ?i45 ?l45 ?c45 ?k45 ?a46 ?i46 ?l46 ?c46 ?k46 ?a47 ?i47 ?l47 ?c47 ?k47 ?a48 ?i48 ?l48 ?c48 ?k48 ?a49 ?i49 ?l49 ?c49 ?k49 ?a50 ?i50 ?l50 ?c50 ?k50 ?a51 ?i51 ?l51 ?c51 ?k51 ?a52 ?i52 ?l52 ?c52 ?k52 ?a53 ?i53 ?l53 ?c53 ?k53 ?a54 ?i54 ?l54 ?c54 ?k54 ?a55 ?i55 ?l55 ?c55 ?k55 ?pgC ?hdC ?poC ?saC ?mkC ?kcC ?pgM ?hdM ?poM ?saM ?mkM ?kcM ?pgSK ?hdSK ?poSK ?saSK ?mkSK ?kcSK ?pgMA ?hdMA ?poMA ?saMA ?mkMA ?kcMA ?pgCS ?hdCS ?poCS ?saCS ?mkCS ?kcCS ?gEm ?lE0 ?lE1 ?Cthreads ?Cwords ?Crecords ?Mlayout ?Mcount ?M_passing ?M_trails ?M_lost ?M_notes ?M_log ?SK_machines ?SK_value ?CS_wanted ?CS_left ?CS_then ?CS_mark ?CS_access ?hn ?ht ?xN ?kN ?sN ?tN ?sL ?dL ?tL ?sNL ?Ng ?Nk ?Nd ?Na ?Nm ?bgW ?btW ?bfW ?bgT ?btT ?bfT ?mr ?mc ?mg0 ?z_isinstance ?z_int ?z_bool ?z_str ?z_tuple ?z_list ?z_range ?z_len ?z_abs ?z_max ?z_min ?z_zip ?z_sorted
    (case gC => k_is)
    (case gM => k_is)
    (case gSK => k_is)
    (case gMA => k_is)
    (case gCS => k_is)
    (case gNV => k_is)
    (case gLE => k_is)
    (case a1 => k_is)
    (case l1 => k_is)
    (case c1 => k_is)
    (case k1 => k_is)
    (case a2 => k_is)
    (case l2 => k_is)
    (case c2 => k_is)
    (case k2 => k_is)
    (case a3 => k_is)
    (case l3 => k_is)
    (case c3 => k_is)
    (case k3 => k_is)
    (case a4 => k_is)
    (case l4 => k_is)
    (case c4 => k_is)
    (case k4 => k_is)
    (case a5 => k_is)
    (case l5 => k_is)
    (case c5 => k_is)
    (case k5 => k_is)
    (case a6 => k_is)
    (case l6 => k_is)
    (case c6 => k_is)
    (case k6 => k_is)
    (case a7 => k_is)
    (case l7 => k_is)
    (case c7 => k_is)
    (case k7 => k_is)
    (case a8 => k_is)
    (case l8 => k_is)
    (case c8 => k_is)
    (case k8 => k_is)
    (case a9 => k_is)
    (case l9 => k_is)
    (case c9 => k_is)
    (case k9 => k_is)
    (case a10 => k_is)
    (case l10 => k_is)
    (case c10 => k_is)
    (case k10 => k_is)
    (case a11 => k_is)
    (case l11 => k_is)
    (case c11 => k_is)
    (case k11 => k_is)
    (case a12 => k_is)
    (case l12 => k_is)
    (case c12 => k_is)
    (case k12 => k_is)
    (case a13 => k_is)
    (case l13 => k_is)
    (case c13 => k_is)
    (case k13 => k_is)
    (case a14 => k_is)
    (case l14 => k_is)
    (case c14 => k_is)
    (case k14 => k_is)
    (case a15 => k_is)
    (case l15 => k_is)
    (case c15 => k_is)
    (case k15 => k_is)
    (case a16 => k_is)
    (case l16 => k_is)
    (case c16 => k_is)
    (case k16 => k_is)
    (case a17 => k_is)
    (case l17 => k_is)
    (case c17 => k_is)
    (case k17 => k_is)
    (case a18 => k_is)
    (case l18 => k_is)
    (case c18 => k_is)
    (case k18 => k_is)
    (case a19 => k_is)
    (case l19 => k_is)
    (case c19 => k_is)
    (case k19 => k_is)
    (case a20 => k_is)
    (case i20 => k_is)
    (case l20 => k_is)
    (case c20 => k_is)
    (case k20 => k_is)
    (case a21 => k_is)
    (case i21 => k_is)
    (case l21 => k_is)
    (case c21 => k_is)
    (case k21 => k_is)
    (case a22 => k_is)
    (case i22 => k_is)
    (case l22 => k_is)
    (case c22 => k_is)
    (case k22 => k_is)
    (case a23 => k_is)
    (case i23 => k_is)
    (case l23 => k_is)
    (case c23 => k_is)
    (case k23 => k_is)
    (case a24 => k_is)
    (case i24 => k_is)
    (case l24 => k_is)
    (case c24 => k_is)
    (case k24 => k_is)
    (case a25 => k_is)
    (case i25 => k_is)
    (case l25 => k_is)
    (case c25 => k_is)
    (case k25 => k_is)
    (case a26 => k_is)
    (case i26 => k_is)
    (case l26 => k_is)
    (case c26 => k_is)
    (case k26 => k_is)
    (case a27 => k_is)
    (case i27 => k_is)
    (case l27 => k_is)
    (case c27 => k_is)
    (case k27 => k_is)
    (case a28 => k_is)
    (case i28 => k_is)
    (case l28 => k_is)
    (case c28 => k_is)
    (case k28 => k_is)
    (case a29 => k_is)
    (case i29 => k_is)
    (case l29 => k_is)
    (case c29 => k_is)
    (case k29 => k_is)
    (case a30 => k_is)
    (case i30 => k_is)
    (case l30 => k_is)
    (case c30 => k_is)
    (case k30 => k_is)
    (case a31 => k_is)
    (case i31 => k_is)
    (case l31 => k_is)
    (case c31 => k_is)
    (case k31 => k_is)
    (case a32 => k_is)
    (case i32 => k_is)
    (case l32 => k_is)
    (case c32 => k_is)
    (case k32 => k_is)
    (case a33 => k_is)
    (case i33 => k_is)
    (case l33 => k_is)
    (case c33 => k_is)
    (case k33 => k_is)
    (case a34 => k_is)
    (case i34 => k_is)
    (case l34 => k_is)
    (case c34 => k_is)
    (case k34 => k_is)
    (case a35 => k_is)
    (case i35 => k_is)
    (case l35 => k_is)
    (case c35 => k_is)
    (case k35 => k_is)
    (case a36 => k_is)
    (case i36 => k_is)
    (case l36 => k_is)
    (case c36 => k_is)
    (case k36 => k_is)
    (case a37 => k_is)
    (case i37 => k_is)
    (case l37 => k_is)
    (case c37 => k_is)
    (case k37 => k_is)
    (case a38 => k_is)
    (case i38 => k_is)
    (case l38 => k_is)
    (case c38 => k_is)
    (case k38 => k_is)
    (case a39 => k_is)
    (case i39 => k_is)
    (case l39 => k_is)
    (case c39 => k_is)
    (case k39 => k_is)
    (case a40 => k_is)
    (case i40 => k_is)
    (case l40 => k_is)
    (case c40 => k_is)
    (case k40 => k_is)
    (case a41 => k_is)
    (case i41 => k_is)
    (case l41 => k_is)
    (case c41 => k_is)
    (case k41 => k_is)
    (case a42 => k_is)
    (case i42 => k_is)
    (case l42 => k_is)
    (case c42 => k_is)
    (case k42 => k_is)
    (case a43 => k_is)
    (case i43 => k_is)
    (case l43 => k_is)
    (case c43 => k_is)
    (case k43 => k_is)
    (case a44 => k_is)
    (case i44 => k_is)
    (case l44 => k_is)
    (case c44 => k_is)
    (case k44 => k_is)
    (case a45 => k_is)
    (case i45 => k_is)
    (case l45 => k_is)
    (case c45 => k_is)
    (case k45 => k_is)
    (case a46 => k_is)
    (case i46 => k_is)
    (case l46 => k_is)
    (case c46 => k_is)
    (case k46 => k_is)
    (case a47 => k_is)
    (case i47 => k_is)
    (case l47 => k_is)
    (case c47 => k_is)
    (case k47 => k_is)
    (case a48 => k_is)
    (case i48 => k_is)
    (case l48 => k_is)
    (case c48 => k_is)
    (case k48 => k_is)
    (case a49 => k_is)
    (case i49 => k_is)
    (case l49 => k_is)
    (case c49 => k_is)
    (case k49 => k_is)
    (case a50 => k_is)
    (case i50 => k_is)
    (case l50 => k_is)
    (case c50 => k_is)
    (case k50 => k_is)
    (case a51 => k_is)
    (case i51 => k_is)
    (case l51 => k_is)
    (case c51 => k_is)
    (case k51 => k_is)
    (case a52 => k_is)
    (case i52 => k_is)
    (case l52 => k_is)
    (case c52 => k_is)
    (case k52 => k_is)
    (case a53 => k_is)
    (case i53 => k_is)
    (case l53 => k_is)
    (case c53 => k_is)
    (case k53 => k_is)
    (case a54 => k_is)
    (case i54 => k_is)
    (case l54 => k_is)
    (case c54 => k_is)
    (case k54 => k_is)
    (case a55 => k_is)
    (case i55 => k_is)
    (case l55 => k_is)
    (case c55 => k_is)
    (case k55 => k_is)
    (case pgC => k_is)
    (case hdC => k_is)
    (case poC => k_is)
    (case saC => k_is)
    (case mkC => k_is)
    (case kcC => k_is)
    (case pgM => k_is)
    (case hdM => k_is)
    (case poM => k_is)
    (case saM => k_is)
    (case mkM => k_is)
    (case kcM => k_is)
    (case pgSK => k_is)
    (case hdSK => k_is)
    (case poSK => k_is)
    (case saSK => k_is)
    (case mkSK => k_is)
    (case kcSK => k_is)
    (case pgMA => k_is)
    (case hdMA => k_is)
    (case poMA => k_is)
    (case saMA => k_is)
    (case mkMA => k_is)
    (case kcMA => k_is)
    (case pgCS => k_is)
    (case hdCS => k_is)
    (case poCS => k_is)
    (case saCS => k_is)
    (case mkCS => k_is)
    (case kcCS => k_is)
    (case gEm => k_is)
    (case lE0 => k_is)
    (case lE1 => k_is)
    (case Cthreads => k_is)
    (case Cwords => k_is)
    (case Crecords => k_is)
    (case Mlayout => k_is)
    (case Mcount => k_is)
    (case M_passing => k_is)
    (case M_trails => k_is)
    (case M_lost => k_is)
    (case M_notes => k_is)
    (case M_log => k_is)
    (case SK_machines => k_is)
    (case SK_value => k_is)
    (case CS_wanted => k_is)
    (case CS_left => k_is)
    (case CS_then => k_is)
    (case CS_mark => k_is)
    (case CS_access => k_is)
    (case hn => k_is)
    (case ht => k_is)
    (case xN => k_exc)
    (case kN => k_is)
    (case sN => k_is)
    (case tN => k_is)
    (case sL => k_is)
    (case dL => k_is)
    (case tL => k_is)
    (case sNL => k_is)
    (case Ng => k_is)
    (case Nk => k_is)
    (case Nd => k_is)
    (case Na => k_is)
    (case Nm => k_is)
    (case bgW => k_is)
    (case btW => k_is)
    (case bfW => k_is)
    (case bgT => k_is)
    (case btT => k_is)
    (case bfT => k_is)
    (case mr => k_is)
    (case mc => k_is)
    (case mg0 => k_is)
    (case z_isinstance => k_is)
    (case z_int => k_is)
    (case z_bool => k_is)
    (case z_str => k_is)
    (case z_tuple => k_is)
    (case z_list => k_is)
    (case z_range => k_is)
    (case z_len => k_is)
    (case z_abs => k_is)
    (case z_max => k_is)
    (case z_min => k_is)
    (case z_zip => k_is)
    (case z_sorted => k_is)

