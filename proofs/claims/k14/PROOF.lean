import PyProof.Rows.All
import Wide.All
import OpenK.AllK
import Wide.FinOn
import HandS.ForMost
import HandS.ForExc
import HandS.IsInst
import HandS.ExcIs
import HandS.DictComp
import HandS.Style
import HandS.Walk
import HandS.SortInts
import HandS.Star
import HandS.More
import HandS.SortRule
import HandS.ListItems
import HandS.SetBool
import HandS.DeepEq
import HandS.ClsMeth
import HandS.Codes
import HandS.Zip
import PySem.Challenge.RW_driftkept_k14_plans_do_what_a_table_does
import PyProof.Rows.MatchSeqLen
import KE.KDictPairs
import HandS.Strs
set_option Elab.async false
set_option linter.all false
set_option maxRecDepth 100000
set_option maxHeartbeats 4000000
/-! general rules -/
namespace Dk
open PySem PySem.Spec PyProof.Rows L2
/-- a def of the top keeps a promise -/
def GO (P : Program) (w : World) (K : PySem.W.Frag) (mg : Str → Option Value) (base : Heap) (CX : CXT) (k : Nat) (x : Str) (ps : List Str) (sp : Sp) : Prop :=
  ∃ f fd, FnOk P w K mg base CX k f fd ps sp ∧ mg x = some (.ref f) ∧ PySem.W.keepIn K (.ref f) = true ∧ Binds K fd ps []
def MO (P : Program) (w : World) (K : PySem.W.Frag) (mg : Str → Option Value) (base : Heap) (CX : CXT) (C : Addr) (k : Nat) (m : Str) (ps : List Str) (sp : Sp) : Prop :=
  ∃ f fd, FnOk P w K mg base CX k f fd ps sp ∧ Meth K C m f ∧ Binds K fd ps []
/-- where a def of the top, a method stands -/
def GT (K : PySem.W.Frag) (mg : Str → Option Value) (x : Str) (st : Stmt) (ps : List Str) : Prop := ∃ f fd, Fun K x x st f fd ∧ mg x = some (.ref f) ∧ Binds K fd ps []
def MT (K : PySem.W.Frag) (C : Addr) (m qual : Str) (st : Stmt) (ps : List Str) : Prop := ∃ f fd, Fun K m qual st f fd ∧ Meth K C m f ∧ Binds K fd ps []
section
variable {X : Cx} {CX : CXT} {k : Nat} {f C : Addr} {fd : FuncData} {ps : List Str} {sp : Sp} {x m : Str} {p pos apos : Pos} {e o : Expr} {es : List Expr} {ta : TE} {t : TA}
theorem pc_ (G : GO X.prog X.w X.K X.mg X.base CX0 k x ps sp) (hr : Room k X.A) (ha : PA X (e :: es) t) (hg : Gl X x := by rfl) (hdb : (x == ("__debug__" : Str)) = false := by decide)
    (he : starEach (e :: es) X.env = (false, eval e X.env) :: starEach es X.env := by rfl) (hpl : (backTo pos (starEach es X.env)).any (·.1) = false := by rfl) : PE X (.Call (.Name x p) (e :: es) [] pos) (tCall sp [] E0 t) := by
  obtain ⟨f, fd, F, hm, hk, hb⟩ := G
  exact pe_call F hr hg hm hk hb .nil pass0 ha hdb he hpl
theorem pm_ {pl : Sem Bool} (G : MO X.prog X.w X.K X.mg X.base CX0 C k m ps sp) (c : Cls X.K C) (hr : Room k X.A) (he : PE X o ta) (ha : PA X (e :: es) t)
    (hst : starEach (e :: es) X.env = (false, eval e X.env) :: starEach es X.env := by rfl) (hpl : (backTo pos (starEach es X.env)).any (·.1) = false := by rfl)
    (ht : eval (.Call (.Attribute o m apos) (e :: es) [] pos) X.env = (do
      let ov ← eval o X.env
      standAt apos.atName
      let (f, first) ← holding [ov] (getMethod ov m pl)
      callWith pos f first (backTo pos (starEach (e :: es) X.env)) (backToKw pos (keywordEach [] X.env))) := by rfl) : PE X (.Call (.Attribute o m apos) (e :: es) [] pos) (tMeth C m sp [] E0 ta t) := by
  obtain ⟨f, fd, F, hm, hb⟩ := G
  exact pe_meth he c hm F hr hb .nil pass0 ha hst hpl ht
theorem pm0_ {pl : Sem Bool} (G : MO X.prog X.w X.K X.mg X.base CX0 C k m ps sp) (c : Cls X.K C) (hr : Room k X.A) (he : PE X o ta)
    (ht : eval (.Call (.Attribute o m apos) [] [] pos) X.env = (do
      let ov ← eval o X.env
      standAt apos.atName
      let (f, first) ← holding [ov] (getMethod ov m pl)
      callWith pos f first (backTo pos (starEach [] X.env)) (backToKw pos (keywordEach [] X.env))) := by rfl) : PE X (.Call (.Attribute o m apos) [] [] pos) (tMeth C m sp [] E0 ta tNil) := by
  obtain ⟨f, fd, F, hm, hb⟩ := G
  exact pe_meth0 he c hm F hr hb .nil pass0 ht
/-- a method that may raise, called at the slots -/
def tMethE (C : Addr) (m : Str) (sp : Sp) (E : L2.St → XK) (ta : TE) (t : TA) : TE := fun σ H Q => ta σ H fun x H1 => ∃ a dx fs, x = .ref a ∧ H1 a = some (.ins C dx fs) ∧ fs.lookup m = none ∧
  t σ H1 fun vs H2 => sp (x :: vs) H2 Q (E σ)
theorem pmE_ {pl : Sem Bool} {E : L2.St → XK} (G : MO X.prog X.w X.K X.mg X.base CX C k m ps sp) (c : Cls X.K C) (hr : Room k X.A) (hx : ∀ σ, PassesAt CX X σ (E σ)) (he : PE X o ta) (ha : PA X (e :: es) t)
    (hst : starEach (e :: es) X.env = (false, eval e X.env) :: starEach es X.env := by rfl) (hpl : (backTo pos (starEach es X.env)).any (·.1) = false := by rfl)
    (ht : eval (.Call (.Attribute o m apos) (e :: es) [] pos) X.env = (do
      let ov ← eval o X.env
      standAt apos.atName
      let (f, first) ← holding [ov] (getMethod ov m pl)
      callWith pos f first (backTo pos (starEach (e :: es) X.env)) (backToKw pos (keywordEach [] X.env))) := by rfl) : PE X (.Call (.Attribute o m apos) (e :: es) [] pos) (tMethE C m sp E ta t) := by
  obtain ⟨f, fd, F, hm, hb⟩ := G
  refine ⟨fun pins s σ H Q I h => ?_⟩
  refine PySem.W.methodCall_KW (pl := pl) (thn (he.run pins s σ H _ I h) fun u s1 ⟨x, H1, I1, rx, a, dx, fs, ex, ea, l, q⟩ => ?_) ht
  subst ex
  obtain rfl : u = Value.ref a := rx
  refine getmeth_ok I1 ea c hm l ?_
  refine PySem.W.callWith_K (first := [.ref a]) (h₀ := X.base) I.ok.mod.kin hm.kp (thn (ha.run pos pins s1 σ H1 _ I1 q) fun us s2 ⟨vs, H2, I2, r, q2⟩ => ⟨I2.kIn, ?_⟩) hst hpl
  exact run_fnS (us := .ref a :: us) (vs := .ref a :: vs) F hr hb (hx σ) I2 (.cons rfl r) q2
/-- C(e, ..) where __init__ may raise, at the slots -/
def tMakeE (C : Addr) (sp : Sp) (E : L2.St → XK) (t : TA) : TE := fun σ H Q => t σ H fun vs H1 => ∀ x dx, H1 x = none → H1 dx = none → dx ≠ x →
  sp (.ref x :: vs) (upd (upd H1 dx (.own x)) x (.ins C dx [])) (fun v H2 => v = .non ∧ Q (.ref x) H2) (fun cls d H2 => E σ cls d H2)
theorem run_makeE {pins : List (Addr × Obj)} {σ : L2.St} {H : Hp} {s : Shared} {Q : VK} {E : XK} {us : List Value} {vs : List V} (M : Mk X.K C f) (F : FnOk X.prog X.w X.K X.mg X.base CX k f fd ps sp) (hr : Room (k + 1) X.A) (hb : Binds X.K fd ps [])
    (hx : PassesAt CX X σ E) (I : Inv X pins σ H s) (r : Vals vs us)
    (h : ∀ x dx, H x = none → H dx = none → dx ≠ x → sp (.ref x :: vs) (upd (upd H dx (.own x)) x (.ins C dx [])) (fun v H2 => v = .non ∧ Q (.ref x) H2) E) :
    wpAny (model X.prog X.w) X.A (call (.ref C) us) (EP X pins σ Q) X.xe s := by
  have hq := h (s.heap.objs.size + 1) s.heap.objs.size (I.hok.fresh (Nat.le_succ _)) (I.hok.fresh (Nat.le_refl _)) (Nat.ne_of_lt (Nat.lt_succ_self _))
  have I2 := Inv.made (C := C) I
  have r2 : Vals (V.ref (s.heap.objs.size + 1) :: vs) (Value.ref (s.heap.objs.size + 1) :: us) := .cons rfl r
  have hl : (Value.ref (s.heap.objs.size + 1) :: us ++ []).length = ps.length := by
    have e := r2.length
    rw [F.len _ _ _ _ hq] at e
    rw [List.append_nil]
    exact e.symm
  have b := hb _ (Value.ref (s.heap.objs.size + 1) :: us) I2.kIn hl
  rw [List.append_nil] at b
  refine wpAny_call (make_map (f := f) I.kIn M.makes M.init (beq_iff_eq.mp M.fn) (codeAny_mono (F.run _ X.stack _ _ ⟨Value.ref (s.heap.objs.size + 1) :: us, []⟩ (Value.ref (s.heap.objs.size + 1) :: us) _ _ E (hr.make C us [])
    (I2.env0.make C us []) b r2 hq) fun r s' hq' => ?_))
  cases r with
  | error e => exact hx pins _ _ e s' I2 hq'
  | ok fl =>
    cases fl with
    | ret u =>
      obtain ⟨v, H', I3, rv, ev, q3⟩ := I2.after hq'
      subst ev
      exact ⟨rv, ⟨V.ref (s.heap.objs.size + 1), H', I3, rfl, q3⟩⟩
    | next => exact False.elim hq'
    | brk => exact False.elim hq'
    | cont => exact False.elim hq'
theorem pe_makeE {E : L2.St → XK} (M : Mk X.K C f) (F : FnOk X.prog X.w X.K X.mg X.base CX k f fd ps sp) (hr : Room (k + 1) X.A) (hg : Gl X x) (hm : X.mg x = some (.ref C)) (hb : Binds X.K fd ps []) (hx : ∀ σ, PassesAt CX X σ (E σ))
    (ha : PA X (e :: es) t) (hdb : (x == ("__debug__" : Str)) = false := by decide) (he : starEach (e :: es) X.env = (false, eval e X.env) :: starEach es X.env := by rfl) (hpl : (backTo pos (starEach es X.env)).any (·.1) = false := by rfl) :
    PE X (.Call (.Name x p) (e :: es) [] pos) (tMakeE C sp E t) := by
  refine ⟨fun pins s σ H Q I h => ?_⟩
  refine wpAny_Call_Name_kw (ld_glob I hg hm ?_ hdb)
  refine PySem.W.callWith_K (h₀ := X.base) I.ok.mod.kin M.kp (thn (ha.run pos pins s σ H _ I h) fun us s1 ⟨vs, H1, I1, r, q⟩ => ⟨I1.kIn, ?_⟩) he hpl
  exact run_makeE M F hr hb (hx σ) I1 r q
end
section
variable {X : Cx} {C : Addr} {bmB : List Value} {B newId initId : String}
/-- X() -/
theorem pmk_own0 {x : Str} {p pos : Pos} (F : ExcBaseFacts B newId initId bmB) (q : PySem.W.excIn X.K C bmB newId = true) (gC : X.mg x = some (.ref C)) (kC : PySem.W.keepIn X.K (.ref C) = true) (r : Raises X (.ref C)) (hg : Gl X x)
    (hdb : (x == ("__debug__" : Str)) = false := by decide) : PMk X (.Call (.Name x p) [] [] pos) (fun _ H Q => Q (.ref C) none H) := by
  intro pins s σ H Q I h
  refine wpAny_Call_Name_kw (ld_glob I hg gC ?_ hdb)
  refine PySem.W.callWith_K0 I.kIn kC ?_
  show wpAny _ _ (call (.ref C) []) _ _ _
  obtain ⟨bm, N, nm, qn, bs, hdct, sn, sub, ab, col, dd, k0, k1, k2, k3, k5, mN, hC, hN, hni, T⟩ := exc_obj I.kIn q
  refine wpAny_call_exc_subT F T hC hN hni (fun h' e hm => ?_) (by show 0 ≤ sizeLine; exact Nat.zero_le _)
  exact mk_of I hm r h (I.hok.gone hm.new)
end
/-- a dict comprehension over a walk -/
theorem dc_it {J : It} {n : Nat} {G : Hp → Prop} {Y : Nat → Hp → V → Hp → Prop} (w : Walk J n G Y) {g : TG} {tt : TT} {tk tv : TE} {vs : List Nat} {σ : L2.St} {H1 : Hp} {D : Addr} {Qd : Hp → Prop} (Pv : Nat → Hp → Prop) (h0 : Pv 0 (upd H1 D (.dK []))) (hG : ∀ i H, i ≤ n → Pv i H → G H)
    (hs : ∀ i x H H', i < n → Pv i H → Y i H x H' → g x (wipe σ vs) H' fun σ2 H2 => wipe σ2 vs = wipe σ vs ∧ tt σ2 H2 fun b H3 =>
      if b = true then tk σ2 H3 fun y H4 => tv σ2 H4 fun z H5 => ∃ kvs k, y = kV k ∧ H5 D = some (.dK kvs) ∧ kvs.length < sizeLine ∧ Pv (i + 1) (upd H5 D (.dK (putK kvs k z))) else Pv (i + 1) H3) (hd : ∀ H, Pv n H → Qd H) :
    ∃ W : Nat → Nat → Hp → Prop, (∃ m, W 0 m (upd H1 D (.dK []))) ∧ ∀ i m H, W i m H →
      (J.stop i H ∧ Qd H) ∨ (J.go i H ∧ ∃ Nx : Hp → Prop, (∀ H', Nx H' → ∃ m', m' < m ∧ W (i + 1) m' H') ∧ ∀ x H', J.yld i H x H' → g x (wipe σ vs) H' fun σ2 H2 => wipe σ2 vs = wipe σ vs ∧ tt σ2 H2 fun b H3 =>
        if b = true then tk σ2 H3 fun y H4 => tv σ2 H4 fun z H5 => ∃ kvs k, y = kV k ∧ H5 D = some (.dK kvs) ∧ kvs.length < sizeLine ∧ Nx (upd H5 D (.dK (putK kvs k z))) else Nx H3) := by
  refine ⟨fun i m H => m = n - i ∧ i ≤ n ∧ Pv i H, ⟨n, by simp, Nat.zero_le _, h0⟩, ?_⟩
  rintro i m H ⟨rfl, hi, p⟩
  have q := hG i H hi p
  by_cases hlt : i < n
  · refine .inr ⟨w.goes i H hlt q, Pv (i + 1), fun H' p' => ⟨n - (i + 1), by omega, rfl, hlt, p'⟩, fun x H' y => hs i x H H' hlt p (w.yields i H x H' hlt q y)⟩
  · have e : i = n := by omega
    subst e
    exact .inl ⟨w.stops H q, hd H p⟩
end Dk

set_option maxHeartbeats 4000000
/-! match over a tuple whose first item is a text -/
namespace Dk
open PySem PySem.Spec PyProof.Rows L2
/-- the captures of a pattern: names, each in its slot -/
inductive Caps (X : Cx) : List Pattern → List Str → List Nat → Prop where
  | nil : Caps X [] [] []
  | cons {n : Str} {i : Nat} {pos : Pos} {ps : List Pattern} {ns : List Str} {is : List Nat} (hi : X.N[i]? = some n) (hl : X.env.scope.names.lookup n = some .local) (h : Caps X ps ns is) : Caps X (.MatchAs none (some n) pos :: ps) (n :: ns) (i :: is)
theorem Caps.len {X : Cx} {ps : List Pattern} {ns : List Str} {is : List Nat} (h : Caps X ps ns is) : ns.length = ps.length ∧ is.length = ps.length := by
  induction h with
  | nil => exact ⟨rfl, rfl⟩
  | cons _ _ _ ih => exact ⟨by simp [ih.1], by simp [ih.2]⟩
theorem Caps.noStar {X : Cx} {ps : List Pattern} {ns : List Str} {is : List Nat} (h : Caps X ps ns is) : ∀ p, p ∈ ps → p.isStar = false := by
  induction h with
  | nil => intro p hp; cases hp
  | cons _ _ _ ih =>
    intro p hp
    rcases List.mem_cons.mp hp with e | m
    · subst e
      rfl
    · exact ih p m
/-- the slots stored one after the other -/
def setAll : L2.St → List Nat → List V → L2.St
  | σ, i :: is, v :: vs => setAll (σ.set i (some v)) is vs
  | σ, _, _ => σ
section
variable {X : Cx}
theorem caps_match {A : Around} {E : Value → Shared → Prop} {s : Shared} {Q : Option (List (Str × Value)) → Shared → Prop} {ps : List Pattern} {ns : List Str} {is : List Nat} (h : Caps X ps ns is) :
    ∀ {us : List Value}, us.length = ps.length → Q (some (ns.zip us)) s → wpAny (model X.prog X.w) A (matchEach ps X.env us) Q E s := by
  induction h generalizing Q with
  | nil =>
    intro us hl q
    cases us with
    | nil => exact wpAny_matchEach_nil q
    | cons _ _ => cases hl
  | @cons n i pos ps ns is hi hl h ih =>
    intro us hlen q
    cases us with
    | nil => cases hlen
    | cons u us =>
      refine wpAny_matchEach_cons (wpAny_matchPattern_Capture ?_)
      exact ih (by simpa using hlen) q
theorem caps_assign {ps : List Pattern} {ns : List Str} {is : List Nat} (h : Caps X ps ns is) (hN : X.N.Nodup) : ∀ {pins : List (Addr × Obj)} {s : Shared} {σ : L2.St} {H : Hp} {E : Value → Shared → Prop} {Q : Unit → Shared → Prop} {vs : List V} {us : List Value}, Inv X pins σ H s → Vals vs us → us.length = ns.length →
    (∀ s', Inv X pins (setAll σ is vs) H s' → Q () s') → wpAny (model X.prog X.w) X.A (assignInOrder ((ns.zip us).map fun (n, _) => bindName X.env n) ((ns.zip us).map (·.2))) Q E s := by
  induction h with
  | nil =>
    intro pins s σ H E Q vs us I r hl q
    refine wpAny_assignInOrder_none (q s ?_)
    cases vs <;> exact I
  | @cons n i pos ps ns is hi hl h ih =>
    intro pins s σ H E Q vs us I r hlen q
    cases r with
    | nil => cases hlen
    | @cons v u vs us rv rs =>
      show wpAny _ _ (assignInOrder ((fun (n, _) => bindName X.env n) (n, u) :: (ns.zip us).map fun (n, _) => bindName X.env n) (u :: (ns.zip us).map (·.2))) _ _ _
      refine wpAny_assignInOrder_more ?_
      show wpAny _ _ (bindName X.env n u) _ _ _
      refine wpAny_bindName (store_ok I hN hi (.inl hl) rv (fun s1 I1 => ?_) (.inr hl))
      exact ih I1 rs (by simpa using hlen) q
/-- the cases of a match whose subject is a tuple -/
structure PMs (X : Cx) (cs : List MatchCase) (t : Addr → List V → TS) : Prop where
  run : ∀ (fst : Bool) (pins : List (Addr × Obj)) (s : Shared) (σ : L2.St) (H : Hp) (D : Ends) (a : Addr) (xs : List V), Inv X pins σ H s → SqT X.K H a xs → t a xs D σ H → wpAny (model X.prog X.w) X.A (matchCases cs X.env (.ref a) fst) (SP X pins D) X.xe s
def mNil : Addr → List V → TS := fun _ _ D σ H => D.nx σ H
theorem pms_nil : PMs X [] mNil := ⟨fun fst pins s σ H D a xs I q h => wpAny_matchCases_nil ⟨σ, H, I, h⟩⟩
/-- case ("kind", a, b, ..) -/
def mCase (kind : Str) (is : List Nat) (tb : TS) (tr : Addr → List V → TS) : Addr → List V → TS := fun a xs D σ H =>
  if xs.length = is.length + 1 then ∃ z ys, xs = .str z :: ys ∧ (if z = kind then tb D (setAll σ is ys) H else tr a xs D σ H) else tr a xs D σ H
theorem pms_case {kind : Str} {j : Nat} {p1 p2 pos : Pos} {ps : List Pattern} {ns : List Str} {is : List Nat} {body : List Stmt} {rest : List MatchCase} {tb : TS} {tr : Addr → List V → TS} (hc : X.calm = true) (hN : X.N.Nodup) (h : Caps X ps ns is) (hb : PSs X body tb) (hr : PMs X rest tr) :
    PMs X (⟨.MatchSequence (.MatchValue (.Constant (.str kind) j p1) p2 :: ps) pos, none, body⟩ :: rest) (mCase kind is tb tr) := by
  refine ⟨fun fst pins s σ H D a xs I q hw => ?_⟩
  obtain ⟨its, rv, ht, hz⟩ := I.tuple q
  have hsl : sizeLine = 16777216 := sizeLine_eq
  have hfit : ((its.toArray.size : Nat) : Int) < 2 ^ 63 := by
    rw [List.size_toArray, ← rv.length]
    omega
  have hstar : (Pattern.MatchValue (.Constant (.str kind) j p1) p2 :: ps).findIdx? (·.isStar) = none := by
    refine List.findIdx?_eq_none_iff.mpr fun p hp => ?_
    rcases List.mem_cons.mp hp with e | m
    · subst e
      rfl
    · exact h.noStar p m
  have hwild : ((Pattern.MatchValue (.Constant (.str kind) j p1) p2 :: ps).all fun p => p.isWildcard || (p.isStar && p.names.isEmpty)) = false := by
    rw [List.all_cons]
    rfl
  unfold mCase at hw
  refine wpAny_matchCases_cons ?_
  by_cases hlen : xs.length = is.length + 1
  · rw [if_pos hlen] at hw
    obtain ⟨z, ys, rfl, hw⟩ := hw
    have hsz : its.toArray.size = (Pattern.MatchValue (.Constant (.str kind) j p1) p2 :: ps).length := by
      rw [List.size_toArray, ← rv.length, hlen, h.len.2]
      rfl
    refine matchSeq_tuple_hit ht hfit hsz ?_ hstar hwild
    have ht' : IsTup (({ s with toks := s.toks + 1 + 1 } : Shared)).heap a its.toArray := ht
    rw [← hsz]
    refine unpackItems_tuple (I.ok.hd hc) ht' fun h' hx => ?_
    have I1 : Inv X pins σ H { s with heap := h', toks := s.toks + 1 + 1 } := I.kept (t' := s.toks + 1 + 1) fun b o e => hx b o (Nat.ne_of_lt (Heap.lt_size e)) e
    show wpAny _ _ (matchEach _ _ its.toArray.toList) _ _ _
    rw [List.toList_toArray]
    cases rv with
    | @cons _ u _ us ru rs =>
      refine wpAny_matchEach_cons ?_
      refine wpAny_matchPattern_Value ?_
      refine thn ((pe_str (X := X) (x := kind) (j := j) (pos := p1)).run pins _ σ H (fun y H1 => y = .str kind ∧ H1 = H) I1 ⟨rfl, rfl⟩) fun ku s2 ⟨y, H2, I2, r2, ey, eH⟩ => ?_
      subst ey
      subst eH
      refine thn (op_eq pins s2 σ H2 (.str z) (.str kind) u ku (fun c H3 => c = .bl (decide (V.str z = V.str kind)) ∧ H3 = H2) I2 ru r2 ⟨rfl, rfl, rfl⟩) fun cv s3 ⟨c, H3, I3, r3, ec, eH⟩ => ?_
      subst ec
      subst eH
      cases r3
      refine wpAny_truthy_bool ?_
      have hus : us.length = ps.length := by
        have := rs.length
        have := h.len.2
        simp only [List.length_cons] at hlen
        omega
      by_cases hk : z = kind
      · rw [if_pos hk] at hw
        subst hk
        have et : decide (V.str z = V.str z) = true := decide_eq_true rfl
        rw [if_pos et]
        refine caps_match h hus ?_
        show wpAny _ _ (assignInOrder (((ns.zip us)).map fun (n, _) => bindName X.env n) ((ns.zip us).map (·.2))) _ _ _
        refine caps_assign h hN I3 rs (by rw [hus, h.len.1]) fun s4 I4 => ?_
        exact hb.run pins s4 _ _ D I4 hw
      · rw [if_neg hk] at hw
        have et : decide (V.str z = V.str kind) = false := decide_eq_false fun e => hk (V.str.inj e)
        rw [if_neg (by rw [et]; exact Bool.false_ne_true)]
        exact hr.run false pins s3 σ _ D a _ I3 q hw
  · rw [if_neg hlen] at hw
    have hsz : its.toArray.size ≠ (Pattern.MatchValue (.Constant (.str kind) j p1) p2 :: ps).length := by
      rw [List.size_toArray, ← rv.length]
      have := h.len.2
      simp only [List.length_cons]
      omega
    exact matchSeq_tuple_miss ht hfit hsz (hr.run false pins _ σ H D a xs (I.tok _) q hw) hstar hwild
/-- match e: .. -/
def tMatch (K : PySem.W.Frag) (te : TE) (tm : Addr → List V → TS) : TS := fun D σ H => te σ H fun x H1 => ∃ a xs, x = .ref a ∧ SqT K H1 a xs ∧ tm a xs D σ H1
theorem ps_match {e : Expr} {te : TE} {cs : List MatchCase} {tm : Addr → List V → TS} {pos : Pos} (he : PE X e te) (hm : PMs X cs tm) : PS X (.Match e cs pos) (tMatch X.K te tm) := by
  refine ⟨fun pins s σ H D I h => ?_⟩
  refine wpAny_Match (thn (he.run pins s σ H _ I h) fun u s1 ⟨x, H1, I1, r1, a, xs, ex, q, hw⟩ => ?_)
  subst ex
  cases r1
  exact hm.run true pins s1 σ H1 D a xs I1 q hw
end
end Dk

set_option maxHeartbeats 4000000
/-! sorted(d.items()), d with int keys and int values -/
namespace Rt
open PySem PySem.Spec PyProof.Rows L2 LiI
theorem pair_fun {h : Heap} {v : Value} {x y x' y' : Int} (p : Srt.IsPair h v x y) (q : Srt.IsPair h v x' y') : x = x' ∧ y = y' := by
  obtain ⟨a, o, t, u, n, rfl, h1, _, d1⟩ := p
  obtain ⟨b, o', t', u', n', e, h2, _, d2⟩ := q
  cases e
  rw [h1] at h2
  cases h2
  rw [d1] at d2
  injection d2 with d3 _
  have e := congrArg Array.toList d3
  simp at e
  exact ⟨e.1.1, e.2.1⟩
open Classical in
noncomputable def kOf (h : Heap) (v : Value) : Int × Int := if q : ∃ p : Int × Int, Srt.IsPair h v p.1 p.2 then choose q else (0, 0)
theorem kOf_eq {h : Heap} {v : Value} {n : Int × Int} (p : Srt.IsPair h v n.1 n.2) : kOf h v = n := by
  unfold kOf
  have q : ∃ p : Int × Int, Srt.IsPair h v p.1 p.2 := ⟨n, p⟩
  rw [dif_pos q]
  obtain ⟨e1, e2⟩ := pair_fun (Classical.choose_spec q) p
  exact Prod.ext e1 e2
def addrOf : Value → Addr
  | .ref a => a
  | _ => 0
theorem paired_map {α β γ : Type} {F : β → γ → Prop} {f : α → β} {g : α → γ} : ∀ {l : List α}, (∀ v ∈ l, F (f v) (g v)) → Paired F (l.map f) (l.map g)
  | [], _ => .nil
  | v :: l, h => .cons (h v List.mem_cons_self) (paired_map fun u hu => h u (List.mem_cons_of_mem _ hu))
section
variable {X : Cx} {e : Expr} {te : TE} {p apos cpos pos : Pos}
theorem laid {pins : List (Addr × Obj)} {σ : L2.St} {H : Hp} {s : Shared} {h3 : Heap} {tk : Nat} {kvs : List (Key × V)} {vs : List (Key × Value)} {out : Array Value} {outs : List Addr} {c : Nat} {as : List Addr} {P : Addr} (I : Inv X pins σ H s) (kv : KV kvs vs)
    (hk : ∀ b o, s.heap.get? b = some o → h3.get? b = some o) (hP : s.heap.objs.size ≤ P) (hPn : P ∉ as) (hS : h3.get? P = some (seqObj "list" out c)) (hl : as.length = vs.length) (hG : PySem.W.KdxG (mixKind X.prog X.w) vs s.heap.objs.size h3 as) (ho : out.toList = outs.map Value.ref) (hol : outs.length ≤ sizeLine) :
    ∃ H' : Hp, (∀ b o, H b = some o → H' b = some o) ∧ H P = none ∧ (∀ t ∈ as, H t = none) ∧ H' P = some (.lst (outs.map V.ref)) ∧ Paired (fun (t : Addr) (q : Key × V) => H' t = some (.tup [kV q.1, q.2])) as kvs ∧ Inv X pins σ H' { s with heap := h3, toks := tk } := by
  have lk : kvs.length = vs.length := Paired.length kv
  have nd : as.Nodup := List.Pairwise.imp (fun {a b} (h : a < b) => Nat.ne_of_lt h) hG.rise
  have new : ∀ t ∈ as, H t = none := fun t ht => I.hok.fresh (Nat.le_of_lt (hG.above t ht))
  have newS : H P = none := I.hok.fresh hP
  have atP := putT_at as kvs (upd H P (.lst (outs.map V.ref))) (by omega) nd
  have off : ∀ b, b ∉ as → b ≠ P → putT (upd H P (.lst (outs.map V.ref))) as kvs b = H b := fun b h1 h2 => by rw [putT_off as kvs _ h1, upd_ne h2]
  have low : ∀ b o, s.heap.get? b = some o → b ∉ as ∧ b ≠ P := fun b o e => ⟨fun z => absurd (Heap.lt_size e) (Nat.not_lt.mpr (Nat.le_of_lt (hG.above b z))), Nat.ne_of_lt (Nat.lt_of_lt_of_le (Heap.lt_size e) hP)⟩
  have kp : ∀ b u, H b = some u → (putT (upd H P (.lst (outs.map V.ref))) as kvs) b = some u := fun b u e => by
    rw [off b (fun z => by rw [new b z] at e; cases e) (fun z => by rw [z, newS] at e; cases e)]
    exact e
  have eS : putT (upd H P (.lst (outs.map V.ref))) as kvs P = some (.lst (outs.map V.ref)) := by rw [putT_off as kvs _ hPn, upd_same]
  refine ⟨putT (upd H P (.lst (outs.map V.ref))) as kvs, kp, newS, new, eS, atP, ?_⟩
  refine I.call' (ch := []) rfl ⟨fun b o q _ _ _ => hk b o q, fun b o q _ _ _ => ⟨o.slots, hk b o q⟩, fun b o q n _ => ?_, fun b o q _ => ⟨o, hk b o q⟩, fun b xs q => kp b _ q, fun b o u q => kp b _ q, fun b ps q => ⟨#[], by rw [kp b _ q]; simp⟩⟩ (fun b u q => ?_) I.bare fun b z => by simp at z
  · obtain ⟨z1, z2⟩ := low b o q
    rw [off b z1 z2]
    exact n
  · by_cases hb : b ∈ as
    · obtain ⟨j, pk, e1, e2, e3⟩ := paired_ix atP hb
      rw [e3] at q
      cases q
      obtain ⟨key, k, x, f1, f2, f3⟩ := hG.pairs j b e1
      obtain ⟨qv, g1, g2, g3⟩ := LiI.paired_get kv e2
      rw [f1] at g1
      cases g1
      have rk : RelV (kV pk.1) key := by
        rw [g2]
        exact relV_key (show keyIs k key = true from f2)
      exact ⟨by show 2 ≤ sizeLine; decide, [key, x], .cons rk (.cons g3 .nil), ⟨_, f3, rfl, _, rfl⟩⟩
    · by_cases hb2 : b = P
      · rw [hb2] at q ⊢
        rw [eS] at q
        cases q
        refine ⟨by rw [List.length_map]; omega, out.toList, c, by rw [ho]; exact vals_refs outs, ?_⟩
        rw [Array.toArray_toList]
        exact hS
      · rw [off b hb hb2] at q
        exact (I.hok b u q).stay (fun d v _ y => hk d v y) (fun d y => kp d _ y) fun d xs y => kp d _ y
def kvI (ns : List (Int × Int)) : List (Key × V) := ns.map fun n => (Sum.inl n.1, V.int n.2)
def rItemsS : V → Hp → VK → Prop := fun x H Q => ∃ (d : Addr) (ns : List (Int × Int)), x = .ref d ∧ H d = some (.dK (kvI ns)) ∧
  ∀ (H' : Hp) (p : Addr) (ts : List Addr) (ms : List (Int × Int)), (∀ b o, H b = some o → H' b = some o) → H p = none → H' p = some (.lst (ts.map V.ref)) → Paired (fun (t : Addr) (n : Int × Int) => H' t = some (.tup [.int n.1, .int n.2])) ts ms → ms.Perm ns → ms.Pairwise (fun a b => SrtO.lexB b a = false) → Q (.ref p) H'
def tItemsS (te : TE) : TE := fun σ H Q => te σ H fun x H1 => rItemsS x H1 Q
/-- sorted(e.items()) -/
theorem pe_sortedItems (hc : X.calm = true) (he : PE X e te) (hg : Gl X "sorted") (hm : X.mg "sorted" = none) (hv : bootBuiltins "sorted" = some (.builtin "sorted")) (hbase : attributeBase e "items" X.env (eval e X.env) = eval e X.env := by rfl) (hline : (apos.endLine == cpos.line) = true := by rfl)
    (hs : starEach [.Call (.Attribute e "items" apos) [] [] cpos] X.env = (false, eval (.Call (.Attribute e "items" apos) [] [] cpos) X.env) :: starEach [] X.env := by rfl) :
    PE X (.Call (.Name "sorted" p) [.Call (.Attribute e "items" apos) [] [] cpos] [] pos) (tItemsS te) := by
  refine ⟨fun pins s σ H Q I hq => ?_⟩
  refine wpAny_Call_Name_kw (ld_blt I hg hm hv ?_)
  refine PyProof.Rows.callWith_builtin1 ?_ hs rfl
  rw [hs]
  show wpAny _ _ (spliced ((false, eval (.Call (.Attribute e "items" apos) [] [] cpos) X.env) :: backTo pos (starEach [] X.env))) _ _ s
  refine Calls.spliced_cons ?_
  refine wpAny_Call_method (T := "dict") (id := "dict.items") hbase rfl hline F.plainAttrs_dict F.slot_dict_items F.type_dict_items (thn (he.run pins s σ H _ I hq) fun u s1 ⟨x, H1, I1, rx, d, ns, ex, hd, q⟩ => ?_)
  subst ex
  obtain rfl : u = Value.ref d := rx
  obtain ⟨hz, hs0, vs, kv, hdo⟩ := I1.hok d _ hd
  obtain ⟨ep, hat⟩ := hdo.dictAt
  have lk : (kvI ns).length = vs.length := Paired.length kv
  have I2 : Inv X pins σ H1 { s1 with heap := s1.heap.push { cls := .type "dict_items", data := .fields #[.ref d] } } := I1.kept (t' := s1.toks) fun b ob q => Heap.get?_push_of_some _ q
  refine ⟨hdo.typeIs, hdo.mapOf.noDict, ?_⟩
  show wpAny _ _ (callWith cpos (.builtin "dict.items") [.ref d] [] []) _ X.xe s1
  refine method_meetsIn F.slot_dict_items F.entry_dict_items rfl (PySem.evalArgs_none ⟨rfl, hdo.typeIs, F.args_dict_items_1 _, _, meets_dict_items (mixKind X.prog X.w) d hs0, ⟨vs, hdo⟩, ?_⟩)
  refine Calls.spliced_nil ?_
  refine Calls.call_function_entry kind_sorted plain_sorted entry_sorted (args_sorted1 _) ?_
  unfold Builtin.«sorted»
  refine wpAny_bind (m := checkCount "sorted" 1 1 _) (wpAny_pure ?_)
  refine wpAny_bind (PySem.W.kdx_collect (A := X.A.in1) (knd := mixKind X.prog X.w) (kvs := vs) (ep := ep) (I1.ok.hd hc) ⟨_, Heap.get?_push_size _ rfl, rfl, rfl⟩ (hat.push _) (by omega) fun h' tk as hk hl hG => ?_)
  refine wpAny_bind (wpAny_newList ?_ (by rw [List.length_map]; omega))
  have hob : (h'.push { cls := .type "list", data := .seq (as.map Value.ref).toArray }).get? h'.objs.size = some (seqObj "list" (as.map Value.ref).toArray 0) := Heap.get?_push_size _ rfl
  have ka : ∀ b o, h'.get? b = some o → b ≠ h'.objs.size ∧ (h'.push { cls := .type "list", data := .seq (as.map Value.ref).toArray }).get? b = some o := fun b o e => ⟨Nat.ne_of_lt (Heap.lt_size e), Heap.get?_push_of_some _ e⟩
  have hsz : (h'.push { cls := .type "list", data := .seq (as.map Value.ref).toArray }).objs.size = h'.objs.size + 1 := Heap.size_push _ _
  generalize h'.push { cls := .type "list", data := .seq (as.map Value.ref).toArray } = h2 at hob ka hsz ⊢
  -- the pairs
  have pr : ∀ (j : Nat) (b : Addr), as[j]? = some b → ∃ n, ns[j]? = some n ∧ Srt.IsPair h2 (.ref b) n.1 n.2 := by
    intro j b hj
    obtain ⟨key, k, x, f1, f2, f3⟩ := hG.pairs j b hj
    have hjl : j < vs.length := (List.getElem?_eq_some_iff.mp f1).1
    have hjn : j < ns.length := by rw [← lk] at hjl; unfold kvI at hjl; rw [List.length_map] at hjl; exact hjl
    have e2 : (kvI ns)[j]? = some (Sum.inl ns[j].1, V.int ns[j].2) := by unfold kvI; rw [List.getElem?_map, List.getElem?_eq_getElem hjn]; rfl
    obtain ⟨qv, g1, g2, g3⟩ := LiI.paired_get kv e2
    rw [f1] at g1
    cases g1
    have g2 : (Sum.inl ns[j].1 : Key) = k := g2
    subst g2
    have rk : RelV (.int ns[j].1) key := relV_key (k := (Sum.inl ns[j].1 : Key)) (show keyIs (Sum.inl ns[j].1) key = true from f2)
    obtain ⟨t1, rfl⟩ := rk
    obtain ⟨t2, rfl⟩ := (show RelV (.int ns[j].2) x from g3)
    exact ⟨ns[j], List.getElem?_eq_getElem hjn, b, _, t1, t2, 0, rfl, (ka _ _ f3).2, rfl, rfl⟩
  have len : as.length = ns.length := by
    rw [hl, ← lk]
    unfold kvI
    rw [List.length_map]
  have emap : (as.map Value.ref).map (kOf h2) = ns := by
    apply List.ext_getElem (by rw [List.length_map, List.length_map, len])
    intro j h1 h3
    obtain ⟨n, e1, e2⟩ := pr j as[j] (List.getElem?_eq_getElem _)
    rw [List.getElem_map, List.getElem_map, kOf_eq e2]
    rw [List.getElem?_eq_getElem h3] at e1
    exact (Option.some.inj e1).symm
  have hp : ∀ v ∈ as.map Value.ref, Srt.IsPair h2 v (kOf h2 v).1 (kOf h2 v).2 := fun v hv => by
    obtain ⟨b, hb, rfl⟩ := List.mem_map.mp hv
    obtain ⟨j, hj⟩ := List.mem_iff_getElem?.mp hb
    obtain ⟨n, _, e⟩ := pr j b hj
    rw [kOf_eq e]
    exact e
  refine wpAny_bind (wpAny_holding (wpAny_call_entry slot_list_sort ⟨_, hob, rfl⟩ entry_list_sort (SrtO.list_sort_ord (SrtO.swo_lex (kOf h2)) hob (by rw [List.length_map]; omega) (fun h2' => SrtO.pairs_sortableO (s := { s1 with heap := h2, toks := tk }) (by omega) hp fun o e => ?_) fun out h1 hb => ⟨_, rfl, ?_⟩) (args_list_sort _)))
  · have e' : some o = some (seqObj "list" (as.map Value.ref).toArray 0) := e.symm.trans hob
    cases e'
    intro c
    exact absurd (Value.type.inj c) (by decide)
  refine wpAny_pure ⟨_, rfl, ?_⟩
  obtain ⟨en, he'⟩ := sortedHeap_at (vs := as.map Value.ref) (out := out.toArray) hob
  have k3 : ∀ b o, h'.get? b = some o → (sortedHeap h2 h'.objs.size (as.map Value.ref) out.toArray).get? b = some o := fun b o e => by
    rw [sortedHeap_old (ka b o e).1 (Heap.lt_size (ka b o e).2)]
    exact (ka b o e).2
  have hrefs : ∀ v ∈ out, ∃ b, b ∈ as ∧ v = Value.ref b := fun v hv => by
    obtain ⟨b, hb', e⟩ := List.mem_map.mp (hb.perm.mem_iff.mp hv)
    exact ⟨b, hb', e.symm⟩
  have eo : out = (out.map addrOf).map Value.ref := by
    rw [List.map_map]
    have : out.map id = out.map (Value.ref ∘ addrOf) := List.map_congr_left fun v hv => by
      obtain ⟨b, _, rfl⟩ := hrefs v hv
      rfl
    rw [List.map_id] at this
    exact this
  have hG3 : PySem.W.KdxG (mixKind X.prog X.w) vs (s1.heap.push { cls := .type "dict_items", data := .fields #[.ref d] }).objs.size (sortedHeap h2 h'.objs.size (as.map Value.ref) out.toArray) as :=
    ⟨hG.rise, hG.above, fun j a hj => by
      obtain ⟨key, k, x, f1, f2, f3⟩ := hG.pairs j a hj
      exact ⟨key, k, x, f1, f2, k3 _ _ f3⟩⟩
  have hPas : h'.objs.size ∉ as := fun z => by
    have := hG.there z
    exact Nat.lt_irrefl _ this
  have hPle : (s1.heap.push { cls := .type "dict_items", data := .fields #[.ref d] }).objs.size ≤ h'.objs.size := by
    have := Heap.lt_size (hk s1.heap.objs.size _ (Heap.get?_push_size _ rfl))
    rw [Heap.size_push]
    exact this
  have hol : out.length = as.length := by rw [hb.perm.length_eq, List.length_map]
  obtain ⟨H', q1, q2, q3, q4, q5, J⟩ := laid (tk := tk) (P := h'.objs.size) (outs := out.map addrOf) I2 kv (fun b o e => k3 _ _ (hk b o e)) hPle hPas he' hl hG3 (by rw [← eo]) (by rw [List.length_map, hol]; omega)
  refine ⟨.ref _, H', J, rfl, q H' _ (out.map addrOf) (out.map (kOf h2)) q1 q2 q4 ?_ ?_ ?_⟩
  · refine paired_map fun v hv => ?_
    obtain ⟨b, hb', rfl⟩ := hrefs v hv
    obtain ⟨j, hj⟩ := List.mem_iff_getElem?.mp hb'
    obtain ⟨n, e1, e2⟩ := pr j b hj
    rw [kOf_eq e2]
    obtain ⟨qv, g1, g2⟩ := LiI.paired_get q5 hj
    have : (kvI ns)[j]? = some (Sum.inl n.1, V.int n.2) := by unfold kvI; rw [List.getElem?_map, e1]; rfl
    rw [this] at g1
    cases g1
    exact g2
  · have := hb.perm.map (kOf h2)
    rw [emap] at this
    exact this
  · exact List.pairwise_map.mpr h1
/-- xs[i] op= e: what is read, 0 ≤ i -/
theorem pget_list : PGet X (rIxL X.K) := by
  intro pins s σ H o i ov iv Q I ro ri h
  obtain ⟨p, xs, k, z, rfl, rfl, hq, he, q⟩ := h
  cases ro
  obtain ⟨t, rfl⟩ := ri
  obtain ⟨its, r, pl, hz⟩ := I.list hq
  obtain ⟨j, h1, h2, h3, h4, h5⟩ := atI_get he
  obtain ⟨w, ew, rw'⟩ := r.get h2
  have hl := r.length
  have hn := line63
  have fin : EP X pins σ Q w s := ⟨z, H, I, rw', q⟩
  by_cases h0 : 0 ≤ k
  · have hj : k.toNat = j := by
      rw [seqIndex_of h0 h5] at h1
      exact Option.some.inj h1
    exact wpAny_getItem_list pl.isList h0 (by omega) (by rw [hj]; simpa using ew) fin
  · have hj : (k + (its.toArray.size : Int)).toNat = j := by
      rw [seqIndex_neg (by omega) h4] at h1
      rw [List.size_toArray, ← hl]
      exact Option.some.inj h1
    exact wpAny_getItem_list_neg pl.isList (by omega) (by rw [List.size_toArray] <;> omega) (by omega) (by rw [hj]; simpa using ew) fin
end
end Rt

set_option maxHeartbeats 4000000
/-! tuple(list) whose object stays known; dict(tuple of pairs); d.update(dict) -/
namespace Rd
open PySem PySem.Spec PyProof.Rows L2
section
variable {X : Cx}
theorem call_tuple_ofF : CallR X (.type "tuple") (fun xs H Q => ∃ p ys, xs = [.ref p] ∧ SqL X.K H p ys ∧ ∀ l o, H l = none → o.dict = none → Q (.ref l) (upd H l (.frz o (.tup ys)))) := by
  intro pins s σ H xs us Q I r h
  obtain ⟨p, ys, rfl, hq, q⟩ := h
  obtain ⟨u, rfl, rx⟩ := vals1 r
  cases rx
  obtain ⟨its, r', pl, hz⟩ := I.list hq
  have hlen := r'.length
  refine call_tuple_list pl.isList (fun h' kp => ?_) (by simp only [List.size_toArray] <;> omega)
  have I1 : Inv X pins σ H { s with heap := h' } := I.kept (t' := s.toks) kp
  have I2 : Inv X pins σ (upd H h'.objs.size (.frz { cls := .type "tuple", data := .seq its.toArray } (.tup ys))) { s with heap := h'.push { cls := .type "tuple", data := .seq its.toArray } } :=
    I1.laid (t' := s.toks) (fun b o e => Heap.get?_push_of_some _ e) (Nat.le_refl _) (show ObjOk X.prog X.w _ _ _ (.frz _ (.tup ys)) from ⟨Heap.get?_push_size _ rfl, hz, its, r', IsTup.new _ _⟩)
  exact ⟨.ref h'.objs.size, _, I2, rfl, q _ _ (I1.hok.fresh (Nat.le_refl _)) rfl⟩
theorem pairs_of2 {pins : List (Addr × Obj)} {σ : L2.St} {H : Hp} {s : Shared} (I : Inv X pins σ H s) : ∀ {ps : List Addr} {kvs : List (Key × V)}, Paired (fun p kv => SqT X.K H p [kV kv.1, kv.2]) ps kvs →
    ∃ (prs : List (Key × Value)) (us : List (Value × Value)), KV kvs prs ∧ prs.length = ps.length ∧ us.length = ps.length ∧ ∀ (j : Nat) (b : Addr), ps[j]? = some b → ∃ k u v, prs[j]? = some (k, v) ∧ us[j]? = some (u, v) ∧ IsTup s.heap b #[u, v] ∧ keyIs k u = true
  | _, _, .nil => ⟨[], [], .nil, rfl, rfl, fun j b e => by simp at e⟩
  | _, _, .cons (a := p) (b := kv) h t => by
    obtain ⟨prs, us, r, hl, hl2, hp⟩ := pairs_of2 I t
    obtain ⟨its, rv, ht, _⟩ := I.tuple h
    obtain ⟨u, y, ei, ru, ry⟩ := vals2 rv
    subst ei
    refine ⟨(kv.1, y) :: prs, (u, y) :: us, .cons ⟨rfl, ry⟩ r, by rw [List.length_cons, List.length_cons, hl], by rw [List.length_cons, List.length_cons, hl2], fun j b e => ?_⟩
    cases j with
    | zero =>
      have e' : p = b := Option.some.inj e
      subst e'
      exact ⟨kv.1, u, y, rfl, rfl, ht, kV_is (P := X.prog) (w := X.w) ru⟩
    | succ j =>
      obtain ⟨k, u', v, e1, e2, e3, e4⟩ := hp j b (by simpa using e)
      exact ⟨k, u', v, by simpa using e1, by simpa using e2, e3, e4⟩
/-- dict(t) of a tuple of pairs (key, value) -/
theorem call_dictPT (hcalm : X.calm = true) : CallR X (.type "dict") (fun xs H Q => ∃ (a : Addr) (o : Obj) (ps : List Addr) (kvs : List (Key × V)), xs = [.ref a] ∧ H a = some (.frz o (.tup (ps.map V.ref))) ∧ o.dict = none ∧ Paired (fun p kv => SqT X.K H p [kV kv.1, kv.2]) ps kvs ∧
    ∀ p, H p = none → Q (.ref p) (upd H p (.dK (mergeK [] kvs)))) := by
  intro pins s σ H xs us Q I r q
  obtain ⟨a, o, ps, kvs, ex, hq, hdn, hp, q⟩ := q
  subst ex
  obtain ⟨u, eu, rx⟩ := vals1 r
  subst eu
  cases rx
  obtain ⟨ho, hz, its, rv, o', ho', hc, n, hdat⟩ := (show ObjOk X.prog X.w H s.heap a (.frz o (.tup (ps.map V.ref))) from I.hok a _ hq)
  have eo : o = o' := by
    rw [ho] at ho'
    exact Option.some.inj ho'
  subst eo
  have ei := refs_at rv
  subst ei
  rw [List.length_map] at hz
  obtain ⟨prs, us, rel, hl, hl2, hpr⟩ := pairs_of2 I hp
  have key := PySem.call_dict_pairs (prog := X.prog) (w := X.w) (A := X.A) (E := X.xe) (s := s) (knd := mixKind X.prog X.w) (kvs := prs) (Q := EP X pins σ Q)
    (PySem.PairArg.tuple (prog := X.prog) (w := X.w) a (ps.map Value.ref).toArray (fun j => ps.getD j 0) us) (I.ok.hd hcalm)
    ⟨⟨o, n, ho, hc, hdn, hdat⟩, by simp [hl2], fun j k v hj => by
      have hjl : j < ps.length := by rw [← hl2]; exact (List.getElem?_eq_some_iff.mp hj).1
      obtain ⟨k', u', v', e1, e2, e3, e4⟩ := hpr j ps[j] (List.getElem?_eq_getElem hjl)
      rw [hj] at e2
      cases e2
      have eg : ps.getD j 0 = ps[j] := by rw [List.getD_eq_getElem?_getD, List.getElem?_eq_getElem hjl]; rfl
      exact ⟨by simp [hjl], .inl (by show s.heap.IsTuple (ps.getD j 0) #[k, v]; rw [eg]; exact e3)⟩⟩
    ⟨by rw [hl, hl2], fun i k v hi => by
      have hjl : i < ps.length := by rw [← hl2]; exact (List.getElem?_eq_some_iff.mp hi).1
      obtain ⟨k', u', v', e1, e2, e3, e4⟩ := hpr i ps[i] (List.getElem?_eq_getElem hjl)
      have hi' : us[i]? = some (k, v) := hi
      rw [hi'] at e2
      cases e2
      exact ⟨k', e1, e4⟩⟩ (by rw [hl2]; exact hz) (fun h' tk hd' hk => ?_)
  · exact key
  · have hm : (s.heap.objs.size == sysModules) = false := beq_eq_false_iff_ne.mpr (Nat.ne_of_gt I.big)
    have hlen : (mergeK [] kvs).length ≤ sizeLine := by
      refine Nat.le_trans (length_mergeK kvs []) ?_
      rw [List.length_nil, Nat.zero_add, rel.length, hl]
      exact hz
    exact ⟨.ref s.heap.objs.size, upd H s.heap.objs.size (.dK (mergeK [] kvs)), I.laid (t' := tk) (fun b o e => hk b o List.not_mem_nil e) (Nat.le_refl _) (show ObjOk X.prog X.w _ _ _ (.dK (mergeK [] kvs)) from ⟨hlen, hm, merged [] prs, KV.merge rel .nil, hd'⟩), rfl, q _ (I.hok.fresh (Nat.le_refl _))⟩
end
section
variable {X : Cx} {pins : List (Addr × Obj)} {σ : L2.St} {H : Hp} {s : Shared} {a b : Addr} {kvs more : List (Key × V)} {A : Around} {E : Value → Shared → Prop}
theorem d_update {Q : Value → Shared → Prop} (I : Inv X pins σ H s) (e : H a = some (.dK kvs)) (eb : Rd H b (.dK more)) (hne : a ≠ b) (hsz : kvs.length + more.length ≤ sizeLine)
    (h : ∀ s', Inv X pins σ (upd H a (.dK (mergeK kvs more))) s' → Q .none s') : wpAny (model X.prog X.w) A (call (.builtin "dict.update") [.ref a, .ref b]) Q E s := by
  obtain ⟨z, hd, vs, rel, dd⟩ := dk_of I.hok e
  obtain ⟨z2, hd2, vs2, rel2, dd2⟩ := dk_rd I.hok eb
  refine call_meetsIn PySem.F.slot_dict_update dd.typeIs PySem.F.entry_dict_update (PySem.F.args_dict_update_2 _ _) (meets_dict_update (mixKind X.prog X.w) a b hne hd2)
    ⟨vs, vs2, dd, dd2, (by rw [← rel.length, ← rel2.length]; exact hsz), fun h' dd' _ hs => h _ ?_⟩
  have he : ∃ q, h'.get? a = some q := let ⟨q, _, _, hq, _⟩ := dd'; ⟨q, hq⟩
  exact d_write I (by rw [e]; exact True.intro) hs he (dk_new (Nat.le_trans (length_mergeK more kvs) hsz) hd (rel2.merge rel) dd')
end
def tDUpd (td te : TE) : TE := fun σ H Q => td σ H fun x H1 => ∃ a, x = .ref a ∧ IsD H1 a ∧ te σ H1 fun y H2 => ∃ b kvs more, y = .ref b ∧ a ≠ b ∧ H2 a = some (.dK kvs) ∧ H2 b = some (.dK more) ∧ kvs.length + more.length ≤ sizeLine ∧ Q .non (upd H2 a (.dK (mergeK kvs more)))
theorem pe_dupd {X : Cx} {o e : Expr} {apos cpos : Pos} {td ty : TE} (ho : PE X o td) (he : PE X e ty) (m : M1 X o "update" apos e cpos) : PE X (.Call (.Attribute o "update" apos) [e] [] cpos) (tDUpd td ty) := by
  refine ⟨fun pins s σ H Q I h => ?_⟩
  refine wpAny_Call_method m.base m.few m.line PySem.F.plainAttrs_dict PySem.F.slot_dict_update PySem.F.type_dict_update (thn (ho.run pins s σ H _ I h) fun u s1 ⟨x, H1, I1, rx, a, ex, d, q1⟩ => ?_)
  subst ex
  obtain rfl : u = Value.ref a := rx
  obtain ⟨t1, t2, _⟩ := isD_at I1 d
  refine ⟨t1, t2, ?_⟩
  rw [m.trees]
  refine Calls.callWith_builtin rfl (Calls.evalArgs_plain (Calls.spliced_cons (thn (he.run pins s1 σ H1 _ I1 q1) fun iv s2 ⟨y, H2, I2, ry, b, kvs, more, ey, hne, ea, eb, hsz, q2⟩ => Calls.spliced_nil ?_)))
  subst ey
  obtain rfl : iv = Value.ref b := ry
  exact d_update I2 ea (.inl eb) hne hsz fun s3 I3 => ⟨.non, _, I3, rfl, q2⟩
end Rd

set_option maxHeartbeats 4000000
/-! tables of whole numbers, calls, answers -/
namespace Dk
open PySem PySem.Spec PyProof.Rows L2 StX
def top (i : Nat) : Stmt := PySem.Challenge.pw_driftkept_k14_plans_do_what_a_table_does.main.body.getD i (.Pass ⟨0, 0, 0, 0⟩)
theorem iteD {c A B : Prop} [Decidable c] (hc : c) (h : A) : if decide c = true then A else B := by
  rw [decide_eq_true hc]
  exact iteT h
theorem iteND {c A B : Prop} [Decidable c] (hc : ¬ c) (h : B) : if decide c = true then A else B := by
  rw [decide_eq_false hc]
  exact iteF h
theorem iteNT {c A B : Prop} [Decidable c] (hc : ¬ c) (h : A) : if (!decide c) = true then A else B := by
  rw [decide_eq_false hc]
  exact iteT h
theorem iteC {c : Bool} {A B : Prop} (hc : c = false) (h : B) : if c = true then A else B := by
  rw [hc]
  exact iteF h
theorem up1 {H1 : Hp} {p : Addr} {o : HO} (hp : H1 p = none) : Same H1 (upd H1 p o) := fun b u e => by rw [upd_ne (ne_of_none e hp)]; exact e
theorem _root_.L2.SqT.same {K : PySem.W.Frag} {H H' : Hp} {a : Addr} {xs : List V} (h : SqT K H a xs) (s : Same H H') : SqT K H' a xs :=
  h.elim (fun h => .inl (h.elim (fun h => .inl (s _ _ h)) fun ⟨o, h⟩ => .inr ⟨o, s _ _ h⟩)) fun h => .inr h
theorem at0 {x : V} {xs : List V} : atI (x :: xs) 0 = some x := atI_nat rfl
theorem at1 {x y : V} {xs : List V} : atI (x :: y :: xs) 1 = some y := atI_nat (j := 1) rfl
theorem at2 {x y z : V} {xs : List V} : atI (x :: y :: z :: xs) 2 = some z := atI_nat (j := 2) rfl
theorem at3 {x y z u : V} {xs : List V} : atI (x :: y :: z :: u :: xs) 3 = some u := atI_nat (j := 3) rfl
theorem pget {α β : Type} {F : α → β → Prop} : ∀ {xs : List α} {ys : List β}, Paired F xs ys → ∀ {i : Nat} {x : α}, xs[i]? = some x → ∃ y, ys[i]? = some y ∧ F x y
  | _, _, .nil, i, x, h => by cases h
  | _, _, .cons r t, 0, x, h => by
    have e := Option.some.inj h
    subst e
    exact ⟨_, rfl, r⟩
  | _, _, .cons r t, i + 1, x, h => pget t h
theorem plen {α β : Type} {F : α → β → Prop} : ∀ {xs : List α} {ys : List β}, Paired F xs ys → xs.length = ys.length
  | _, _, .nil => rfl
  | _, _, .cons _ t => by rw [List.length_cons, List.length_cons, plen t]
theorem papp {α β : Type} {F : α → β → Prop} : ∀ {xs xs' : List α} {ys ys' : List β}, Paired F xs ys → Paired F xs' ys' → Paired F (xs ++ xs') (ys ++ ys')
  | _, _, _, _, .nil, t => t
  | _, _, _, _, .cons r t, u => .cons r (papp t u)
theorem pmono {α β : Type} {F G : α → β → Prop} (h : ∀ a b, F a b → G a b) : ∀ {xs : List α} {ys : List β}, Paired F xs ys → Paired G xs ys
  | _, _, .nil => .nil
  | _, _, .cons r t => .cons (h _ _ r) (pmono h t)
theorem mhit {kind : Str} {is : List Nat} {tb : TS} {tr : Addr → List V → TS} {a : Addr} {ys : List V} {D : Ends} {σ : L2.St} {H : Hp} (hlen : ys.length = is.length) (h : tb D (setAll σ is ys) H) : mCase kind is tb tr a (.str kind :: ys) D σ H := by
  unfold mCase
  rw [if_pos (by rw [List.length_cons, hlen])]
  exact ⟨kind, ys, rfl, by rw [if_pos rfl]; exact h⟩
theorem mmiss {kind z : Str} {is : List Nat} {tb : TS} {tr : Addr → List V → TS} {a : Addr} {ys : List V} {D : Ends} {σ : L2.St} {H : Hp} (hk : z ≠ kind) (h : tr a (.str z :: ys) D σ H) : mCase kind is tb tr a (.str z :: ys) D σ H := by
  unfold mCase
  split
  · exact ⟨z, ys, rfl, by rw [if_neg hk]; exact h⟩
  · exact h
abbrev Tb := List (Int × Int)
def keys (t : Tb) : List Int := t.map (·.1)
def wo (t : Tb) (k : Int) : Tb := t.filter fun n => !decide (n.1 = k)
def putI (t : Tb) (k v : Int) : Tb := if (t.any fun n => decide (n.1 = k)) = true then t.map (fun n => if n.1 = k then (n.1, v) else n) else t ++ [(k, v)]
theorem lookup_mem {k v : Int} : ∀ {t : Tb}, (keys t).Nodup → (t.lookup k = some v ↔ (k, v) ∈ t)
  | [], _ => by simp [List.lookup]
  | (k', v') :: t, nd => by
    have nd' : k' ∉ keys t ∧ (keys t).Nodup := List.nodup_cons.mp nd
    rw [List.lookup_cons]
    by_cases c : k = k'
    · subst c
      rw [beq_self_eq_true]
      constructor
      · intro h
        cases h
        exact List.mem_cons_self
      · intro h
        rcases List.mem_cons.mp h with e | e
        · cases e; rfl
        · exact absurd (List.mem_map.mpr ⟨_, e, rfl⟩) nd'.1
    · rw [beq_false_of_ne c]
      show t.lookup k = some v ↔ _
      rw [lookup_mem nd'.2]
      constructor
      · exact fun h => List.mem_cons_of_mem _ h
      · intro h
        rcases List.mem_cons.mp h with e | e
        · cases e; exact absurd rfl c
        · exact e
theorem lookup_perm {a b : Tb} {k : Int} (p : a.Perm b) (nd : (keys b).Nodup) : a.lookup k = b.lookup k := by
  have nda : (keys a).Nodup := (p.map _).nodup_iff.mpr nd
  cases ea : a.lookup k with
  | some v =>
    have := (lookup_mem nda).mp ea
    exact ((lookup_mem nd).mpr (p.mem_iff.mp this)).symm
  | none =>
    cases eb : b.lookup k with
    | none => rfl
    | some v =>
      have := (lookup_mem nda).mpr (p.mem_iff.mpr ((lookup_mem nd).mp eb))
      rw [ea] at this
      cases this
theorem valV_kvI (k : Int) : ∀ t : Tb, valV (Rt.kvI t) (Sum.inl k : Key) = (t.lookup k).map V.int
  | [] => rfl
  | (k', v') :: t => by
    rw [List.lookup_cons]
    by_cases c : k' = k
    · subst c
      rw [beq_self_eq_true]
      exact valV_pos rfl
    · rw [beq_false_of_ne fun z => c z.symm]
      show _ = (t.lookup k).map V.int
      rw [← valV_kvI k t]
      exact valV_neg fun z => c (Sum.inl.inj z)
theorem inl_iff {a b : Int} : decide ((Sum.inl a : Key) = Sum.inl b) = decide (a = b) := by
  by_cases c : a = b
  · rw [decide_eq_true c, decide_eq_true (congrArg Sum.inl c)]
  · rw [decide_eq_false c, decide_eq_false fun z => c (Sum.inl.inj z)]
theorem any_kvI (k : Int) : ∀ t : Tb, ((Rt.kvI t).any fun kv => decide (kv.1 = (Sum.inl k : Key))) = t.any fun n => decide (n.1 = k)
  | [] => rfl
  | n :: t => by
    show (decide ((Sum.inl n.1 : Key) = Sum.inl k) || ((Rt.kvI t).any fun kv => decide (kv.1 = (Sum.inl k : Key)))) = (decide (n.1 = k) || t.any fun n => decide (n.1 = k))
    rw [any_kvI k t, inl_iff]
theorem putK_kvI (t : Tb) (k v : Int) : putK (Rt.kvI t) (Sum.inl k : Key) (.int v) = Rt.kvI (putI t k v) := by
  unfold putK putI
  rw [any_kvI]
  split
  · unfold Rt.kvI
    rw [List.map_map, List.map_map]
    refine List.map_congr_left fun n _ => ?_
    show (if (Sum.inl n.1 : Key) = Sum.inl k then ((Sum.inl n.1 : Key), V.int v) else (Sum.inl n.1, V.int n.2)) = ((fun n : Int × Int => ((Sum.inl n.1 : Key), V.int n.2)) (if n.1 = k then (n.1, v) else n))
    by_cases c : n.1 = k
    · rw [if_pos (congrArg Sum.inl c), if_pos c]
    · rw [if_neg fun z => c (Sum.inl.inj z), if_neg c]
  · unfold Rt.kvI
    rw [List.map_append]
    rfl
theorem dropK_kvI (k : Int) : ∀ t : Tb, dropK (Rt.kvI t) (Sum.inl k : Key) = Rt.kvI (wo t k)
  | [] => rfl
  | n :: t => by
    have ih := dropK_kvI k t
    by_cases c : n.1 = k
    · have e1 : wo (n :: t) k = wo t k := by unfold wo; rw [List.filter_cons, if_neg (by simp [c])]
      rw [e1, ← ih]
      exact List.filter_cons_of_neg (by simp [c])
    · have e1 : wo (n :: t) k = n :: wo t k := by unfold wo; rw [List.filter_cons, if_pos (by simp [c])]
      rw [e1]
      show _ = (Sum.inl n.1, V.int n.2) :: Rt.kvI (wo t k)
      rw [← ih]
      exact List.filter_cons_of_pos (by simp [c])
theorem wo_none {k : Int} : ∀ {t : Tb}, t.lookup k = none → wo t k = t
  | [], _ => rfl
  | (k', v') :: t, h => by
    rw [List.lookup_cons] at h
    by_cases c : k = k'
    · rw [c, beq_self_eq_true] at h
      cases h
    · rw [beq_false_of_ne c] at h
      have e1 : wo ((k', v') :: t) k = (k', v') :: wo t k := by unfold wo; rw [List.filter_cons, if_pos (by simp; exact fun z => c z.symm)]
      rw [e1, wo_none h]
theorem wo_not {k : Int} {t : Tb} (h : k ∉ keys t) : wo t k = t := List.filter_eq_self.mpr fun n hn => by
  have : n.1 ≠ k := fun z => h (List.mem_map.mpr ⟨n, hn, z⟩)
  simp [this]
theorem putI_perm {k v : Int} : ∀ {t : Tb}, (keys t).Nodup → (putI t k v).Perm (wo t k ++ [(k, v)])
  | [], _ => .refl _
  | n :: t, nd => by
    have nd' : n.1 ∉ keys t ∧ (keys t).Nodup := List.nodup_cons.mp nd
    by_cases c : n.1 = k
    · have e1 : wo (n :: t) k = wo t k := by unfold wo; rw [List.filter_cons, if_neg (by simp [c])]
      have e2 : wo t k = t := wo_not (by rw [← c]; exact nd'.1)
      have e3 : putI (n :: t) k v = (k, v) :: t := by
        unfold putI
        rw [if_pos (by simp [c]), List.map_cons, if_pos c, c]
        refine congrArg _ ?_
        have : t.map (fun n => if n.1 = k then (n.1, v) else n) = t.map id := List.map_congr_left fun m hm => if_neg fun z => nd'.1 (by rw [c, ← z]; exact List.mem_map.mpr ⟨m, hm, rfl⟩)
        rw [this, List.map_id]
      rw [e1, e2, e3]
      exact (List.perm_append_comm (l₁ := [(k, v)]) (l₂ := t))
    · have e1 : wo (n :: t) k = n :: wo t k := by unfold wo; rw [List.filter_cons, if_pos (by simp [c])]
      have e3 : putI (n :: t) k v = n :: putI t k v := by
        unfold putI
        have ea : ((n :: t).any fun n => decide (n.1 = k)) = (t.any fun n => decide (n.1 = k)) := by simp [c]
        rw [ea]
        split
        · rw [List.map_cons, if_neg c]
        · rfl
      rw [e1, e3]
      exact (putI_perm nd'.2).cons n
theorem wo_nd {t : Tb} {k : Int} (h : (keys t).Nodup) : (keys (wo t k)).Nodup := h.sublist (List.filter_sublist.map _)
theorem putI_nd {t : Tb} {k v : Int} (h : (keys t).Nodup) : (keys (putI t k v)).Nodup := by
  refine ((putI_perm (k := k) (v := v) h).map _).nodup_iff.mpr ?_
  show ((wo t k ++ [(k, v)]).map (·.1)).Nodup
  rw [List.map_append]
  refine List.nodup_append.mpr ⟨wo_nd h, by simp, fun a ha b hb => ?_⟩
  obtain ⟨n, hn, rfl⟩ := List.mem_map.mp ha
  have hb : b = k := by simpa using hb
  subst hb
  have := (List.mem_filter.mp hn).2
  simpa using this

theorem putI_none {k v : Int} {t : Tb} (h : t.lookup k = none) : putI t k v = t ++ [(k, v)] := by
  have : (t.any fun n => decide (n.1 = k)) = false := by
    refine List.any_eq_false.mpr fun n hn z => ?_
    have e := of_decide_eq_true z
    clear z
    induction t with
    | nil => cases hn
    | cons m t ih =>
      rw [List.lookup_cons] at h
      by_cases c : k = m.1
      · rw [c, beq_self_eq_true] at h
        cases h
      · rw [beq_false_of_ne c] at h
        rcases List.mem_cons.mp hn with e' | e'
        · subst e'
          exact c e.symm
        · exact ih h e'
  unfold putI
  rw [if_neg (by rw [this]; decide)]
theorem keys_none {k : Int} : ∀ {t : Tb}, t.lookup k = none → k ∉ keys t
  | [], _ => by simp [keys]
  | (k', v') :: t, h => by
    rw [List.lookup_cons] at h
    by_cases c : k = k'
    · rw [c, beq_self_eq_true] at h
      cases h
    · rw [beq_false_of_ne c] at h
      intro z
      rcases List.mem_cons.mp z with z | z
      · exact c z
      · exact keys_none h z
theorem not_keys {k : Int} : ∀ {t : Tb}, k ∉ keys t → t.lookup k = none
  | [], _ => rfl
  | (k', v') :: t, h => by
    rw [List.lookup_cons, beq_false_of_ne fun z => h (by rw [z]; exact List.mem_cons_self)]
    exact not_keys fun z => h (List.mem_cons_of_mem _ z)
theorem wo_look {t : Tb} {k j : Int} (h : t.lookup j = none) : (wo t k).lookup j = none := not_keys fun z => keys_none h ((List.filter_sublist.map _).subset z)
theorem wo_app {t : Tb} {k j v : Int} (h : j ≠ k) : wo (t ++ [(j, v)]) k = wo t k ++ [(j, v)] := by
  unfold wo
  rw [List.filter_append, List.filter_cons, if_pos (by simp [h])]
  rfl
theorem putI_len {t : Tb} {k v : Int} : (putI t k v).length ≤ t.length + 1 := by
  unfold putI
  split
  · rw [List.length_map]; omega
  · rw [List.length_append]; exact Nat.le_refl _
theorem kvI_len (t : Tb) : (Rt.kvI t).length = t.length := List.length_map ..
theorem kvI_nd {t : Tb} (h : (keys t).Nodup) : ((Rt.kvI t).map (·.1)).Nodup := by
  unfold Rt.kvI
  rw [List.map_map]
  have : (fun n : Int × Int => ((Sum.inl n.1 : Key))) = (Sum.inl : Int → Key) ∘ (fun n : Int × Int => n.1) := rfl
  show (t.map (fun n : Int × Int => (Sum.inl n.1 : Key))).Nodup
  rw [this, ← List.map_map]
  exact List.Pairwise.map (Sum.inl : Int → Key) (fun a b z e => z (Sum.inl.inj e)) h
theorem kvI_flat (t : Tb) : ∀ p ∈ Rt.kvI t, flatB p.2 = true := fun p hp => by
  obtain ⟨n, _, rfl⟩ := List.mem_map.mp hp
  rfl
def oV : Option Int → V
  | some v => .int v
  | none => .non
theorem gV (t : Tb) (k : Int) : (valV (Rt.kvI t) (Sum.inl k : Key)).getD .non = oV (t.lookup k) := by
  rw [valV_kvI]
  cases t.lookup k <;> rfl
def putAll (t ps : Tb) : Tb := ps.foldl (fun t p => putI t p.1 p.2) t
theorem merge_kvI : ∀ (ps t : Tb), mergeK (Rt.kvI t) (Rt.kvI ps) = Rt.kvI (putAll t ps)
  | [], t => rfl
  | p :: ps, t => by
    show mergeK (putK (Rt.kvI t) (Sum.inl p.1 : Key) (.int p.2)) (Rt.kvI ps) = _
    rw [putK_kvI, merge_kvI ps]
    rfl
theorem putAll_self : ∀ (ps t : Tb), (keys (t ++ ps)).Nodup → putAll t ps = t ++ ps
  | [], t, _ => (List.append_nil t).symm
  | p :: ps, t, h => by
    have e : t.lookup p.1 = none := not_keys fun z => by
      unfold keys at h
      rw [List.map_append] at h
      exact (List.nodup_append.mp h).2.2 _ z _ List.mem_cons_self rfl
    show putAll (putI t p.1 p.2) ps = _
    rw [putI_none e, putAll_self ps _ (by rw [List.append_assoc]; exact h), List.append_assoc]
    rfl
theorem putAll_nd : ∀ {ps t : Tb}, (keys t).Nodup → (keys (putAll t ps)).Nodup
  | [], t, h => h
  | p :: ps, t, h => putAll_nd (ps := ps) (putI_nd h)
theorem putAll_len : ∀ {ps t : Tb}, (putAll t ps).length ≤ t.length + ps.length
  | [], t => Nat.le_refl _
  | p :: ps, t => by
    have h1 := putAll_len (ps := ps) (t := putI t p.1 p.2)
    have h2 := putI_len (t := t) (k := p.1) (v := p.2)
    show (putAll (putI t p.1 p.2) ps).length ≤ _
    rw [List.length_cons]
    omega
/-- the built-in names as they are -/
structure Bn (mg : Str → Option Value) : Prop where
  isi : mg "isinstance" = none
  int : mg "int" = none
  bool : mg "bool" = none
  tuple : mg "tuple" = none
  range : mg "range" = none
  len : mg "len" = none
  list : mg "list" = none
  sorted : mg "sorted" = none
  abs : mg "abs" = none
  dict : mg "dict" = none
inductive Cl where
  | look (k : Int)
  | put (k v : Int)
  | take (k : Int)
  | change (k o n : Int)
  | move (k j : Int)
  | puts (ps : Tb)
def Cl.ok : Cl → Prop
  | .move k j => k ≠ j
  | .puts ps => 0 < ps.length ∧ ps.length ≤ 3 ∧ (keys ps).Nodup
  | _ => True
def PairI (K : PySem.W.Frag) (H : Hp) (v : V) (n : Int × Int) : Prop := ∃ t, v = .ref t ∧ SqT K H t [.int n.1, .int n.2]
theorem PairI.same {K : PySem.W.Frag} {H H' : Hp} {v : V} {n : Int × Int} (h : PairI K H v n) (s : Same H H') : PairI K H' v n := let ⟨t, e, h⟩ := h; ⟨t, e, h.same s⟩
theorem prs_kv {K : PySem.W.Frag} {H : Hp} : ∀ {ts : List V} {ps : Tb}, Paired (PairI K H) ts ps → ∃ as : List Addr, ts = as.map V.ref ∧ Paired (fun p (kv : Key × V) => SqT K H p [kV kv.1, kv.2]) as (Rt.kvI ps)
  | _, _, .nil => ⟨[], rfl, .nil⟩
  | _, _, .cons (b := n) ⟨t, e, h⟩ r => by
    subst e
    obtain ⟨as, rfl, h2⟩ := prs_kv r
    exact ⟨t :: as, rfl, .cons (b := (Sum.inl n.1, V.int n.2)) h h2⟩
def FzT (H : Hp) (q : Addr) (ts : List V) : Prop := ∃ o, H q = some (.frz o (.tup ts)) ∧ o.dict = none
theorem FzT.sq {K : PySem.W.Frag} {H : Hp} {q : Addr} {ts : List V} (h : FzT H q ts) : SqT K H q ts := let ⟨o, h, _⟩ := h; .inl (.inr ⟨o, h⟩)
theorem FzT.same {H H' : Hp} {q : Addr} {ts : List V} (h : FzT H q ts) (s : Same H H') : FzT H' q ts := let ⟨o, h, d⟩ := h; ⟨o, s _ _ h, d⟩
def CallAt (K : PySem.W.Frag) (H : Hp) (c : Addr) : Cl → Prop
  | .look k => SqT K H c [.str "look", .int k]
  | .put k v => SqT K H c [.str "put", .int k, .int v]
  | .take k => SqT K H c [.str "take", .int k]
  | .change k o n => SqT K H c [.str "change", .int k, .int o, .int n]
  | .move k j => SqT K H c [.str "move", .int k, .int j]
  | .puts ps => ∃ q ts, SqT K H c [.str "puts", .ref q] ∧ FzT H q ts ∧ Paired (PairI K H) ts ps
theorem CallAt.same {K : PySem.W.Frag} {H H' : Hp} {c : Addr} {cl : Cl} (h : CallAt K H c cl) (s : Same H H') : CallAt K H' c cl := by
  cases cl with
  | puts ps => exact let ⟨q, ts, h1, h2, h3⟩ := h; ⟨q, ts, h1.same s, h2.same s, pmono (fun _ _ h => h.same s) h3⟩
  | look => exact L2.SqT.same h s
  | put => exact L2.SqT.same h s
  | take => exact L2.SqT.same h s
  | change => exact L2.SqT.same h s
  | move => exact L2.SqT.same h s
inductive Ans where
  | bl (b : Bool)
  | val (o : Option Int)
  | tup (os : List (Option Int))
def AnsAt (K : PySem.W.Frag) (H : Hp) (v : V) : Ans → Prop
  | .bl b => v = .bl b
  | .val o => v = oV o
  | .tup os => ∃ t, v = .ref t ∧ SqT K H t (os.map oV)
theorem AnsAt.same {K : PySem.W.Frag} {H H' : Hp} {v : V} {a : Ans} (h : AnsAt K H v a) (s : Same H H') : AnsAt K H' v a := by
  cases a with
  | tup os => exact let ⟨t, e, h⟩ := h; ⟨t, e, h.same s⟩
  | bl => exact h
  | val => exact h
def ansOf (tb : Tb) : Cl → Ans
  | .look k => .val (tb.lookup k)
  | .put k _ => .val (tb.lookup k)
  | .take k => .val (tb.lookup k)
  | .change k o _ => .bl (decide (tb.lookup k = some o))
  | .move k j => .bl ((tb.lookup k).isSome && (tb.lookup j).isNone)
  | .puts ps => .tup (ps.map fun p => tb.lookup p.1)
def aftOf (tb : Tb) : Cl → Tb
  | .look _ => tb
  | .put k v => putI tb k v
  | .take k => wo tb k
  | .change k o n => if tb.lookup k = some o then putI tb k n else tb
  | .move k j => match tb.lookup k, tb.lookup j with
    | some v, none => wo tb k ++ [(j, v)]
    | _, _ => tb
  | .puts ps => putAll tb ps
theorem aft_nd {tb : Tb} (h : (keys tb).Nodup) : ∀ (cl : Cl), (keys (aftOf tb cl)).Nodup
  | .look _ => h
  | .put _ _ => putI_nd h
  | .take _ => wo_nd h
  | .change k o n => by unfold aftOf; dsimp only; split; exact putI_nd h; exact h
  | .move k j => by
    unfold aftOf
    dsimp only
    split
    · rename_i v h1 h2
      rw [← putI_none (wo_look h2)]
      exact putI_nd (wo_nd h)
    · exact h
  | .puts ps => putAll_nd h
theorem aft_len {tb : Tb} : ∀ {cl : Cl}, cl.ok → (aftOf tb cl).length ≤ tb.length + 3
  | .look _, _ => by show tb.length ≤ _; omega
  | .put k v, _ => by show (putI tb k v).length ≤ _; exact Nat.le_trans putI_len (by omega)
  | .take k, _ => by show (wo tb k).length ≤ _; exact Nat.le_trans (List.length_filter_le _ _) (by omega)
  | .change k o n, _ => by
    unfold aftOf
    dsimp only
    split
    · exact Nat.le_trans putI_len (by omega)
    · omega
  | .move k j, _ => by
    unfold aftOf
    dsimp only
    split
    · rw [List.length_append]
      have : (wo tb k).length ≤ tb.length := List.length_filter_le _ _
      simp only [List.length_singleton]
      omega
    · omega
  | .puts ps, h => by
    have := putAll_len (ps := ps) (t := tb)
    have := h.2.1
    show (putAll tb ps).length ≤ _
    omega
/-- an answer, of a type -/
def ansD : Ans → PyData
  | .bl b => .bool b
  | .val (some v) => .int v
  | .val none => .none
  | .tup os => .tuple (os.map fun o => match o with | some v => .int v | none => .none)
def spAns (K : PySem.W.Frag) : Sp := fun vs H Q _ => ∃ (d c : Addr) (tb : Tb) (cl : Cl), vs = [.ref d, .ref c] ∧ H d = some (.dK (Rt.kvI tb)) ∧ CallAt K H c cl ∧ cl.ok ∧ ∀ H' v, Same H H' → AnsAt K H' v (ansOf tb cl) → Q v H'
def spAft (K : PySem.W.Frag) : Sp := fun vs H Q _ => ∃ (d c : Addr) (tb : Tb) (cl : Cl), vs = [.ref d, .ref c] ∧ H d = some (.dK (Rt.kvI tb)) ∧ (keys tb).Nodup ∧ tb.length < 1000 ∧ CallAt K H c cl ∧ cl.ok ∧ ∀ H' p, Same H H' → H p = none → H' p = some (.dK (Rt.kvI (aftOf tb cl))) → Q (.ref p) H'
end Dk

set_option maxHeartbeats 8000000
/-! records: their functions; the tape of the law -/
namespace Dk
open PySem PySem.Spec PyProof.Rows L2 StX
abbrev sWhole : Stmt := top 1
abbrev sWithin : Stmt := top 2
abbrev sBucket : Stmt := top 5
abbrev sValIn : Stmt := top 6
abbrev sWith : Stmt := top 7
abbrev sWithout : Stmt := top 8
abbrev sNext : Stmt := top 21
def vty : V → Option String
  | .non => some "NoneType"
  | .bl _ => some "bool"
  | .int _ => some "int"
  | .str _ => some "str"
  | _ => none
inductive SV (H : Hp) : V → String → Prop
  | flat {v : V} {t : String} (h : vty v = some t) : SV H v t
  | tup {a : Addr} {xs : List V} (h : H a = some (.tup xs)) : SV H (.ref a) "tuple"
theorem SV.same {H H' : Hp} {v : V} {t : String} (h : SV H v t) (s : Same H H') : SV H' v t := by
  cases h with
  | flat h => exact .flat h
  | tup h => exact .tup (s _ _ h)
theorem SV.ty {K : PySem.W.Frag} {H : Hp} {v : V} {t : String} (h : SV H v t) : TyX K H v (.type t) := by
  cases h with
  | flat h =>
    cases v <;> cases h
    · exact .base .non
    · exact .base (.bl _)
    · exact .base (.int _)
    · exact .base (.str _)
  | tup h => exact .base (.tup h)
def isI : V → Bool
  | .int _ => true
  | _ => false
theorem tyT {K : PySem.W.Frag} {H : Hp} {a : Addr} {xs : List V} (h : SqT K H a xs) : TyX K H (.ref a) (.type "tuple") := by
  rcases h with (h | ⟨o, h⟩) | ⟨o, its, n, h, c, _⟩
  · exact .base (.tup h)
  · exact .fTuple h
  · exact .kTuple h c
abbrev Pr := V × V
def PairV (H : Hp) (v : V) (p : Pr) : Prop := ∃ t, v = .ref t ∧ H t = some (.tup [p.1, p.2]) ∧ (∃ u, SV H p.1 u) ∧ ∃ u, SV H p.2 u
theorem PairV.same {H H' : Hp} {v : V} {p : Pr} (h : PairV H v p) (s : Same H H') : PairV H' v p := by
  obtain ⟨t, e, h1, ⟨u1, h2⟩, u2, h3⟩ := h
  exact ⟨t, e, s _ _ h1, ⟨u1, h2.same s⟩, u2, h3.same s⟩
def PrsV (H : Hp) (vs : List V) (ps : List Pr) : Prop := Paired (PairV H) vs ps
theorem PrsV.same {H H' : Hp} (s : Same H H') : ∀ {vs : List V} {ps : List Pr}, PrsV H vs ps → PrsV H' vs ps
  | _, _, .nil => .nil
  | _, _, .cons h t => .cons (h.same s) (PrsV.same s t)
def Rec (K : PySem.W.Frag) (H : Hp) (r : Addr) (ps : List Pr) : Prop := ∃ q ts, SqT K H r [.str "items", .ref q] ∧ SqT K H q ts ∧ PrsV H ts ps
theorem Rec.same {K : PySem.W.Frag} {H H' : Hp} {r : Addr} {ps : List Pr} (h : Rec K H r ps) (s : Same H H') : Rec K H' r ps := by
  obtain ⟨q, ts, h1, h2, h3⟩ := h
  exact ⟨q, ts, h1.same s, h2.same s, h3.same s⟩
abbrev vp (n : Int × Int) : Pr := (.int n.1, .int n.2)
theorem pget2 {α β : Type} {F : α → β → Prop} : ∀ {xs : List α} {ys : List β}, Paired F xs ys → ∀ {i : Nat} {y : β}, ys[i]? = some y → ∃ x, xs[i]? = some x ∧ F x y
  | _, _, .nil, i, x, h => by cases h
  | _, _, .cons r t, 0, x, h => by
    have e := Option.some.inj h
    subst e
    exact ⟨_, rfl, r⟩
  | _, _, .cons r t, i + 1, x, h => pget2 t h
def spWhole : Sp := fun vs H Q _ => ∃ v t, vs = [v] ∧ SV H v t ∧ Q (.bl (isI v)) H
def spBucket : Sp := fun vs H Q _ => ∃ k : Int, vs = [.int k] ∧ Q (.int (k % 4)) H
def lkV (ns : List (Int × Int)) (k : Int) : V := match ns.lookup k with
  | some v => .int v
  | none => .non
def spValIn (K : PySem.W.Frag) : Sp := fun vs H Q _ => ∃ (r : Addr) (k : Int) (ns : List (Int × Int)), vs = [.ref r, .int k] ∧ Rec K H r (ns.map vp) ∧ Q (lkV ns k) H
def spWithout (K : PySem.W.Frag) : Sp := fun vs H Q _ => ∃ (r : Addr) (k : Int) (ns : List (Int × Int)), vs = [.ref r, .int k] ∧ Rec K H r (ns.map vp) ∧ ns.length < 1000 ∧
  ∀ (H' : Hp) (r' : Addr), Same H H' → Rec K H' r' ((ns.filter fun n => !decide (n.1 = k)).map vp) → Q (.ref r') H'
def spWith (K : PySem.W.Frag) : Sp := fun vs H Q _ => ∃ (r : Addr) (k v : Int) (ns : List (Int × Int)), vs = [.ref r, .int k, .int v] ∧ Rec K H r (ns.map vp) ∧ ns.length < 1000 ∧
  ∀ (H' : Hp) (r' : Addr) (ms : List (Int × Int)), Same H H' → Rec K H' r' (ms.map vp) → ms.Perm ((ns.filter fun n => !decide (n.1 = k)) ++ [(k, v)]) → ms.Pairwise (fun a b => SrtO.lexB b a = false) → Q (.ref r') H'
def kH (H : Hp) : V → Int × Int
  | .ref t => match H t with
    | some (.tup [.int a, .int b]) => (a, b)
    | _ => (0, 0)
  | _ => (0, 0)
theorem kH_eq {H : Hp} {t : Addr} {a b : Int} (h : H t = some (.tup [.int a, .int b])) : kH H (.ref t) = (a, b) := by
  unfold kH
  dsimp only
  rw [h]
theorem pmem {α β : Type} {F : α → β → Prop} : ∀ {xs : List α} {ys : List β}, Paired F xs ys → ∀ x ∈ xs, ∃ y ∈ ys, F x y
  | _, _, .nil, x, h => by cases h
  | _, _, .cons r t, x, h => by
    rcases List.mem_cons.mp h with e | h
    · subst e
      exact ⟨_, List.mem_cons_self, r⟩
    · obtain ⟨y, hy, hf⟩ := pmem t x h
      exact ⟨y, List.mem_cons_of_mem _ hy, hf⟩
theorem pmap_k {H : Hp} : ∀ {vs : List V} {ns : List (Int × Int)}, PrsV H vs (ns.map vp) → vs.map (kH H) = ns
  | _, [], .nil => rfl
  | _, n :: ns, .cons h t => by
    obtain ⟨u, rfl, h1, _⟩ := h
    rw [List.map_cons, pmap_k t, kH_eq h1]
theorem prs_of {H : Hp} : ∀ {vs : List V}, (∀ v ∈ vs, ∃ n, PairV H v (vp n)) → PrsV H vs ((vs.map (kH H)).map vp)
  | [], _ => .nil
  | v :: vs, h => by
    refine .cons ?_ (prs_of fun u hu => h u (List.mem_cons_of_mem _ hu))
    obtain ⟨n, hn⟩ := h v List.mem_cons_self
    obtain ⟨t, rfl, h1, h2, h3⟩ := id hn
    have e : kH H (.ref t) = n := kH_eq h1
    show PairV H (.ref t) (vp (kH H (.ref t)))
    rw [e]
    exact hn
structure TapeAt (H : Hp) (tp sp : Addr) (ns : List Int) (pos : Nat) (rest seed : Int) : Prop where
  t : H tp = some (.lst [.ref sp, .int (pos : Int), .int rest, .int seed])
  s : H sp = some (.lst (ns.map V.int))
  r : 0 ≤ rest
  s0 : 0 ≤ seed
  s1 : seed < 2147483647
def Kept (a : Addr) (H H' : Hp) : Prop := ∀ b o, H b = some o → b ≠ a → H' b = some o
theorem Kept.trans {a : Addr} {H H1 H2 : Hp} (h : Kept a H H1) (k : Kept a H1 H2) : Kept a H H2 := fun b o e n => k b o (h b o e n) n
theorem Kept.of {a : Addr} {H H1 : Hp} (h : Same H H1) : Kept a H H1 := fun b o e _ => h b o e
def ExT (H H' : Hp) : Prop := (∀ b xs, H b = some (.tup xs) → H' b = some (.tup xs)) ∧ ∀ b o xs, H b = some (.frz o (.tup xs)) → H' b = some (.frz o (.tup xs))
theorem ExT.of {H H' : Hp} (s : Same H H') : ExT H H' := ⟨fun _ _ e => s _ _ e, fun _ _ _ e => s _ _ e⟩
theorem ExT.trans {H H1 H2 : Hp} (h : ExT H H1) (k : ExT H1 H2) : ExT H H2 := ⟨fun _ _ e => k.1 _ _ (h.1 _ _ e), fun _ _ _ e => k.2 _ _ _ (h.2 _ _ _ e)⟩
theorem Kept.ext {a : Addr} {H H' : Hp} {l : List V} (k : Kept a H H') (h : H a = some (.lst l)) : ExT H H' :=
  ⟨fun b xs e => k b _ e (ne_of e h (by intro z; cases z)), fun b o xs e => k b _ e (ne_of e h (by intro z; cases z))⟩
theorem SV.ext {H H' : Hp} {v : V} {t : String} (h : SV H v t) (s : ExT H H') : SV H' v t := by
  cases h with
  | flat h => exact .flat h
  | tup h => exact .tup (s.1 _ _ h)
theorem _root_.L2.SqT.extT {K : PySem.W.Frag} {H H' : Hp} {a : Addr} {xs : List V} (h : SqT K H a xs) (s : ExT H H') : SqT K H' a xs :=
  h.elim (fun h => .inl (h.elim (fun h => .inl (s.1 _ _ h)) fun ⟨o, h⟩ => .inr ⟨o, s.2 _ _ _ h⟩)) fun h => .inr h
theorem PairV.ext {H H' : Hp} {v : V} {p : Pr} (h : PairV H v p) (s : ExT H H') : PairV H' v p := by
  obtain ⟨t, e, h1, ⟨u1, h2⟩, u2, h3⟩ := h
  exact ⟨t, e, s.1 _ _ h1, ⟨u1, h2.ext s⟩, u2, h3.ext s⟩
theorem PrsV.ext {H H' : Hp} (s : ExT H H') {vs : List V} {ps : List Pr} (h : PrsV H vs ps) : PrsV H' vs ps := pmono (fun _ _ h => h.ext s) h
theorem Rec.ext {K : PySem.W.Frag} {H H' : Hp} {r : Addr} {ps : List Pr} (h : Rec K H r ps) (s : ExT H H') : Rec K H' r ps := by
  obtain ⟨q, ts, h1, h2, h3⟩ := h
  exact ⟨q, ts, h1.extT s, h2.extT s, h3.ext s⟩
def spNext : Sp := fun vs H Q _ => ∃ (tp sp : Addr) (ns : List Int) (pos : Nat) (rest seed many : Int), vs = [.ref tp, .int many] ∧ TapeAt H tp sp ns pos rest seed ∧ 0 < many ∧ many < 1000 ∧ ns.length ≤ 63 ∧
  ∀ (r : Int) (H' : Hp) (pos' : Nat) (rest' seed' : Int), 0 ≤ r → r < many → TapeAt H' tp sp ns pos' rest' seed' → Kept tp H H' → Q (.int r) H'
section
variable {P : Program} {w : World} {K : PySem.W.Frag} {mg : Str → Option Value} {base : Heap}
theorem scWhole : FnScope ["value"] ["value"] (defScope sWhole) := ⟨rfl, rfl, rfl, by decide +kernel, rfl, by decide +kernel, by decide +kernel⟩
theorem go_whole (F : GT K mg "is_whole" sWhole ["value"]) (B : Bn mg) : GO P w K mg base CX0 1 "is_whole" ["value"] spWhole := by
  obtain ⟨f, fd, F, hm, hb⟩ := F
  refine ⟨f, fd, ?_, hm, F.kp, hb⟩
  refine F.ok scWhole (fun vs H Q E h => ?_) (fun cdv A outer s H vs Q E hr h => ?_)
  · obtain ⟨v, t, rfl, _⟩ := h
    rfl
  · obtain ⟨v, t, rfl, sv, k⟩ := h
    refine ⟨_, (pss_one (ps_ret (pe_and (pe_callB call_isi (by rfl) B.isi (by decide +kernel) (pa_cons (pv 0) (pa_cons (pe_bltn (v := .ty "int") (by rfl) B.int (by decide +kernel) rfl) pa_nil))) (pe_one (pe_not (pe_callB call_isi (by rfl) B.isi (by decide +kernel) (pa_cons (pv 0) (pa_cons (pe_bltn (v := .ty "bool") (by rfl) B.bool (by decide +kernel) rfl) pa_nil)))))))), ?_⟩
    have ty := sv.ty (K := K)
    cases sv with
    | tup h => exact ⟨_, rfl, _, _, _, _, false, rfl, .ty "int", ty, kit_ty (by decide +kernel), false, rfl, k⟩
    | flat ht =>
      cases v <;> cases ht
      · exact ⟨_, rfl, _, _, _, _, false, rfl, .ty "int", ty, kit_ty (by decide +kernel), false, rfl, k⟩
      · refine ⟨_, rfl, _, _, _, _, true, rfl, .ty "int", ty, kit_ty (by decide +kernel), true, rfl, ?_⟩
        exact iteT ⟨_, rfl, _, _, _, _, true, rfl, .ty "bool", ty, kit_ty (by decide +kernel), true, rfl, k⟩
      · refine ⟨_, rfl, _, _, _, _, true, rfl, .ty "int", ty, kit_ty (by decide +kernel), true, rfl, ?_⟩
        exact iteT ⟨_, rfl, _, _, _, _, false, rfl, .ty "bool", ty, kit_ty (by decide +kernel), false, rfl, k⟩
      · exact ⟨_, rfl, _, _, _, _, false, rfl, .ty "int", ty, kit_ty (by decide +kernel), false, rfl, k⟩
theorem scBucket : FnScope ["key"] ["key"] (defScope sBucket) := ⟨rfl, rfl, rfl, by decide +kernel, rfl, by decide +kernel, by decide +kernel⟩
theorem go_bucket {tB : Tok} (F : GT K mg "bucket_of" sBucket ["key"]) (gBk : mg "BUCKETS" = some (.int 4 tB)) : GO P w K mg base CX0 1 "bucket_of" ["key"] spBucket := by
  obtain ⟨f, fd, F, hm, hb⟩ := F
  refine ⟨f, fd, ?_, hm, F.kp, hb⟩
  refine F.ok scBucket (fun vs H Q E h => ?_) (fun cdv A outer s H vs Q E hr h => ?_)
  · obtain ⟨k, rfl, _⟩ := h
    rfl
  · obtain ⟨k, rfl, q⟩ := h
    refine ⟨_, (pss_one (ps_ret (pe_op op_mod (pv 0) (pe_glob (v := .int 4) rfl gBk ⟨_, rfl⟩)))), ?_⟩
    exact ⟨_, rfl, _, _, rfl, rfl, (by show (0 : Int) < 4; decide), q⟩
theorem scValIn : FnScope ["record", "key", "other", "value"] ["record", "key"] (defScope sValIn) := ⟨rfl, rfl, rfl, by decide +kernel, rfl, by decide +kernel, by decide +kernel⟩
theorem go_valin (F : GT K mg "value_in" sValIn ["record", "key"]) : GO P w K mg base CX0 1 "value_in" ["record", "key"] (spValIn K) := by
  obtain ⟨f, fd, F, hm, hb⟩ := F
  refine ⟨f, fd, ?_, hm, F.kp, hb⟩
  refine F.ok scValIn (fun vs H Q E h => ?_) (fun cdv A outer s H vs Q E hr h => ?_)
  · obtain ⟨r, k, ns, rfl, _⟩ := h
    rfl
  · obtain ⟨r, k, ns, rfl, ⟨q, ts, h1, h2, h3⟩, kQ⟩ := h
    have nd := scValIn.nd
    refine ⟨_, (pss_cons (ps_for PassesOwn.never rfl (pi_tup (pe_ix ix_tup (pv 0) pe_int (fun _ _ => rfl))) (pg_tup (by rfl) (pgs_cons (pg_name (i := 2) nd rfl (Or.inl rfl)) (pgs_cons (pg_name (i := 3) nd rfl (Or.inl rfl)) pgs_nil)))
  (pss_one (ps_if (pt_cmpR op_eq (pv 2) (pv 1) (nomark _))
  (pss_one (ps_ret (pv 3)))
  pss_nil)))
  (pss_one (ps_ret pe_non))), ?_⟩
    refine ⟨_, rfl, r, _, 1, _, rfl, rfl, h1, at1, q, rfl, ⟨_, h2⟩, for_tup (K := K) (a := q) (xs := ts) (fun i σ H' => ∃ x y, σ = [some (.ref r), some (.int k), x, y] ∧ H' = H ∧ (ns.drop i).lookup k = ns.lookup k) ⟨_, _, rfl, rfl, rfl⟩ (fun i σ H' _ z => by obtain ⟨_, _, _, rfl, _⟩ := z; exact h2) ?_ ?_⟩
    · rintro i v σ H' hi ⟨x, y, rfl, rfl, hlk⟩
      obtain ⟨p, hp, hx⟩ := pget h3 hi
      have hil : i < ns.length := by
        have := (List.getElem?_eq_some_iff.mp hp).1
        rw [List.length_map] at this
        exact this
      have ep : p = vp ns[i] := by
        rw [List.getElem?_map, List.getElem?_eq_getElem hil] at hp
        exact (Option.some.inj hp).symm
      subst ep
      obtain ⟨t, rfl, ht, _⟩ := hx
      rw [List.drop_eq_getElem_cons hil] at hlk
      generalize hn : ns[i] = n at *
      obtain ⟨k', v'⟩ := n
      refine ⟨t, _, rfl, SqT.of ht, rfl, _, _, rfl, _, _, rfl, rfl, _, rfl, _, rfl, rfl, _, rfl, ?_⟩
      by_cases c : k' = k
      · subst c
        refine iteD rfl ⟨_, rfl, ?_⟩
        unfold lkV at kQ
        rw [← hlk, List.lookup_cons_self] at kQ
        exact kQ
      · refine iteND (fun z => c (V.int.inj z)) ⟨_, _, rfl, rfl, ?_⟩
        rw [List.lookup_cons, beq_false_of_ne (fun z => c z.symm)] at hlk
        exact hlk
    · rintro σ H' ⟨x, y, rfl, rfl, hlk⟩
      have : ns.drop ts.length = [] := by
        rw [plen h3, List.length_map, List.drop_length]
      rw [this] at hlk
      unfold lkV at kQ
      rw [← hlk] at kQ
      exact kQ
theorem scWithout : FnScope ["record", "key", "pair"] ["record", "key"] (defScope sWithout) := ⟨rfl, rfl, rfl, by decide +kernel, rfl, by decide +kernel, by decide +kernel⟩
theorem go_without (F : GT K mg "without_item" sWithout ["record", "key"]) (B : Bn mg) : GO P w K mg base CX0 1 "without_item" ["record", "key"] (spWithout K) := by
  obtain ⟨f, fd, F, hm, hb⟩ := F
  refine ⟨f, fd, ?_, hm, F.kp, hb⟩
  refine F.ok scWithout (fun vs H Q E h => ?_) (fun cdv A outer s H vs Q E hr h => ?_)
  · obtain ⟨r, k, ns, rfl, _⟩ := h
    rfl
  · obtain ⟨r, k, ns, rfl, ⟨q, ts, h1, h2, h3⟩, hl, kQ⟩ := h
    have nd := scWithout.nd
    have hsl : sizeLine = 16777216 := sizeLine_eq
    have hln : ts.length = ns.length := by rw [plen h3, List.length_map]
    refine ⟨_, (pss_one (ps_ret (pe_tup (pa_cons pe_str (pa_cons (pe_callTy call_tuple_of (by rfl) B.tuple (by decide +kernel) (pa_cons (pe_lc (own := [("pair", 2)]) (g := (gName 2)) (tt := tTest (tOp rNe (tOp (rIxT K) (tVar 2) (tC (.int 0))) (tVar 1))) rfl nd (pi_tup (pe_ix ix_tup (pv 0) pe_int (fun _ _ => rfl))) (blkOk_by (N := ["record", "key", "pair"]) (sc := defScope sWithout) (by decide +kernel)) (fun _ _ _ _ _ => (pg_name (i := 2) nd rfl (Or.inl rfl))) (fun _ _ _ _ _ => pts_one (pt_cmpR op_ne (pe_ix ix_tup (pv 2) pe_int (fun _ _ => rfl)) (pv 1) (nomark _))) (fun _ _ _ _ _ => (pv 2))) pa_nil)) pa_nil))))), ?_⟩
    refine ⟨_, rfl, r, _, 1, _, rfl, rfl, h1, at1, q, rfl, ⟨_, h2⟩, fun D hD => lc_tup (K := K) (a := q) (xs := ts) (fun i H' => ∃ us, H' D = some (.lst us) ∧ us.length ≤ i ∧ PrsV H us (((ns.take i).filter fun n => !decide (n.1 = k)).map vp) ∧ Same H H') ⟨[], upd_same, Nat.le_refl _, .nil, up1 hD⟩ (fun i H' _ z => by obtain ⟨_, _, _, _, s⟩ := z; exact h2.same s) ?_ ?_⟩
    · rintro i v H' hi ⟨us, hD', hlu, hus, s1⟩
      obtain ⟨p, hp, hx⟩ := pget h3 hi
      have hil : i < ns.length := by
        have := (List.getElem?_eq_some_iff.mp hp).1
        rw [List.length_map] at this
        exact this
      have ep : p = vp ns[i] := by
        rw [List.getElem?_map, List.getElem?_eq_getElem hil] at hp
        exact (Option.some.inj hp).symm
      subst ep
      obtain ⟨t, rfl, ht, _⟩ := id hx
      refine ⟨rfl, _, rfl, t, _, 0, _, rfl, rfl, SqT.of (s1 _ _ ht), at0, _, rfl, rfl, _, rfl, ?_⟩
      rw [List.take_succ_eq_append_getElem hil, List.filter_append, List.map_append]
      by_cases c : (ns[i]).1 = k
      · refine iteNS (congrArg V.int c) ⟨us, hD', by omega, ?_, s1⟩
        rw [List.filter_cons, if_neg (by simp [c])]
        simpa using hus
      · refine iteNT (fun z => c (V.int.inj z)) ⟨_, rfl, _, hD', by omega, us ++ [.ref t], upd_same, (by rw [List.length_append, List.length_singleton]; omega), papp hus ?_, fun b o e => by rw [upd_ne (ne_of_none e hD)]; exact s1 b o e⟩
        rw [List.filter_cons, if_pos (by simp [c])]
        exact .cons hx .nil
    · rintro H' ⟨us, hD', hlu, hus, s1⟩
      rw [hln, List.take_length] at hus
      refine ⟨D, _, rfl, .inl ⟨SqL.of hD', fun u hu => ⟨(by show 2 ≤ sizeLine; decide), fun x hx => ?_⟩⟩⟩
      have s2 := s1.trans (up1 (o := HO.tup us) hu)
      have e2 : upd H' u (HO.tup us) u = _ := upd_same
      generalize upd H' u (HO.tup us) = H2 at s2 e2 hx ⊢
      exact kQ _ x (s2.trans (up1 hx)) ⟨u, us, SqT.of upd_same, SqT.of (up1 hx _ _ e2), hus.same (s2.trans (up1 hx))⟩
theorem scWith : FnScope ["record", "key", "value", "pairs"] ["record", "key", "value"] (defScope sWith) := ⟨rfl, rfl, rfl, by decide +kernel, rfl, by decide +kernel, by decide +kernel⟩
theorem go_with (F : GT K mg "with_item" sWith ["record", "key", "value"]) (B : Bn mg) (GWo : GO P w K mg base CX0 1 "without_item" ["record", "key"] (spWithout K)) : GO P w K mg base CX0 2 "with_item" ["record", "key", "value"] (spWith K) := by
  obtain ⟨f, fd, F, hm, hb⟩ := F
  refine ⟨f, fd, ?_, hm, F.kp, hb⟩
  refine F.ok scWith (fun vs H Q E h => ?_) (fun cdv A outer s H vs Q E hr h => ?_)
  · obtain ⟨r, k, v, ns, rfl, _⟩ := h
    rfl
  · obtain ⟨r, k, v, ns, rfl, R, hl, kQ⟩ := h
    have nd := scWith.nd
    have hrWo : Room 1 _ := hr
    have hsl : sizeLine = 16777216 := sizeLine_eq
    refine ⟨_, (pss_cons (ps_set (i := 3) nd rfl (Or.inl rfl) (pe_ix ix_tup (pc_ GWo hrWo (pa_cons (pv 0) (pa_cons (pv 1) pa_nil))) pe_int (fun _ _ => rfl)))
  (pss_one (ps_ret (pe_tup (pa_cons pe_str (pa_cons (pe_callTy call_tuple_of (by rfl) B.tuple (by decide +kernel) (pa_cons (pe_callB cr_sortedPO (by rfl) B.sorted (by decide +kernel) (pa_cons (pe_lst (pa_star (pv 3) (pa_cons (pe_tup (pa_cons (pv 1) (pa_cons (pv 2) pa_nil))) pa_nil))) pa_nil)) pa_nil)) pa_nil)))))), ?_⟩
    refine ⟨_, rfl, _, rfl, r, k, ns, rfl, R, hl, fun H1 r1 s1 R1 => ?_⟩
    obtain ⟨q, ts, h1, h2, h3⟩ := R1
    have hln : ts.length ≤ ns.length := by
      rw [plen h3, List.length_map]
      exact List.length_filter_le _ _
    generalize (ns.filter fun n => !decide (n.1 = k)) = fs at h3 kQ
    refine ⟨r1, _, 1, _, rfl, rfl, h1, at1, _, rfl, q, ts, rfl, .inl h2, _, rfl, _, rfl, (by show 2 ≤ sizeLine; decide), fun u hu => ⟨?_, fun l hl' => ?_⟩⟩
    · rw [List.length_append]
      show ts.length + 1 ≤ _
      omega
    have s2 := s1.trans (up1 (o := HO.tup [V.int k, V.int v]) hu)
    have e2 : upd H1 u (HO.tup [V.int k, V.int v]) u = _ := upd_same
    have s12 := up1 (o := HO.tup [V.int k, V.int v]) hu
    generalize upd H1 u (HO.tup [V.int k, V.int v]) = H2 at s2 s12 e2 hl' ⊢
    have p2 : PrsV H2 (ts ++ [.ref u]) ((fs ++ [(k, v)]).map vp) := by
      rw [List.map_append]
      exact papp (h3.same s12) (.cons ⟨u, rfl, e2, ⟨_, .flat rfl⟩, _, .flat rfl⟩ .nil)
    have s3 := s2.trans (up1 (o := HO.lst (ts ++ [.ref u])) hl')
    have p3 := p2.same (up1 (o := HO.lst (ts ++ [.ref u])) hl')
    have e3 : upd H2 l (HO.lst (ts ++ [.ref u])) l = _ := upd_same
    generalize upd H2 l (HO.lst (ts ++ [.ref u])) = H3 at s3 p3 e3 ⊢
    have ek : (ts ++ [V.ref u]).map (kH H3) = fs ++ [(k, v)] := pmap_k p3
    have hmem : ∀ x ∈ ts ++ [V.ref u], ∃ n, PairV H3 x (vp n) := fun x hx => by
      obtain ⟨p, hp, hf⟩ := pmem p3 x hx
      obtain ⟨n, _, rfl⟩ := List.mem_map.mp hp
      exact ⟨n, hf⟩
    refine ⟨l, _, kH H3, rfl, SqL.of e3, fun x hx => ?_, fun ys p srt stb hp => ?_⟩
    · obtain ⟨n, t, rfl, ht, _⟩ := hmem x hx
      exact ⟨t, rfl, by rw [kH_eq ht]; exact ht⟩
    · have s4 := s3.trans (up1 (o := HO.lst ys) hp)
      have e4 : upd H3 p (HO.lst ys) p = _ := upd_same
      have s34 := up1 (o := HO.lst ys) hp
      generalize upd H3 p (HO.lst ys) = H4 at s4 s34 e4 ⊢
      refine ⟨p, _, rfl, .inl ⟨SqL.of e4, fun z hz => ⟨(by show 2 ≤ sizeLine; decide), fun x hx => ?_⟩⟩⟩
      have s5 := s4.trans (up1 (o := HO.tup ys) hz)
      have s45 := s34.trans (up1 (o := HO.tup ys) hz)
      have e5 : upd H4 z (HO.tup ys) z = _ := upd_same
      generalize upd H4 z (HO.tup ys) = H5 at s5 s45 e5 hx ⊢
      have pys : PrsV H3 ys ((ys.map (kH H3)).map vp) := prs_of fun y hy => hmem y (stb.perm.mem_iff.mp hy)
      refine kQ _ x (ys.map (kH H3)) (s5.trans (up1 hx)) ⟨z, ys, SqT.of upd_same, SqT.of (up1 hx _ _ e5), (pys.same s45).same (up1 hx)⟩ ?_ ?_
      · have := stb.perm.map (kH H3)
        rw [ek] at this
        exact this
      · exact List.pairwise_map.mpr srt
theorem scNext : FnScope ["tape", "many", "rest", "cell"] ["tape", "many"] (defScope sNext) := ⟨rfl, rfl, rfl, by decide +kernel, rfl, by decide +kernel, by decide +kernel⟩
theorem go_next (F : GT K mg "_law_next" sNext ["tape", "many"]) (B : Bn mg) : GO P w K mg base CX0 1 "_law_next" ["tape", "many"] spNext := by
  obtain ⟨f, fd, F, hm, hb⟩ := F
  refine ⟨f, fd, ?_, hm, F.kp, hb⟩
  refine F.ok scNext (fun vs H Q E h => ?_) (fun cdv A outer s H vs Q E hr h => ?_)
  · obtain ⟨tp, sp, ns, pos, rest, seed, many, rfl, _⟩ := h
    rfl
  · obtain ⟨tp, sp, ns, pos, rest, seed, many, rfl, T, m0, m1, hns, k⟩ := h
    have nd := scNext.nd
    have hsl : sizeLine = 16777216 := sizeLine_eq
    have ht := T.t
    have hs := T.s
    have hr0 := T.r
    have sp_tp : sp ≠ tp := ne_of hs ht (by intro z; cases ns with | nil => cases z | cons a l => cases z)
    refine ⟨_, (pss_cons (ps_set (i := 2) nd rfl (Or.inl rfl) (pe_ix ix_list (pv 0) pe_int (fun _ _ => rfl)))
  (pss_cons (ps_if (pt_cmpR op_gt (pv 2) pe_int (nomark _))
  (pss_cons (ps_asg (pe_op op_fdivN (pv 2) (pv 1)) (pg_sub (pv 0) pe_int set_list))
  (pss_one (ps_ret (pe_op op_modN (pe_callTy call_int1 (by rfl) B.int (by decide +kernel) (pa_cons (pv 2) pa_nil)) (pv 1)))))
  pss_nil)
  (pss_cons (ps_set (i := 3) nd rfl (Or.inl rfl) pe_int)
  (C8.pss_cut (ps_if (pt_cmpR op_lt (pe_ix ix_list (pv 0) pe_int (fun _ _ => rfl)) (pe_callB call_len_seq (by rfl) B.len PySem.boot_len (pa_cons (pe_ix ix_list (pv 0) pe_int (fun _ _ => rfl)) pa_nil)) (nomark _))
  (pss_cons (ps_set (i := 3) nd rfl (Or.inl rfl) (pe_callB call_abs (by rfl) B.abs (by decide +kernel) (pa_cons (pe_ix ix_list (pe_ix ix_list (pv 0) pe_int (fun _ _ => rfl)) (pe_ix ix_list (pv 0) pe_int (fun _ _ => rfl)) (fun _ _ => rfl)) pa_nil)))
  (pss_one (ps_augS (pv 0) pe_int Rt.pget_list pe_int ip_add set_list)))
  pss_nil)
  (pss_cons (ps_if (pt_cmpR op_ge (pv 3) (pe_op op_pow pe_int pe_int) (nomark _))
  (pss_cons (ps_asg (pe_op op_fdivN (pv 3) (pv 1)) (pg_sub (pv 0) pe_int set_list))
  (pss_one (ps_ret (pe_op op_modN (pe_callTy call_int1 (by rfl) B.int (by decide +kernel) (pa_cons (pv 3) pa_nil)) (pv 1)))))
  pss_nil)
  (pss_cons (ps_asg (pe_op op_mod (pe_callTy call_int1 (by rfl) B.int (by decide +kernel) (pa_cons (pe_op op_add (pe_op op_add (pe_op op_mul (pe_ix ix_list (pv 0) pe_int (fun _ _ => rfl)) pe_int) (pe_op op_mul (pv 3) pe_int)) pe_int) pa_nil)) pe_int) (pg_sub (pv 0) pe_int set_list))
  (pss_one (ps_ret (pe_op op_modN (pe_callTy call_int1 (by rfl) B.int (by decide +kernel) (pa_cons (pe_op op_fdiv (pe_op op_mod (pe_op op_mul (pe_ix ix_list (pv 0) pe_int (fun _ _ => rfl)) pe_int) pe_int) pe_int) pa_nil)) (pv 1)))))))))), ?_⟩
    have mo : ∀ x : Int, 0 ≤ x.fmod many ∧ x.fmod many < many := fun x => by
      rw [Int.fmod_eq_emod_of_nonneg _ (by omega)]
      exact ⟨Int.emod_nonneg _ (by omega), Int.emod_lt_of_pos _ m0⟩
    refine ⟨_, rfl, tp, _, 2, _, rfl, rfl, SqL.of ht, rfl, ?_⟩
    refine ⟨_, rfl, _, _, rfl, rfl, _, rfl, ite2 (fun c => ?_) (fun c => ?_)⟩
    · have c := of_decide_eq_true c
      refine ⟨_, rfl, _, rfl, _, _, rfl, rfl, ⟨by omega, by omega⟩, _, rfl, tp, _, 2, 2, rfl, rfl, ht, rfl, ?_⟩
      refine ⟨_, rfl, .inl ⟨_, rfl, _, rfl, _, _, rfl, rfl, (by omega), ?_⟩⟩
      refine k _ _ pos (rest.fdiv many) seed (mo rest).1 (mo rest).2 ⟨upd_same, by rw [upd_ne sp_tp]; exact hs, ?_, T.s0, T.s1⟩ fun b o e n => by rw [upd_ne n]; exact e
      rw [Int.fdiv_eq_ediv_of_nonneg _ (by omega)]
      exact Int.ediv_nonneg (by omega) (by omega)
    · have c : rest = 0 := by
        have : ¬ (0 < rest) := fun z => c (decide_eq_true z)
        omega
      subst c
      refine ⟨fun σ' H' => ∃ (cell : Int) (pos' : Nat), 0 ≤ cell ∧ σ' = [some (.ref tp), some (.int many), some (.int 0), some (.int cell)] ∧ TapeAt H' tp sp ns pos' 0 seed ∧ Kept tp H H', ?_, ?_⟩
      · refine ⟨_, rfl, tp, _, 1, _, rfl, rfl, SqL.of ht, rfl, _, rfl, tp, _, 0, _, rfl, rfl, SqL.of ht, rfl, sp, _, rfl, .inl (SqL.of hs), _, _, rfl, rfl, _, rfl, ite2 (fun c => ?_) (fun c => ?_)⟩
        · have c := of_decide_eq_true c
          rw [List.length_map] at c
          have hp : pos < ns.length := by omega
          have hv : (ns.map V.int)[pos]? = some (V.int ns[pos]) := by rw [List.getElem?_map, List.getElem?_eq_getElem hp]; rfl
          refine ⟨_, rfl, tp, _, 0, _, rfl, rfl, SqL.of ht, rfl, _, rfl, tp, _, 1, _, rfl, rfl, SqL.of ht, rfl, sp, _, _, _, rfl, rfl, SqL.of hs, atI_nat hv, _, rfl, ?_⟩
          refine ⟨_, rfl, tp, _, 1, _, rfl, rfl, SqL.of ht, rfl, _, _, rfl, rfl, tp, _, 1, 1, rfl, rfl, ht, rfl, ?_⟩
          refine ⟨_, pos + 1, ?_, rfl, ⟨?_, by rw [upd_ne sp_tp]; exact hs, by decide, T.s0, T.s1⟩, fun b o e n => by rw [upd_ne n]; exact e⟩
          · split <;> omega
          · rw [upd_same]
            rfl
        · exact ⟨0, pos, by decide, rfl, ⟨ht, hs, by decide, T.s0, T.s1⟩, fun b o e n => e⟩
      · rintro σ' H1 ⟨cell, pos', hc, rfl, T1, k1⟩
        have ht1 := T1.t
        have hs1 := T1.s
        refine ⟨_, rfl, _, _, rfl, rfl, ⟨by decide, by decide, by decide⟩, _, _, rfl, rfl, _, rfl, ite2 (fun c => ?_) (fun c => ?_)⟩
        · refine ⟨_, rfl, _, rfl, _, _, rfl, rfl, ⟨by omega, by omega⟩, _, rfl, tp, _, 2, 2, rfl, rfl, ht1, rfl, ?_⟩
          refine ⟨_, rfl, .inl ⟨_, rfl, _, rfl, _, _, rfl, rfl, (by omega), ?_⟩⟩
          refine k _ _ pos' (cell.fdiv many) seed (mo cell).1 (mo cell).2 ⟨upd_same, by rw [upd_ne sp_tp]; exact hs1, ?_, T.s0, T.s1⟩ fun b o e n => by rw [upd_ne n]; exact k1 b o e n
          rw [Int.fdiv_eq_ediv_of_nonneg _ (by omega)]
          exact Int.ediv_nonneg (by omega) (by omega)
        · refine ⟨_, rfl, tp, _, 3, _, rfl, rfl, SqL.of ht1, rfl, _, _, rfl, rfl, .inr ⟨by decide, by decide⟩, _, rfl, _, _, rfl, rfl, .inr ⟨by decide, by decide⟩, _, _, rfl, rfl, _, _, rfl, rfl, .inl ⟨_, rfl, _, _, rfl, rfl, (by show (0 : Int) < 2147483647; decide), _, rfl, tp, _, 3, 3, rfl, rfl, ht1, rfl, ?_⟩⟩
          have b0 := Int.emod_nonneg (seed * 48271 + cell * 69621 + 11) (show (2147483647 : Int) ≠ 0 by decide)
          have b1 := Int.emod_lt_of_pos (seed * 48271 + cell * 69621 + 11) (show (0 : Int) < 2147483647 by decide)
          refine ⟨_, rfl, tp, _, 3, _, rfl, rfl, SqL.of upd_same, rfl, _, _, rfl, rfl, .inr ⟨by decide, by decide⟩, _, _, rfl, rfl, (by show (0 : Int) < 2147483647; decide), _, _, rfl, rfl, ⟨by decide, by decide⟩, .inl ⟨_, rfl, _, rfl, _, _, rfl, rfl, (by omega), ?_⟩⟩
          exact k _ _ pos' 0 _ (mo _).1 (mo _).2 ⟨upd_same, by rw [upd_ne sp_tp]; exact hs1, by decide, b0, b1⟩ fun b o e n => by rw [upd_ne n]; exact k1 b o e n
end
end Dk

set_option maxHeartbeats 4000000
/-! rules: a match over a text, sets of whole numbers, dicts compared -/
namespace Sr
open PySem PySem.Spec PyProof.Rows L2 StX
section
variable {X : Cx}
/-- the cases of a match whose subject is a text -/
structure PMv (X : Cx) (cs : List MatchCase) (t : Str → TS) : Prop where
  run : ∀ (fst : Bool) (pins : List (Addr × Obj)) (s : Shared) (σ : L2.St) (H : Hp) (D : Ends) (z : Str) (u : Value), Inv X pins σ H s → RelV (.str z) u → t z D σ H → wpAny (model X.prog X.w) X.A (matchCases cs X.env u fst) (SP X pins D) X.xe s
def mvNil : Str → TS := fun _ D σ H => D.nx σ H
theorem pmv_nil : PMv X [] mvNil := ⟨fun fst pins s σ H D z u I r h => wpAny_matchCases_nil ⟨σ, H, I, h⟩⟩
def mvCase (kind : Str) (tb : TS) (tr : Str → TS) : Str → TS := fun z D σ H => if z = kind then tb D σ H else tr z D σ H
theorem pmv_case {kind : Str} {j : Nat} {p1 p2 : Pos} {body : List Stmt} {rest : List MatchCase} {tb : TS} {tr : Str → TS} (hb : PSs X body tb) (hr : PMv X rest tr) :
    PMv X (⟨.MatchValue (.Constant (.str kind) j p1) p2, none, body⟩ :: rest) (mvCase kind tb tr) := by
  refine ⟨fun fst pins s σ H D z u I r hw => ?_⟩
  unfold mvCase at hw
  refine wpAny_matchCases_cons (wpAny_matchPattern_Value ?_)
  refine thn ((pe_str (X := X) (x := kind) (j := j) (pos := p1)).run pins _ σ H (fun y H1 => y = .str kind ∧ H1 = H) I ⟨rfl, rfl⟩) fun ku s2 ⟨y, H2, I2, r2, ey, eH⟩ => ?_
  subst ey
  subst eH
  refine thn (op_eq pins s2 σ H2 (.str z) (.str kind) u ku (fun c H3 => c = .bl (decide (V.str z = V.str kind)) ∧ H3 = H2) I2 r r2 ⟨rfl, rfl, rfl⟩) fun cv s3 ⟨c, H3, I3, r3, ec, eH⟩ => ?_
  subst ec
  subst eH
  cases r3
  refine wpAny_truthy_bool ?_
  by_cases hk : z = kind
  · rw [if_pos hk] at hw
    subst hk
    have et : decide (V.str z = V.str z) = true := decide_eq_true rfl
    rw [if_pos et]
    show wpAny _ _ (assignInOrder [] []) _ _ _
    refine wpAny_assignInOrder_none ?_
    exact hb.run pins s3 _ _ D I3 hw
  · rw [if_neg hk] at hw
    have et : decide (V.str z = V.str kind) = false := decide_eq_false fun e => hk (V.str.inj e)
    rw [if_neg (by rw [et]; exact Bool.false_ne_true)]
    exact hr.run false pins s3 σ _ D z u I3 r hw
def tMatchV (te : TE) (tm : Str → TS) : TS := fun D σ H => te σ H fun x H1 => ∃ z, x = .str z ∧ tm z D σ H1
theorem ps_matchV {e : Expr} {te : TE} {cs : List MatchCase} {tm : Str → TS} {pos : Pos} (he : PE X e te) (hm : PMv X cs tm) : PS X (.Match e cs pos) (tMatchV te tm) := by
  refine ⟨fun pins s σ H D I h => ?_⟩
  refine wpAny_Match (thn (he.run pins s σ H _ I h) fun u s1 ⟨x, H1, I1, r1, z, ex, hw⟩ => ?_)
  subst ex
  exact hm.run true pins s1 σ H1 D z u I1 r1 hw
theorem vhit {kind : Str} {tb : TS} {tr : Str → TS} {D : Ends} {σ : L2.St} {H : Hp} (h : tb D σ H) : mvCase kind tb tr kind D σ H := by
  unfold mvCase
  rw [if_pos rfl]
  exact h
theorem vmiss {kind z : Str} {tb : TS} {tr : Str → TS} {D : Ends} {σ : L2.St} {H : Hp} (hk : z ≠ kind) (h : tr z D σ H) : mvCase kind tb tr z D σ H := by
  unfold mvCase
  rw [if_neg hk]
  exact h
/-- len of a set of whole numbers -/
theorem call_lenSet : CallR X (.builtin "len") (fun xs H Q => ∃ (a : Addr) (S : Int → Bool) (n : Nat), xs = [.ref a] ∧ H a = some (SetO X.w a S n) ∧ n < 64 ∧ Q (.int n) H) := by
  intro pins s σ H xs us Q I r h
  obtain ⟨a, S, n, rfl, ha, h64, q⟩ := h
  rw [Vals.ref1 r]
  obtain ⟨o, es, ep, t, ho, hex, hd, _, _, _, _, hf, hn, _⟩ := setO_get I ha
  refine call_len_set ho hex hd hf (by rw [hn]; omega) ⟨.int n, H, I.tok _, ⟨_, by rw [hn]⟩, q⟩
/-- equal, dicts of whole numbers -/
def eqTb (a b : List (Int × Int)) : Bool := a.length == b.length && a.all fun p => b.lookup p.1 == some p.2
theorem hits_int {A : Around} {s : Shared} {b : List (Int × Int)} {vb : List (Key × Value)} (rb : KV (Rt.kvI b) vb) : ∀ {a : List (Int × Int)} {va : List (Key × Value)}, KV (Rt.kvI a) va → PySem.W.KeqHits A s vb va (a.all fun p => b.lookup p.1 == some p.2)
  | [], _, .nil => .nil
  | p :: a, _, .cons (b := q) h t => by
    obtain ⟨h1, h2⟩ := h
    obtain ⟨k, v⟩ := q
    have h1' : (Sum.inl p.1 : Key) = k := h1
    subst h1'
    obtain ⟨tk, rfl⟩ := (show ∃ t, v = Value.int p.2 t from h2)
    have rr : RelO (valV (Rt.kvI b) (Sum.inl p.1 : Key)) (valueAt vb (Sum.inl p.1)) := rb.val _
    rw [Dk.valV_kvI] at rr
    have ih := hits_int rb (A := A) (s := s) t
    show PySem.W.KeqHits A s vb _ ((b.lookup p.1 == some p.2) && (a.all fun p => b.lookup p.1 == some p.2))
    cases e : b.lookup p.1 with
    | none =>
      rw [e] at rr
      have hn : valueAt vb (Sum.inl p.1) = none := by
        cases ev : valueAt vb (Sum.inl p.1) with
        | none => rfl
        | some y => rw [ev] at rr; cases rr
      rw [show ((none : Option Int) == some p.2) = false from rfl, Bool.false_and]
      exact .miss hn
    | some v' =>
      rw [e] at rr
      obtain ⟨y, hy, ry⟩ := rr.some_of
      obtain ⟨t', rfl⟩ := (show ∃ t, y = Value.int v' t from ry)
      have q := SeqAt.EqAt.int_int (A := A) (s := s) p.2 tk v' t'
      have ec : (some v' == some p.2) = (p.2 == v') := BEq.comm (a := v') (b := p.2)
      rw [ec]
      exact .hit hy q ih
def rEqI : R2 := fun x y H Q => ∃ a b s t, x = .ref a ∧ y = .ref b ∧ H a = some (.dK (Rt.kvI s)) ∧ H b = some (.dK (Rt.kvI t)) ∧ Q (.bl (eqTb s t)) H
theorem op_eqI (hu : X.A.units < cLine) : OpR X (compareOp .Eq) rEqI := by
  intro pins s σ H x y v u Q I rx ry h
  obtain ⟨a, b, ks, ls, rfl, rfl, ea, eb, q⟩ := h
  obtain rfl : v = Value.ref a := rx
  obtain rfl : u = Value.ref b := ry
  obtain ⟨_, ya, va, ra, da⟩ := (show ObjOk X.prog X.w H s.heap a (.dK (Rt.kvI ks)) from I.hok a _ ea)
  obtain ⟨_, yb, vb, rb, db⟩ := (show ObjOk X.prog X.w H s.heap b (.dK (Rt.kvI ls)) from I.hok b _ eb)
  have l1 : va.length = ks.length := by rw [← ra.length]; exact Dk.kvI_len ks
  have l2 : vb.length = ls.length := by rw [← rb.length]; exact Dk.kvI_len ls
  exact PySem.W.keq_eq (knd := mixKind X.prog X.w) ya yb da db hu (fun _ => hits_int rb ra) (fin_bl I q (by rw [l1, l2]; rfl))
theorem hits_ref {A : Around} {s : Shared} {kb : List (Key × V)} {vb : List (Key × Value)} (rb : KV kb vb) : ∀ {ka : List (Key × V)} {va : List (Key × Value)}, KV ka va → (∀ p ∈ ka, valV kb p.1 = some p.2 ∧ ∃ r, p.2 = .ref r) → PySem.W.KeqHits A s vb va true
  | [], _, .nil, _ => .nil
  | p :: ka, _, .cons (b := q) h t, hp => by
    obtain ⟨h1, h2⟩ := h
    obtain ⟨k, v⟩ := q
    have h1' : p.1 = k := h1
    subst h1'
    obtain ⟨e1, r, e2⟩ := hp p List.mem_cons_self
    have rr : RelO (some p.2) (valueAt vb p.1) := by rw [← e1]; exact rb.val _
    obtain ⟨y, hy, ry⟩ := rr.some_of
    rw [e2] at ry h2
    obtain rfl : y = Value.ref r := ry
    obtain rfl : v = Value.ref r := h2
    show PySem.W.KeqHits A s vb _ (true && true)
    exact .hit hy (SeqAt.EqAt.same _) (hits_ref rb t fun p' hm => hp p' (List.mem_cons_of_mem _ hm))
def rNeR : R2 := fun x y H Q => ∃ a b ks, x = .ref a ∧ y = .ref b ∧ H a = some (.dK ks) ∧ H b = some (.dK ks) ∧ (∀ p ∈ ks, valV ks p.1 = some p.2 ∧ ∃ r, p.2 = .ref r) ∧ Q (.bl false) H
theorem op_neR (hu : X.A.units < cLine) : OpR X (compareOp .NotEq) rNeR := by
  intro pins s σ H x y v u Q I rx ry h
  obtain ⟨a, b, ks, rfl, rfl, ea, eb, hp, q⟩ := h
  obtain rfl : v = Value.ref a := rx
  obtain rfl : u = Value.ref b := ry
  obtain ⟨_, ya, va, ra, da⟩ := (show ObjOk X.prog X.w H s.heap a (.dK ks) from I.hok a _ ea)
  obtain ⟨_, yb, vb, rb, db⟩ := (show ObjOk X.prog X.w H s.heap b (.dK ks) from I.hok b _ eb)
  have hl : va.length = vb.length := by rw [← ra.length, ← rb.length]
  exact PySem.W.keq_ne (knd := mixKind X.prog X.w) (r := true) ya yb da db hu (fun _ => hits_ref rb ra hp) (fin_bl I q (by simp [hl]))
theorem op_isB : OpR X (compareOp .Is) (fun x y H Q => ∃ b c, x = .bl b ∧ y = .bl c ∧ Q (.bl (b == c)) H) := by
  intro pins s σ H x y v u Q I rx ry h
  obtain ⟨b, c, rfl, rfl, q⟩ := h
  cases rx
  cases ry
  exact PyProof.Rows.is_bool (fin_bl I q rfl)
theorem op_notB : OpR X (compareOp .IsNot) (fun x y H Q => ∃ b c, x = .bl b ∧ y = .bl c ∧ Q (.bl (b != c)) H) := by
  intro pins s σ H x y v u Q I rx ry h
  obtain ⟨b, c, rfl, rfl, q⟩ := h
  cases rx
  cases ry
  exact PyProof.Rows.isnot_bool (fin_bl I q rfl)
end
section
variable {X : Cx}
/-- what the block of a set comprehension leaves behind one member more -/
def Adds (w : World) (D : Addr) (y : V) (H : Hp) (Nx : Hp → Prop) : Prop := ∃ (c : Int) (S : Int → Bool) (n : Nat), y = .int c ∧ H D = some (SetO w D S n) ∧ n + 1 < scanBound ∧ Nx (upd H D (SetO w D (fun j => S j || decide (j = c)) (if S c = true then n else n + 1)))
theorem adds_run {pins : List (Addr × Obj)} {σ : L2.St} {H : Hp} {s : Shared} {E : Value → Shared → Prop} {D : Addr} {y : V} {z : Value} {Nx : Hp → Prop} {Q : Value → Shared → Prop} (I : Inv X pins σ H s) (rz : RelV y z) (h : Adds X.w D y H Nx)
    (k : ∀ s' H', Inv X pins σ H' s' → Nx H' → Q .none s') : wpAny (model X.prog X.w) X.A (call (.builtin "set.add") [.ref D, z]) Q E s := by
  obtain ⟨c, S, n, rfl, hD, room, nx⟩ := h
  obtain ⟨tk, rfl⟩ := rz
  refine setR_add (setO_get I hD) room fun h' sb new => ?_
  have he : ∃ u, h'.get? D = some u := by
    have ⟨o, _, _, _, ho, _⟩ := new
    exact ⟨o, ho⟩
  exact k _ _ (I.write (e := D) (t' := s.toks + 1) (by rw [hD]; trivial) (.inl rfl) (fun b u hb hu => (sb.2 b hb).trans hu) he (setO_new new)) nx
end
end Sr

set_option maxHeartbeats 4000000
/-! a set comprehension of whole numbers -/
namespace Sr
open PySem PySem.Spec PyProof.Rows L2 StX
abbrev none0 (w : World) (D : Addr) : HO := SetO w D (fun _ => false) 0
/-- {elt for target in iter if ..}: D the new set -/
def tScI (w : World) (wi : TI) (g : TG) (tt : TT) (te : TE) (vs : List Nat) : TE := fun σ H Q => wi σ H fun J H1 => ∀ D, H1 D = none → ∃ W : Nat → Nat → Hp → Prop, (∃ m, W 0 m (upd H1 D (none0 w D))) ∧ ∀ i m H, W i m H →
  (J.stop i H ∧ Q (.ref D) H) ∨ (J.go i H ∧ ∃ Nx : Hp → Prop, (∀ H', Nx H' → ∃ m', m' < m ∧ W (i + 1) m' H') ∧ ∀ x H', J.yld i H x H' → g x (wipe σ vs) H' fun σ2 H2 => wipe σ2 vs = wipe σ vs ∧ tt σ2 H2 fun b H3 =>
    if b = true then te σ2 H3 fun y H4 => Adds w D y H4 Nx else Nx H3)
section
variable {X : Cx}
theorem pe_scI {elt tg iter : Expr} {ifs : List Expr} {scope : Scope} {own : List (PySem.Str × Nat)} {pos : Pos} {wi : TI} {g : TG} {tt : TT} {te : TE} (hc : X.calm = true) (hN : X.N.Nodup) (hi : PI X tg iter wi) (ok : BlkOk X.N X.env.scope scope own)
    (hg : ∀ (s : Shared) (H : Hp) (C : Addr) (cl : List (PySem.Str × Addr)) (fp : List Addr), PG (X.blk s H scope (compEnvC scope cl C X.env) fp) tg g) (ht : ∀ (s : Shared) (H : Hp) (C : Addr) (cl : List (PySem.Str × Addr)) (fp : List Addr), PTs (X.blk s H scope (compEnvC scope cl C X.env) fp) ifs tt)
    (he : ∀ (s : Shared) (H : Hp) (C : Addr) (cl : List (PySem.Str × Addr)) (fp : List Addr), PE (X.blk s H scope (compEnvC scope cl C X.env) fp) elt te) (hs : ∀ x, foldedSetIterable iter X.env x = pure x := by intro _; rfl) :
    PE X (.SetComp elt [⟨tg, iter, ifs, 0⟩] scope pos) (tScI X.w wi g tt te (own.map (·.2))) := by
  refine ⟨fun pins s σ H Q I h => ?_⟩
  rw [PpSet.eval_SetComp]
  have hfree : ∀ y ∈ scope.names, y.2 = .free → ∃ c, X.env.cells.lookup y.1 = some c := fun y hy e => by
    rcases ok.free y hy e with k | k
    · exact I.ok.has _ (.inl k)
    · exact I.ok.has _ (.inr k)
  refine wpAny_comprehension_free rfl hs (closure_ok hfree) ok.kind (fun y hy e => by rw [ok.uniq y hy, e])
    (thn (hi.run pins s σ H _ I h) fun xv s1 hx => thn hx fun itv s2 h2 => ?_)
  obtain ⟨it, fp, tn, J, H2, e, I2, T, st2, f2, q⟩ := h2
  subst e
  refine PpSet.newSet_ok (newEnv_comp ?_)
  generalize hD : s2.heap.objs.size = D
  obtain ⟨W, ⟨m0, w0⟩, turn⟩ := q D (I2.hok.fresh (Nat.le_of_eq hD))
  generalize hs3 : ({ s2 with heap := s2.heap.push { cls := .type "set", dict := none, data := .set #[] 0 (.fresh 0 0 (!X.w.params.followText "set-order")) } } : Shared) = s3
  have h3 : s3.heap = s2.heap.push { cls := .type "set", dict := none, data := .set #[] 0 (.fresh 0 0 (!X.w.params.followText "set-order")) } := by rw [← hs3]
  have I3 : Inv X pins σ (upd H2 D (none0 X.w D)) s3 := by
    rw [← hs3]
    refine I2.laid (t' := s2.toks) (fun b o e => Heap.get?_push_of_some _ e) (Nat.le_of_eq hD) ?_
    rw [← hD]
    exact setO_new (setR_fresh X.w)
  have f3 : ∀ b ∈ fp, FpOk X pins (upd H2 D (none0 X.w D)) b ∧ b < s3.heap.objs.size := fun b hb => by
    obtain ⟨o, e, _⟩ := T.obj _ _ st2 b hb
    have hlt := Heap.lt_size e
    refine ⟨⟨?_, (f2 b hb).2⟩, by rw [h3, Heap.size_push]; exact Nat.lt_succ_of_lt hlt⟩
    rw [upd_ne (by rw [← hD]; exact Nat.ne_of_lt hlt)]
    exact (f2 b hb).1
  have st3 : tn 0 s3.heap := T.keep _ _ _ st2 fun b _ o e => by rw [h3]; exact Heap.get?_push_of_some _ e
  generalize hH3 : upd H2 D (none0 X.w D) = H3 at I3 w0 f3
  have I4 := block_start I3 ok hN f3
  generalize hcl : cellsFrom (s3.heap.objs.size + 1) scope.names (cloFrom X.env.cells scope.names []) = cl at I4
  have pg := hg s3 H3 s3.heap.objs.size cl fp
  have pt := ht s3 H3 s3.heap.objs.size cl fp
  have pe := he s3 H3 s3.heap.objs.size cl fp
  show codeAny _ _ (.compStart (.SetComp elt [⟨tg, iter, ifs, 0⟩] scope pos) 0 (.ref it) (.ref D) (compEnvC scope cl s3.heap.objs.size X.env)) (compPost (model X.prog X.w) X.A X.xe none (EP X pins σ Q) (.ref D) s3.heap.objs.size) { s3 with heap := pushCells (s3.heap.push { cls := .type "dict", data := .dict #[] }) scope.names }
  have nfp : ∀ b ∈ fp, H3 b = none := fun b hb => (f3 b hb).1.1
  generalize hce : compEnvC scope cl s3.heap.objs.size X.env = ce at I4 pg pt pe ⊢
  have cL : ce.locals = s3.heap.objs.size := by subst hce; rfl
  generalize hs4 : ({ s3 with heap := pushCells (s3.heap.push { cls := .type "dict", data := .dict #[] }) scope.names } : Shared) = s4 at I4 ⊢
  have st4 : tn 0 s4.heap := T.keep _ _ _ st3 fun b _ o e => by rw [← hs4]; exact pushCells_keeps _ _ _ _ (Heap.get?_push_of_some _ e)
  have stat : ∀ {σ' : L2.St} {H' : Hp} {s' : Shared}, Inv (X.blk s3 H3 scope ce fp) [] σ' H' s' → (∀ b ∈ fp, H' b = none) → ∀ b ∈ fp, FpOk (X.blk s3 H3 scope ce fp) [] H' b := fun {σ' H' s'} I' hn b hb =>
    ⟨hn b hb, (I'.ok.exf b hb).1, I'.ok.exfs b hb, .inl hb, fun x c e => (I'.ok.exf b hb).2 x c e, fun p hp => absurd (show p ∈ ([] : List (Addr × Obj)) ++ [] from hp) (by simp)⟩
  refine PpSet.codeAny_compStart_set ?_ ?_
  rotate_left
  refine T.self X.A 0 _ _ _ st4 ?_
  all_goals
  · refine PpSet.compLoopS_any (fun n s' => ∃ i H', Inv (X.blk s3 H3 scope ce fp) [] (wipe σ (own.map (·.2))) H' s' ∧ tn i s'.heap ∧ (∀ b ∈ fp, H' b = none) ∧ W i n H') ?_ m0 ⟨0, H3, I4, st4, nfp, w0⟩
    rintro n s5 ⟨i, H5, I5, st5, n5, w5⟩
    rcases turn i n H5 w5 with ⟨stop, qq⟩ | ⟨go, Nx, hNx, step⟩
    · refine thnF (T.done (X.blk s3 H3 scope ce fp) rfl rfl rfl hc i [] s5 _ H5 (fun _ _ => False) I5 (stat I5 n5) st5 stop) fun r s6 ⟨hr, I6⟩ => ?_
      subst hr
      have I7 : Inv X pins σ H5 s6 := I3.call' (ch := fp) I6.os I6.base I6.hok I6.bare fun b hb => ⟨(f3 b hb).1.2.2.2.1, (f3 b hb).1.2.1, (f3 b hb).1.2.2.2.2.1, (f3 b hb).1.2.2.2.2.2⟩
      have nC : H5 s3.heap.objs.size = none := by
        have z : H5 ce.locals = none := I6.free
        rw [cL] at z
        exact z
      obtain ⟨m, hn, _⟩ := I6.loc
      have hn : s6.heap.Ns ce.locals m := hn
      rw [cL] at hn
      obtain ⟨f0, f1, f2', f3', f4, f5⟩ := I3.fpOk (Nat.le_refl _) nC
      exact ⟨m, hn, fun h'' sb => ⟨.ref D, H5, I7.turned (t' := s6.toks) (fun b o hb e => (sb.2 b hb).trans e) f0 f1 f3' f4 f5, rfl, qq⟩⟩
    · refine thnF (T.item (X.blk s3 H3 scope ce fp) rfl rfl rfl hc i [] s5 _ H5 (fun _ _ => False) I5 (stat I5 n5) st5 go) fun r s6 ⟨u, hr, h6⟩ => ?_
      subst hr
      refine thnF h6 fun _ s7 ⟨x, H7, I7, r7, y7, st7, n7⟩ => ?_
      refine thnF (pg.run _ s7 _ H7 x u _ (I7.pinned (stat I7 n7) (T.obj _ _ st7)) r7 (step x H7 y7)) fun _ s8 ⟨σ8, H8, I8, hw8, q8⟩ => ?_
      refine thnF (pt.run _ s8 σ8 H8 _ I8 q8) fun b s9 ⟨H9, I9, q9⟩ => ?_
      have fin : ∀ {s' : Shared} {H' : Hp}, Inv (X.blk s3 H3 scope ce fp) ([] ++ pinsAt fp s7.heap) σ8 H' s' → Nx H' → ∃ m, m < n ∧ ∃ i H', Inv (X.blk s3 H3 scope ce fp) [] (wipe σ (own.map (·.2))) H' s' ∧ tn i s'.heap ∧ (∀ b ∈ fp, H' b = none) ∧ W i m H' := fun {s' H'} I' nx => by
        obtain ⟨m', hm, w'⟩ := hNx H' nx
        have pin' : ∀ b ∈ fp, ∀ o, s7.heap.get? b = some o → s'.heap.get? b = some o ∧ H' b = none := fun b hb o e =>
          let z := I'.pin (b, o) (List.mem_append_right _ (List.mem_append_right _ (mem_pinsAt hb e)))
          ⟨z.1, z.2.1⟩
        refine ⟨m', hm, i + 1, H', (I'.unpinned (pins := [])).weak (by rw [← hw8, wipe_length]) (fun j v e => ?_), T.keep _ _ _ st7 fun b hb o e => (pin' b hb o e).1, fun b hb => ?_, w'⟩
        · rw [← hw8] at e
          exact (wipe_some e).1
        · obtain ⟨o, e, _⟩ := T.obj _ _ st7 b hb
          exact (pin' b hb o e).2
      cases b with
      | false =>
        simp only [Bool.false_eq_true, if_false] at q9 ⊢
        exact fin I9 q9
      | true =>
        simp only [if_true] at q9 ⊢
        refine thnF (pe.run _ s9 σ8 H9 _ I9 q9) fun z s10 ⟨yv, H10, I10, r10, ad⟩ => ?_
        exact adds_run (X := X.blk s3 H3 scope ce fp) I10 r10 ad fun s11 H11 I11 nx => fin I11 nx
end
/-- over a walk that the block leaves as it is -/
theorem sc_it {w : World} {J : It} {n : Nat} {G : Hp → Prop} {Y : Nat → Hp → V → Hp → Prop} (wk : Walk J n G Y) {g : TG} {tt : TT} {te : TE} {vs : List Nat} {σ : L2.St} {H1 : Hp} {D : Addr} {Qd : Hp → Prop} (Pv : Nat → Hp → Prop) (h0 : Pv 0 (upd H1 D (none0 w D))) (hG : ∀ i H, i ≤ n → Pv i H → G H)
    (hs : ∀ i x H H', i < n → Pv i H → Y i H x H' → g x (wipe σ vs) H' fun σ2 H2 => wipe σ2 vs = wipe σ vs ∧ tt σ2 H2 fun b H3 => if b = true then te σ2 H3 fun y H4 => Adds w D y H4 (Pv (i + 1)) else Pv (i + 1) H3) (hd : ∀ H, Pv n H → Qd H) :
    ∃ W : Nat → Nat → Hp → Prop, (∃ m, W 0 m (upd H1 D (none0 w D))) ∧ ∀ i m H, W i m H →
      (J.stop i H ∧ Qd H) ∨ (J.go i H ∧ ∃ Nx : Hp → Prop, (∀ H', Nx H' → ∃ m', m' < m ∧ W (i + 1) m' H') ∧ ∀ x H', J.yld i H x H' → g x (wipe σ vs) H' fun σ2 H2 => wipe σ2 vs = wipe σ vs ∧ tt σ2 H2 fun b H3 =>
        if b = true then te σ2 H3 fun y H4 => Adds w D y H4 Nx else Nx H3) := by
  refine ⟨fun i m H => m = n - i ∧ i ≤ n ∧ Pv i H, ⟨n, by simp, Nat.zero_le _, h0⟩, ?_⟩
  rintro i m H ⟨rfl, hi, p⟩
  by_cases hlt : i < n
  · exact .inr ⟨wk.goes i H hlt (hG i H hi p), Pv (i + 1), fun H' p' => ⟨n - (i + 1), by omega, rfl, hlt, p'⟩, fun x H' y => hs i x H H' hlt p (wk.yields i H x H' hlt (hG i H hi p) y)⟩
  · have e : i = n := by omega
    subst e
    exact .inl ⟨wk.stops H (hG _ H hi p), hd H p⟩
end Sr

set_option maxHeartbeats 8000000
/-! the calls: what they are, their keys, their buckets -/
namespace Dk
open PySem PySem.Spec PyProof.Rows L2 StX
abbrev sIsCall : Stmt := top 10
abbrev sIsPairs : Stmt := top 11
abbrev sKeysOf : Stmt := top 12
abbrev sBkts : Stmt := top 13
abbrev NIc : List Str := ["value", "key", "item", "old", "new", "other", "pairs"]
def keysOf : Cl → List Int
  | .look k => [k]
  | .put k _ => [k]
  | .take k => [k]
  | .change k _ _ => [k]
  | .move k j => [k, j]
  | .puts ps => keys ps
def BksOf (cl : Cl) (bs : List Int) : Prop := bs.Pairwise (· < ·) ∧ ∀ b, b ∈ bs ↔ b ∈ (keysOf cl).map (· % 4)
def spWithin : Sp := fun vs H Q _ => ∃ n lo hi : Int, vs = [.int n, .int lo, .int hi] ∧ Q (.bl (decide (lo ≤ n) && decide (n ≤ hi))) H
def spIsPairs (K : PySem.W.Frag) : Sp := fun vs H Q _ => ∃ (q : Addr) (ts : List V) (ps : Tb), vs = [.ref q] ∧ FzT H q ts ∧ Paired (PairI K H) ts ps ∧ 0 < ps.length ∧ ps.length ≤ 3 ∧ (keys ps).Nodup ∧ ∀ H', Same H H' → Q (.bl true) H'
def spIsCall (K : PySem.W.Frag) : Sp := fun vs H Q _ => ∃ (c : Addr) (cl : Cl), vs = [.ref c] ∧ CallAt K H c cl ∧ cl.ok ∧ ∀ H', Same H H' → Q (.bl true) H'
def spKeys (K : PySem.W.Frag) : Sp := fun vs H Q _ => ∃ (c : Addr) (cl : Cl), vs = [.ref c] ∧ CallAt K H c cl ∧ cl.ok ∧ ∀ H' p, Same H H' → H p = none → H' p = some (.lst ((keysOf cl).map V.int)) → Q (.ref p) H'
def spBkts (K : PySem.W.Frag) : Sp := fun vs H Q _ => ∃ (c : Addr) (cl : Cl), vs = [.ref c] ∧ CallAt K H c cl ∧ cl.ok ∧ ∀ H' p bs, Same H H' → H p = none → H' p = some (.lst (bs.map V.int)) → BksOf cl bs → Q (.ref p) H'
theorem keys_len {cl : Cl} (ok : cl.ok) : 0 < (keysOf cl).length ∧ (keysOf cl).length ≤ 3 := by
  cases cl with
  | puts ps => 
    have : (keysOf (.puts ps)).length = ps.length := List.length_map ..
    rw [this]
    exact ⟨ok.1, ok.2.1⟩
  | _ => exact ⟨by simp [keysOf], by simp [keysOf]⟩
/-- the members of a set that grows by the items of a list -/
structure SetOf (S : Int → Bool) (n : Nat) (xs : List Int) : Prop where
  m : ∀ k, S k = true ↔ k ∈ xs
  l : n ≤ xs.length
  nd : xs.Nodup → n = xs.length
theorem setOf_nil : SetOf (fun _ => false) 0 [] := ⟨fun k => by simp, Nat.le_refl _, fun _ => rfl⟩
theorem SetOf.add {S : Int → Bool} {n : Nat} {xs : List Int} (h : SetOf S n xs) (c : Int) : SetOf (fun j => S j || decide (j = c)) (if S c = true then n else n + 1) (xs ++ [c]) := by
  refine ⟨fun k => ?_, ?_, fun nd => ?_⟩
  · rw [Bool.or_eq_true, decide_eq_true_eq, h.m k, List.mem_append, List.mem_singleton]
  · have := h.l
    rw [List.length_append, List.length_singleton]
    split <;> omega
  · rw [List.length_append, List.length_singleton]
    have nd' := List.nodup_append.mp nd
    have : ¬ S c = true := fun z => nd'.2.2 c ((h.m c).mp z) c (List.mem_singleton.mpr rfl) rfl
    rw [if_neg this, h.nd nd'.1]
section
variable {P : Program} {w : World} {K : PySem.W.Frag} {mg : Str → Option Value} {base : Heap}
theorem scWithin : FnScope ["value", "low", "high"] ["value", "low", "high"] (defScope sWithin) := ⟨rfl, rfl, rfl, by decide +kernel, rfl, by decide +kernel, by decide +kernel⟩
theorem go_within (F : GT K mg "is_within" sWithin ["value", "low", "high"]) (GWh : GO P w K mg base CX0 1 "is_whole" ["value"] spWhole) : GO P w K mg base CX0 2 "is_within" ["value", "low", "high"] spWithin := by
  obtain ⟨f, fd, F, hm, hb⟩ := F
  refine ⟨f, fd, ?_, hm, F.kp, hb⟩
  refine F.ok scWithin (fun vs H Q E h => ?_) (fun cdv A outer s H vs Q E hr h => ?_)
  · obtain ⟨n, lo, hi, rfl, _⟩ := h
    rfl
  · obtain ⟨n, lo, hi, rfl, k⟩ := h
    have nd := scWithin.nd
    have hrW : Room 1 _ := hr
    refine ⟨_, (pss_one (ps_ret (pe_and (pc_ GWh hrW (pa_cons (pv 0) pa_nil)) (pe_one (pe_chain op_le op_le (pv 1) (pv 0) (pv 2)))))), ?_⟩
    refine ⟨_, rfl, _, _, rfl, .flat rfl, true, rfl, iteT ?_⟩
    refine ⟨_, rfl, _, rfl, _, _, rfl, rfl, _, rfl, ?_⟩
    by_cases h1 : lo ≤ n
    · rw [decide_eq_true h1, Bool.true_and] at k
      exact iteD h1 ⟨_, rfl, _, _, rfl, rfl, k⟩
    · rw [decide_eq_false h1, Bool.false_and] at k
      exact iteND h1 k
theorem scIsPairs : FnScope ["value", "pair"] ["value"] (defScope sIsPairs) := ⟨rfl, rfl, rfl, by decide +kernel, rfl, by decide +kernel, by decide +kernel⟩
theorem go_ispairs (hw : w = w) (F : GT K mg "is_pairs" sIsPairs ["value"]) (B : Bn mg) (GWh : GO P w K mg base CX0 1 "is_whole" ["value"] spWhole) (GWt : GO P w K mg base CX0 2 "is_within" ["value", "low", "high"] spWithin) : GO P w K mg base CX0 3 "is_pairs" ["value"] (spIsPairs K) := by
  obtain ⟨f, fd, F, hm, hb⟩ := F
  refine ⟨f, fd, ?_, hm, F.kp, hb⟩
  refine F.ok scIsPairs (fun vs H Q E h => ?_) (fun cdv A outer s H vs Q E hr h => ?_)
  · obtain ⟨q, ts, ps, rfl, _⟩ := h
    rfl
  · obtain ⟨q, ts, ps, rfl, hq, hp, l0, l3, hnd, k⟩ := h
    have nd := scIsPairs.nd
    have hrW : Room 1 _ := hr.mono (by decide)
    have hrWt : Room 2 _ := hr
    have hln := plen hp
    refine ⟨_, (pss_cons (ps_if (PW.pt (pw_or (pt_not (pt_val (pe_callB call_isi (by rfl) B.isi (by decide +kernel) (pa_cons (pv 0) (pa_cons (pe_bltn (v := .ty "tuple") (by rfl) B.tuple (by decide +kernel) rfl) pa_nil))))) (pw_or1 (pt_not (pt_val (pc_ GWt hrWt (pa_cons (pe_callB call_len_seq (by rfl) B.len PySem.boot_len (pa_cons (pv 0) pa_nil)) (pa_cons pe_int (pa_cons pe_int pa_nil)))))))))
  (pss_one (ps_ret pe_bl))
  pss_nil)
  (pss_cons (ps_for PassesOwn.never rfl (pi_tup (pv 0)) (pg_name (i := 1) nd rfl (Or.inl rfl))
  (pss_one (ps_if (pt_not (PW.pt (pw_and (pt_val (pe_callB call_isi (by rfl) B.isi (by decide +kernel) (pa_cons (pv 1) (pa_cons (pe_bltn (v := .ty "tuple") (by rfl) B.tuple (by decide +kernel) rfl) pa_nil)))) (pw_and (pt_cmpR op_eq (pe_callB call_len_seq (by rfl) B.len PySem.boot_len (pa_cons (pv 1) pa_nil)) pe_int (nomark _)) (pw_and (pt_val (pc_ GWh hrW (pa_cons (pe_ix ix_tup (pv 1) pe_int (fun _ _ => rfl)) pa_nil))) (pw_and1 (pt_val (pc_ GWh hrW (pa_cons (pe_ix ix_tup (pv 1) pe_int (fun _ _ => rfl)) pa_nil)))))))))
  (pss_one (ps_ret pe_bl))
  pss_nil)))
  (pss_one (ps_ret (pe_cmpR op_eq (pe_callB Sr.call_lenSet (by rfl) B.len PySem.boot_len (pa_cons (Sr.pe_scI (own := [("pair", 1)]) (g := (gName 1)) (tt := tYes) (te := (tOp (rIxT K) (tVar 1) (tC (.int 0)))) rfl nd (pi_tup (pv 0)) (blkOk_by (N := ["value", "pair"]) (sc := defScope sIsPairs) (by decide +kernel)) (fun _ _ _ _ _ => (pg_name (i := 1) nd rfl (Or.inl rfl))) (fun _ _ _ _ _ => pts_nil) (fun _ _ _ _ _ => (pe_ix ix_tup (pv 1) pe_int (fun _ _ => rfl)))) pa_nil)) (pe_callB call_len_seq (by rfl) B.len PySem.boot_len (pa_cons (pv 0) pa_nil)) (nomark _)))))), ?_⟩
    refine ⟨_, rfl, _, _, _, _, true, rfl, .ty "tuple", tyT hq.sq, kit_ty (by decide +kernel), _, rfl, iteF ?_⟩
    refine ⟨_, rfl, q, _, rfl, .inr hq.sq, _, 1, 3, rfl, _, rfl, ?_⟩
    rw [show (decide ((1 : Int) ≤ (ts.length : Int)) && decide ((ts.length : Int) ≤ 3)) = true by rw [Bool.and_eq_true]; exact ⟨decide_eq_true (by omega), decide_eq_true (by omega)⟩]
    refine iteF ?_
    refine ⟨_, rfl, q, rfl, ⟨_, hq.sq⟩, for_tup (K := K) (a := q) (xs := ts) (fun i σ H' => ∃ x, σ = [some (.ref q), x] ∧ H' = H) ⟨_, rfl, rfl⟩ (fun i σ H' _ z => by obtain ⟨_, _, rfl⟩ := z; exact hq.sq) ?_ ?_⟩
    · rintro i v σ H' hi ⟨x, rfl, rfl⟩
      obtain ⟨n, hn, t, rfl, ht⟩ := pget hp hi
      refine ⟨_, rfl, _, _, _, _, true, rfl, .ty "tuple", tyT ht, kit_ty (by decide +kernel), _, rfl, iteT ?_⟩
      refine ⟨_, rfl, t, _, rfl, .inr ht, rfl, _, rfl, iteD rfl ?_⟩
      refine ⟨_, rfl, t, _, 0, _, rfl, rfl, ht, at0, _, _, rfl, .flat rfl, _, rfl, iteT ?_⟩
      refine ⟨_, rfl, t, _, 1, _, rfl, rfl, ht, at1, _, _, rfl, .flat rfl, _, rfl, iteF ?_⟩
      exact ⟨_, rfl, rfl⟩
    · rintro σ H' ⟨x, rfl, rfl⟩
      refine ⟨_, rfl, q, rfl, ⟨_, hq.sq⟩, fun D hD => Sr.sc_it (walk_tup (K := K) (a := q) (xs := ts)) (fun i H2 => ∃ S n, H2 D = some (SetO w D S n) ∧ SetOf S n ((keys ps).take i) ∧ Same H' H2) ⟨_, _, upd_same, setOf_nil, up1 hD⟩ (fun i H2 _ z => by obtain ⟨_, _, _, _, s⟩ := z; exact hq.sq.same s) ?_ ?_⟩
      · rintro i v H2 H3 hi ⟨S, n, hD2, hS, s2⟩ ⟨rfl, hv⟩
        obtain ⟨m, hm, t, rfl, ht⟩ := pget hp hv
        have hil : i < (keys ps).length := by unfold keys; rw [List.length_map]; omega
        refine ⟨rfl, _, rfl, t, _, 0, _, rfl, rfl, ht.same s2, at0, _, S, n, rfl, hD2, ?_, _, _, upd_same, ?_, fun b o e => by rw [upd_ne (ne_of_none e hD)]; exact s2 b o e⟩
        · have := hS.l
          rw [List.length_take] at this
          unfold scanBound
          omega
        · rw [List.take_succ_eq_append_getElem hil]
          have : (keys ps)[i] = m.1 := by
            have : (keys ps)[i]? = some m.1 := by unfold keys; rw [List.getElem?_map, hm]; rfl
            rw [List.getElem?_eq_getElem hil] at this
            exact Option.some.inj this
          rw [this]
          exact hS.add m.1
      · rintro H2 ⟨S, n, hD2, hS, s2⟩
        have hkl : (keys ps).length = ts.length := by unfold keys; rw [List.length_map]; omega
        rw [← hkl, List.take_length] at hS
        have e := hS.nd hnd
        refine ⟨D, S, n, rfl, hD2, by omega, _, rfl, q, _, rfl, .inr (hq.sq.same s2), ?_⟩
        refine ⟨rfl, ?_⟩
        rw [show decide (V.int (n : Int) = V.int (ts.length : Int)) = true from decide_eq_true (by rw [e, hkl])]
        exact k H2 s2
theorem scIsCall : FnScope NIc ["value"] (defScope sIsCall) := ⟨rfl, rfl, rfl, by decide +kernel, rfl, by decide +kernel, by decide +kernel⟩
theorem go_iscall (F : GT K mg "is_call" sIsCall ["value"]) (B : Bn mg) (GWh : GO P w K mg base CX0 1 "is_whole" ["value"] spWhole) (GPs : GO P w K mg base CX0 3 "is_pairs" ["value"] (spIsPairs K)) : GO P w K mg base CX0 4 "is_call" ["value"] (spIsCall K) := by
  obtain ⟨f, fd, F, hm, hb⟩ := F
  refine ⟨f, fd, ?_, hm, F.kp, hb⟩
  refine F.ok scIsCall (fun vs H Q E h => ?_) (fun cdv A outer s H vs Q E hr h => ?_)
  · obtain ⟨c, cl, rfl, _⟩ := h
    rfl
  · obtain ⟨c, cl, rfl, hc, ok, k⟩ := h
    have nd := scIsCall.nd
    have hrW : Room 1 _ := hr.mono (by decide)
    have hrPs : Room 3 _ := hr
    refine ⟨_, (pss_cons (ps_if (pt_not (pt_val (pe_callB call_isi (by rfl) B.isi (by decide +kernel) (pa_cons (pv 0) (pa_cons (pe_bltn (v := .ty "tuple") (by rfl) B.tuple (by decide +kernel) rfl) pa_nil)))))
  (pss_one (ps_ret pe_bl))
  pss_nil)
  (pss_cons (ps_match (pv 0)
  (pms_case (is := [1]) rfl nd (.cons rfl rfl .nil) (pss_one (ps_ret (pc_ GWh hrW (pa_cons (pv 1) pa_nil))))
  (pms_case (is := [1, 2]) rfl nd (.cons rfl rfl (.cons rfl rfl .nil)) (pss_one (ps_ret (pe_and (pc_ GWh hrW (pa_cons (pv 1) pa_nil)) (pe_one (pc_ GWh hrW (pa_cons (pv 2) pa_nil))))))
  (pms_case (is := [1]) rfl nd (.cons rfl rfl .nil) (pss_one (ps_ret (pc_ GWh hrW (pa_cons (pv 1) pa_nil))))
  (pms_case (is := [1, 3, 4]) rfl nd (.cons rfl rfl (.cons rfl rfl (.cons rfl rfl .nil))) (pss_one (ps_ret (pe_and (pc_ GWh hrW (pa_cons (pv 1) pa_nil)) (pe_and (pc_ GWh hrW (pa_cons (pv 3) pa_nil)) (pe_one (pc_ GWh hrW (pa_cons (pv 4) pa_nil)))))))
  (pms_case (is := [1, 5]) rfl nd (.cons rfl rfl (.cons rfl rfl .nil)) (pss_one (ps_ret (pe_and (pc_ GWh hrW (pa_cons (pv 1) pa_nil)) (pe_and (pc_ GWh hrW (pa_cons (pv 5) pa_nil)) (pe_one (pe_cmpR op_ne (pv 1) (pv 5) (nomark _)))))))
  (pms_case (is := [6]) rfl nd (.cons rfl rfl .nil) (pss_one (ps_ret (pc_ GPs hrPs (pa_cons (pv 6) pa_nil))))
  pms_nil)))))))
  (pss_one (ps_ret pe_bl)))), ?_⟩
    have hty : ∃ xs, SqT K H c xs := by
      cases cl with
      | puts ps => obtain ⟨q, ts, h1, _⟩ := hc; exact ⟨_, h1⟩
      | _ => exact ⟨_, hc⟩
    obtain ⟨xs0, hxs⟩ := hty
    refine ⟨_, rfl, _, _, _, _, true, rfl, .ty "tuple", tyT hxs, kit_ty (by decide +kernel), _, rfl, iteF ?_⟩
    have kk := k
    have k := k H (Same.refl H)
    cases cl with
    | look x =>
      exact ⟨_, rfl, c, _, rfl, hc, mhit rfl ⟨_, rfl, _, _, rfl, .flat rfl, k⟩⟩
    | put x v =>
      exact ⟨_, rfl, c, _, rfl, hc, mmiss (by decide) (mhit rfl ⟨_, rfl, _, _, rfl, .flat rfl, true, rfl, iteT ⟨_, rfl, _, _, rfl, .flat rfl, k⟩⟩)⟩
    | take x =>
      exact ⟨_, rfl, c, _, rfl, hc, mmiss (by decide) (mmiss (by decide) (mhit rfl ⟨_, rfl, _, _, rfl, .flat rfl, k⟩))⟩
    | change x o n =>
      exact ⟨_, rfl, c, _, rfl, hc, mmiss (by decide) (mmiss (by decide) (mmiss (by decide) (mhit rfl ⟨_, rfl, _, _, rfl, .flat rfl, true, rfl, iteT ⟨_, rfl, _, _, rfl, .flat rfl, true, rfl, iteT ⟨_, rfl, _, _, rfl, .flat rfl, k⟩⟩⟩)))⟩
    | move x j =>
      have hne : x ≠ j := ok
      refine ⟨_, rfl, c, _, rfl, hc, mmiss (by decide) (mmiss (by decide) (mmiss (by decide) (mmiss (by decide) (mhit rfl ⟨_, rfl, _, _, rfl, .flat rfl, true, rfl, iteT ⟨_, rfl, _, _, rfl, .flat rfl, true, rfl, iteT ⟨_, rfl, _, rfl, rfl, ?_⟩⟩⟩))))⟩
      rw [show decide (V.int x = V.int j) = false from decide_eq_false fun z => hne (V.int.inj z)]
      exact k
    | puts ps =>
      obtain ⟨q, ts, h1, h2, h3⟩ := hc
      refine ⟨_, rfl, c, _, rfl, h1, mmiss (by decide) (mmiss (by decide) (mmiss (by decide) (mmiss (by decide) (mmiss (by decide) (mhit rfl ?_)))))⟩
      exact ⟨_, rfl, q, ts, ps, rfl, h2, h3, ok.1, ok.2.1, ok.2.2, fun H' s => kk H' s⟩
theorem scKeys : FnScope ["call", "key", "value"] ["call"] (defScope sKeysOf) := ⟨rfl, rfl, rfl, by decide +kernel, rfl, by decide +kernel, by decide +kernel⟩
theorem go_keys (F : GT K mg "keys_of" sKeysOf ["call"]) (B : Bn mg) : GO P w K mg base CX0 1 "keys_of" ["call"] (spKeys K) := by
  obtain ⟨f, fd, F, hm, hb⟩ := F
  refine ⟨f, fd, ?_, hm, F.kp, hb⟩
  refine F.ok scKeys (fun vs H Q E h => ?_) (fun cdv A outer s H vs Q E hr h => ?_)
  · obtain ⟨c, cl, rfl, _⟩ := h
    rfl
  · obtain ⟨c, cl, rfl, hc, ok, k⟩ := h
    have nd := scKeys.nd
    have hsl : sizeLine = 16777216 := sizeLine_eq
    refine ⟨_, (pss_cons (ps_if (pt_cmpR op_eq (pe_ix ix_tup (pv 0) pe_int (fun _ _ => rfl)) pe_str (nomark _))
  (pss_one (ps_ret (pe_lc (own := [("key", 1), ("value", 2)]) (g := (gTup K 2 (gCons (gName 1) (gCons (gName 2) gNil)))) (tt := tYes) rfl nd (pi_tup (pe_ix ix_tup (pv 0) pe_int (fun _ _ => rfl))) (blkOk_by (N := ["call", "key", "value"]) (sc := defScope sKeysOf) (by decide +kernel)) (fun _ _ _ _ _ => (pg_tup (by rfl) (pgs_cons (pg_name (i := 1) nd rfl (Or.inl rfl)) (pgs_cons (pg_name (i := 2) nd rfl (Or.inl rfl)) pgs_nil)))) (fun _ _ _ _ _ => pts_nil) (fun _ _ _ _ _ => (pv 1)))))
  pss_nil)
  (pss_cons (ps_if (pt_cmpR op_eq (pe_ix ix_tup (pv 0) pe_int (fun _ _ => rfl)) pe_str (nomark _))
  (pss_one (ps_ret (pe_lst (pa_cons (pe_ix ix_tup (pv 0) pe_int (fun _ _ => rfl)) (pa_cons (pe_ix ix_tup (pv 0) pe_int (fun _ _ => rfl)) pa_nil)))))
  pss_nil)
  (pss_one (ps_ret (pe_lst (pa_cons (pe_ix ix_tup (pv 0) pe_int (fun _ _ => rfl)) pa_nil)))))), ?_⟩
    cases cl with
    | look x => exact ⟨_, rfl, c, _, 0, _, rfl, rfl, hc, at0, rfl, _, rfl, iteND (by decide) ⟨_, rfl, c, _, 0, _, rfl, rfl, hc, at0, rfl, _, rfl, iteND (by decide) ⟨_, rfl, c, _, 1, _, rfl, rfl, hc, at1, (by show 1 ≤ sizeLine; omega), fun p hp => k _ p (up1 hp) hp upd_same⟩⟩⟩
    | put x v => exact ⟨_, rfl, c, _, 0, _, rfl, rfl, hc, at0, rfl, _, rfl, iteND (by decide) ⟨_, rfl, c, _, 0, _, rfl, rfl, hc, at0, rfl, _, rfl, iteND (by decide) ⟨_, rfl, c, _, 1, _, rfl, rfl, hc, at1, (by show 1 ≤ sizeLine; omega), fun p hp => k _ p (up1 hp) hp upd_same⟩⟩⟩
    | take x => exact ⟨_, rfl, c, _, 0, _, rfl, rfl, hc, at0, rfl, _, rfl, iteND (by decide) ⟨_, rfl, c, _, 0, _, rfl, rfl, hc, at0, rfl, _, rfl, iteND (by decide) ⟨_, rfl, c, _, 1, _, rfl, rfl, hc, at1, (by show 1 ≤ sizeLine; omega), fun p hp => k _ p (up1 hp) hp upd_same⟩⟩⟩
    | change x o n => exact ⟨_, rfl, c, _, 0, _, rfl, rfl, hc, at0, rfl, _, rfl, iteND (by decide) ⟨_, rfl, c, _, 0, _, rfl, rfl, hc, at0, rfl, _, rfl, iteND (by decide) ⟨_, rfl, c, _, 1, _, rfl, rfl, hc, at1, (by show 1 ≤ sizeLine; omega), fun p hp => k _ p (up1 hp) hp upd_same⟩⟩⟩
    | move x j => exact ⟨_, rfl, c, _, 0, _, rfl, rfl, hc, at0, rfl, _, rfl, iteND (by decide) ⟨_, rfl, c, _, 0, _, rfl, rfl, hc, at0, rfl, _, rfl, iteD rfl ⟨_, rfl, c, _, 1, _, rfl, rfl, hc, at1, _, rfl, c, _, 2, _, rfl, rfl, hc, at2, (by show 2 ≤ sizeLine; omega), fun p hp => k _ p (up1 hp) hp upd_same⟩⟩⟩
    | puts ps =>
      obtain ⟨q, ts, h1, h2, h3⟩ := hc
      have hln := plen h3
      refine ⟨_, rfl, c, _, 0, _, rfl, rfl, h1, at0, rfl, _, rfl, iteD rfl ⟨_, rfl, c, _, 1, _, rfl, rfl, h1, at1, q, rfl, ⟨_, h2.sq⟩, fun D hD => lc_tup (K := K) (a := q) (xs := ts) (fun i H' => H' D = some (.lst (((keys ps).take i).map V.int)) ∧ Same H H') ⟨upd_same, up1 hD⟩ (fun i H' _ z => h2.sq.same z.2) ?_ ?_⟩⟩
      · rintro i v H' hi ⟨hD', s1⟩
        obtain ⟨n, hn, t, rfl, ht⟩ := pget h3 hi
        have hil : i < (keys ps).length := by unfold keys; rw [List.length_map]; exact (List.getElem?_eq_some_iff.mp hn).1
        have hl3 := (keys_len ok).2
        have hl3' : (keys ps).length ≤ 3 := hl3
        refine ⟨t, _, rfl, ht.same s1, rfl, _, _, rfl, _, _, rfl, rfl, rfl, _, rfl, _, hD', (by rw [List.length_map, List.length_take]; omega), ?_, fun b o e => by rw [upd_ne (ne_of_none e hD)]; exact s1 b o e⟩
        rw [upd_same, List.take_succ_eq_append_getElem hil, List.map_append]
        have : (keys ps)[i] = n.1 := by
          have : (keys ps)[i]? = some n.1 := by unfold keys; rw [List.getElem?_map, hn]; rfl
          rw [List.getElem?_eq_getElem hil] at this
          exact Option.some.inj this
        rw [this]
        rfl
      · rintro H' ⟨hD', s1⟩
        have hkl : (keys ps).length = ts.length := by unfold keys; rw [List.length_map]; omega
        rw [← hkl, List.take_length] at hD'
        exact k H' D s1 hD hD'
theorem scBkts : FnScope ["call", "key"] ["call"] (defScope sBkts) := ⟨rfl, rfl, rfl, by decide +kernel, rfl, by decide +kernel, by decide +kernel⟩
theorem go_bkts (F : GT K mg "buckets_of" sBkts ["call"]) (B : Bn mg) (GBk : GO P w K mg base CX0 1 "bucket_of" ["key"] spBucket) (GKo : GO P w K mg base CX0 1 "keys_of" ["call"] (spKeys K)) : GO P w K mg base CX0 2 "buckets_of" ["call"] (spBkts K) := by
  obtain ⟨f, fd, F, hm, hb⟩ := F
  refine ⟨f, fd, ?_, hm, F.kp, hb⟩
  refine F.ok scBkts (fun vs H Q E h => ?_) (fun cdv A outer s H vs Q E hr h => ?_)
  · obtain ⟨c, cl, rfl, _⟩ := h
    rfl
  · obtain ⟨c, cl, rfl, hc, ok, k⟩ := h
    have nd := scBkts.nd
    have hrB : Room 1 _ := hr
    have hrKo : Room 1 _ := hr
    refine ⟨_, (pss_one (ps_ret (pe_callB (cr_sortedSet rfl) (by rfl) B.sorted (by decide +kernel) (pa_cons (Sr.pe_scI (own := [("key", 1)]) (g := (gName 1)) (tt := tYes) rfl nd (pi_list (pc_ GKo hrKo (pa_cons (pv 0) pa_nil))) (blkOk_by (N := ["call", "key"]) (sc := defScope sBkts) (by decide +kernel)) (fun _ _ _ _ _ => (pg_name (i := 1) nd rfl (Or.inl rfl))) (fun _ _ _ _ _ => pts_nil) (fun _ _ _ _ _ => (pc_ GBk hrB (pa_cons (pv 1) pa_nil)))) pa_nil)))), ?_⟩
    refine ⟨_, rfl, c, cl, rfl, hc, ok, fun H1 l s1 hl hl1 => ?_⟩
    refine ⟨l, rfl, ⟨_, SqL.of hl1⟩, fun D hD => Sr.sc_it (walk_list (K := K) (a := l) (xs := (keysOf cl).map V.int)) (fun i H2 => ∃ S n, H2 D = some (SetO w D S n) ∧ SetOf S n (((keysOf cl).take i).map (· % 4)) ∧ Same H1 H2) ⟨_, _, upd_same, setOf_nil, up1 hD⟩ (fun i H2 _ z => by obtain ⟨_, _, _, _, s⟩ := z; exact SqL.of (s _ _ hl1)) ?_ ?_⟩
    · rintro i v H2 H3 hi ⟨S, n, hD2, hS, s2⟩ ⟨rfl, hv⟩
      have hil : i < (keysOf cl).length := by rw [List.length_map] at hi; exact hi
      rw [List.getElem?_map, List.getElem?_eq_getElem hil] at hv
      cases hv
      have h3 := (keys_len ok).2
      refine ⟨rfl, _, rfl, _, rfl, _, S, n, rfl, hD2, ?_, _, _, upd_same, ?_, fun b o e => by rw [upd_ne (ne_of_none e hD)]; exact s2 b o e⟩
      · have := hS.l
        rw [List.length_map, List.length_take] at this
        unfold scanBound
        omega
      · rw [List.take_succ_eq_append_getElem hil, List.map_append]
        exact hS.add _
    · rintro H2 ⟨S, n, hD2, hS, s2⟩
      rw [List.length_map, List.take_length] at hS
      have h3 := (keys_len ok).2
      have := hS.l
      rw [List.length_map] at this
      refine ⟨D, S, n, rfl, hD2, by omega, fun ns p hpw hm hln hp => ?_⟩
      exact k _ p ns ((s1.trans s2).trans (up1 hp)) (s1.trans s2 |>.free hp) upd_same ⟨hpw, fun b => (hm b).trans (hS.m b)⟩
end
end Dk

set_option maxHeartbeats 8000000
/-! the plan's parts -/
namespace Dk
open PySem PySem.Spec PyProof.Rows L2 StX
abbrev sAnsBy : Stmt := top 15
abbrev sReason : Stmt := top 16
abbrev sMoveR : Stmt := top 17
abbrev sNewIt : Stmt := top 18
abbrev sWithIts : Stmt := top 19
abbrev Os := List (Option Int)
def ansBy : Cl → Os → Ans
  | .change _ o _, os => .bl (decide (os.getD 0 none = some o))
  | .move _ _, os => .bl ((os.getD 0 none).isSome && (os.getD 1 none).isNone)
  | .puts _, os => .tup os
  | _, os => .val (os.getD 0 none)
def mvR (k j : Int) (os : Os) : Option Int := match os.getD 0 none, os.getD 1 none with
  | none, _ => some k
  | some _, some _ => some j
  | some _, none => none
/-- all keys in one bucket -/
def oneB (cl : Cl) : Bool := (keysOf cl).all fun k => decide (k % 4 = (keysOf cl).getD 0 0 % 4)
def reasonOf : Cl → Os → Option Int
  | .look k, _ => some k
  | .put k v, os => if os.getD 0 none = some v then some k else none
  | .take k, os => if os.getD 0 none = none then some k else none
  | .change k o n, os => if os.getD 0 none ≠ some o ∨ n = o then some k else none
  | .move k j, os => mvR k j os
  | .puts ps, os => if os = ps.map (fun p => some p.2) ∧ oneB (.puts ps) = true then (keys ps).head? else none
abbrev It := Int × Option Int
def itemsOf : Cl → Os → List It
  | .look k, _ => [(k, some k)]
  | .put k v, _ => [(k, some v)]
  | .take k, _ => [(k, none)]
  | .change k _ n, _ => [(k, some n)]
  | .move k j, os => [(k, none), (j, os.getD 0 none)]
  | .puts ps, _ => ps.map fun p => (p.1, some p.2)
def ItemI (K : PySem.W.Frag) (H : Hp) (v : V) (n : It) : Prop := ∃ t, v = .ref t ∧ SqT K H t [.int n.1, oV n.2]
theorem ItemI.same {K : PySem.W.Frag} {H H' : Hp} {v : V} {n : It} (h : ItemI K H v n) (s : Same H H') : ItemI K H' v n := let ⟨t, e, h⟩ := h; ⟨t, e, h.same s⟩
def stp (ns : Tb) (k : Int) : Option Int → Tb
  | none => wo ns k
  | some v => wo ns k ++ [(k, v)]
def wi : Tb → Int → List It → Tb
  | ns, _, [] => ns
  | ns, b, n :: is => if n.1 % 4 = b then wi (stp ns n.1 n.2) b is else wi ns b is
theorem wi_cons {ns : Tb} {b : Int} {n : It} {is : List It} : wi ns b (n :: is) = if n.1 % 4 = b then wi (stp ns n.1 n.2) b is else wi ns b is := rfl
theorem stp_perm {k : Int} {o : Option Int} {a c : Tb} (p : a.Perm c) : (stp a k o).Perm (stp c k o) := by
  have pw : (wo a k).Perm (wo c k) := p.filter _
  cases o with
  | none => exact pw
  | some v => exact pw.append_right _
theorem wi_perm {b : Int} : ∀ {is : List It} {a c : Tb}, a.Perm c → (wi a b is).Perm (wi c b is)
  | [], _, _, p => p
  | n :: is, a, c, p => by
    rw [wi_cons, wi_cons]
    split
    · exact wi_perm (stp_perm p)
    · exact wi_perm p
theorem wi_snoc {b : Int} {n : It} : ∀ {is : List It} {ns : Tb}, wi ns b (is ++ [n]) = if n.1 % 4 = b then stp (wi ns b is) n.1 n.2 else wi ns b is
  | [], ns => rfl
  | m :: is, ns => by
    rw [List.cons_append, wi_cons, wi_cons]
    by_cases c : m.1 % 4 = b
    · rw [if_pos c, if_pos c]
      exact wi_snoc
    · rw [if_neg c, if_neg c]
      exact wi_snoc
abbrev Srtd (ns : Tb) : Prop := ns.Pairwise (fun a b => SrtO.lexB b a = false)
def OsAt (H : Hp) (l : Addr) (os : Os) : Prop := H l = some (.lst (os.map oV))
def spAnsBy (K : PySem.W.Frag) : Sp := fun vs H Q _ => ∃ (c l : Addr) (cl : Cl) (os : Os), vs = [.ref c, .ref l] ∧ CallAt K H c cl ∧ OsAt H l os ∧ os.length = (keysOf cl).length ∧ cl.ok ∧ ∀ H' v, Same H H' → AnsAt K H' v (ansBy cl os) → Q v H'
def spMoveR (K : PySem.W.Frag) : Sp := fun vs H Q _ => ∃ (c l : Addr) (k j : Int) (os : Os), vs = [.ref c, .ref l] ∧ CallAt K H c (.move k j) ∧ OsAt H l os ∧ os.length = 2 ∧ Q (oV (mvR k j os)) H
def spReason (K : PySem.W.Frag) : Sp := fun vs H Q _ => ∃ (c l : Addr) (cl : Cl) (os : Os), vs = [.ref c, .ref l] ∧ CallAt K H c cl ∧ OsAt H l os ∧ os.length = (keysOf cl).length ∧ cl.ok ∧ ∀ H', Same H H' → Q (oV (reasonOf cl os)) H'
def spNewIt (K : PySem.W.Frag) : Sp := fun vs H Q _ => ∃ (c l : Addr) (cl : Cl) (os : Os), vs = [.ref c, .ref l] ∧ CallAt K H c cl ∧ OsAt H l os ∧ os.length = (keysOf cl).length ∧ cl.ok ∧
  ∀ H' p its, Same H H' → H' p = some (.lst its) → Paired (ItemI K H') its (itemsOf cl os) → Q (.ref p) H'
def spWithIts (K : PySem.W.Frag) : Sp := fun vs H Q _ => ∃ (r l : Addr) (b : Int) (its : List V) (is : List It) (ns : Tb), vs = [.ref r, .int b, .ref l] ∧ Rec K H r (ns.map vp) ∧ ns.length < 500 ∧ Srtd ns ∧ H l = some (.lst its) ∧ Paired (ItemI K H) its is ∧ is.length < 100 ∧
  ∀ H' r' ms, Same H H' → Rec K H' r' (ms.map vp) → ms.Perm (wi ns b is) → Srtd ms → Q (.ref r') H'
theorem os1 {os : Os} (h : os.length = 1) : ∃ o, os = [o] := by
  match os, h with
  | [o], _ => exact ⟨o, rfl⟩
theorem os2 {os : Os} (h : os.length = 2) : ∃ o u, os = [o, u] := by
  match os, h with
  | [o, u], _ => exact ⟨o, u, rfl⟩
section
variable {P : Program} {w : World} {K : PySem.W.Frag} {mg : Str → Option Value} {base : Heap}
theorem scAnsBy : FnScope ["call", "values"] ["call", "values"] (defScope sAnsBy) := ⟨rfl, rfl, rfl, by decide +kernel, rfl, by decide +kernel, by decide +kernel⟩
theorem go_ansby (F : GT K mg "answer_by" sAnsBy ["call", "values"]) (B : Bn mg) : GO P w K mg base CX0 1 "answer_by" ["call", "values"] (spAnsBy K) := by
  obtain ⟨f, fd, F, hm, hb⟩ := F
  refine ⟨f, fd, ?_, hm, F.kp, hb⟩
  refine F.ok scAnsBy (fun vs H Q E h => ?_) (fun cdv A outer s H vs Q E hr h => ?_)
  · obtain ⟨c, l, cl, os, rfl, _⟩ := h
    rfl
  · obtain ⟨c, l, cl, os, rfl, hc, hl, hln, ok, k⟩ := h
    have nd := scAnsBy.nd
    refine ⟨_, (pss_cons (ps_if (pt_cmpR op_eq (pe_ix ix_tup (pv 0) pe_int (fun _ _ => rfl)) pe_str (nomark _))
  (pss_one (ps_ret (pe_cmpR op_eq (pe_ix ix_list (pv 1) pe_int (fun _ _ => rfl)) (pe_ix ix_tup (pv 0) pe_int (fun _ _ => rfl)) (nomark _))))
  pss_nil)
  (pss_cons (ps_if (pt_cmpR op_eq (pe_ix ix_tup (pv 0) pe_int (fun _ _ => rfl)) pe_str (nomark _))
  (pss_one (ps_ret (pe_and (pe_cmpR op_notN (pe_ix ix_list (pv 1) pe_int (fun _ _ => rfl)) pe_non (nomark _)) (pe_one (pe_cmpR op_isN (pe_ix ix_list (pv 1) pe_int (fun _ _ => rfl)) pe_non (nomark _))))))
  pss_nil)
  (pss_cons (ps_if (pt_cmpR op_eq (pe_ix ix_tup (pv 0) pe_int (fun _ _ => rfl)) pe_str (nomark _))
  (pss_one (ps_ret (pe_callTy call_tuple_of (by rfl) B.tuple (by decide +kernel) (pa_cons (pv 1) pa_nil))))
  pss_nil)
  (pss_one (ps_ret (pe_ix ix_list (pv 1) pe_int (fun _ _ => rfl))))))), ?_⟩
    cases cl with
    | look x =>
      obtain ⟨o, rfl⟩ := os1 hln
      exact ⟨_, rfl, c, _, 0, _, rfl, rfl, hc, at0, rfl, _, rfl, iteND (by decide) ⟨_, rfl, c, _, 0, _, rfl, rfl, hc, at0, rfl, _, rfl, iteND (by decide) ⟨_, rfl, c, _, 0, _, rfl, rfl, hc, at0, rfl, _, rfl, iteND (by decide) ⟨_, rfl, l, _, 0, _, rfl, rfl, SqL.of hl, at0, k _ _ (Same.refl H) rfl⟩⟩⟩⟩
    | put x v =>
      obtain ⟨o, rfl⟩ := os1 hln
      exact ⟨_, rfl, c, _, 0, _, rfl, rfl, hc, at0, rfl, _, rfl, iteND (by decide) ⟨_, rfl, c, _, 0, _, rfl, rfl, hc, at0, rfl, _, rfl, iteND (by decide) ⟨_, rfl, c, _, 0, _, rfl, rfl, hc, at0, rfl, _, rfl, iteND (by decide) ⟨_, rfl, l, _, 0, _, rfl, rfl, SqL.of hl, at0, k _ _ (Same.refl H) rfl⟩⟩⟩⟩
    | take x =>
      obtain ⟨o, rfl⟩ := os1 hln
      exact ⟨_, rfl, c, _, 0, _, rfl, rfl, hc, at0, rfl, _, rfl, iteND (by decide) ⟨_, rfl, c, _, 0, _, rfl, rfl, hc, at0, rfl, _, rfl, iteND (by decide) ⟨_, rfl, c, _, 0, _, rfl, rfl, hc, at0, rfl, _, rfl, iteND (by decide) ⟨_, rfl, l, _, 0, _, rfl, rfl, SqL.of hl, at0, k _ _ (Same.refl H) rfl⟩⟩⟩⟩
    | change x o n =>
      obtain ⟨o1, rfl⟩ := os1 hln
      refine ⟨_, rfl, c, _, 0, _, rfl, rfl, hc, at0, rfl, _, rfl, iteD rfl ⟨_, rfl, l, _, 0, _, rfl, rfl, SqL.of hl, at0, _, rfl, c, _, 2, _, rfl, rfl, hc, at2, by cases o1 <;> rfl, ?_⟩⟩
      have e := k H (.bl (decide (o1 = some o))) (Same.refl H) rfl
      cases o1 with
      | none => rw [show decide ((none : Option Int) = some o) = false from rfl] at e; exact e
      | some v => rw [show decide (oV (some v) = V.int o) = decide (some v = some o) by by_cases z : v = o <;> simp [oV, z]]; exact e
    | move x j =>
      obtain ⟨o, u, rfl⟩ := os2 hln
      refine ⟨_, rfl, c, _, 0, _, rfl, rfl, hc, at0, rfl, _, rfl, iteND (by decide) ⟨_, rfl, c, _, 0, _, rfl, rfl, hc, at0, rfl, _, rfl, iteD rfl ⟨_, rfl, l, _, 0, _, rfl, rfl, SqL.of hl, at0, rfl, _, rfl, ?_⟩⟩⟩
      have e := k H (.bl (o.isSome && u.isNone)) (Same.refl H) rfl
      cases o with
      | none => exact iteF e
      | some v =>
        refine iteT ⟨_, rfl, l, _, 1, _, rfl, rfl, SqL.of hl, at1, rfl, ?_⟩
        cases u <;> exact e
    | puts ps =>
      obtain ⟨q, ts, h1, h2, h3⟩ := hc
      refine ⟨_, rfl, c, _, 0, _, rfl, rfl, h1, at0, rfl, _, rfl, iteND (by decide) ⟨_, rfl, c, _, 0, _, rfl, rfl, h1, at0, rfl, _, rfl, iteND (by decide) ⟨_, rfl, c, _, 0, _, rfl, rfl, h1, at0, rfl, _, rfl, iteD rfl ⟨_, rfl, l, _, rfl, .inl ⟨SqL.of hl, fun p hp => ?_⟩⟩⟩⟩⟩
      exact k _ _ (up1 hp) ⟨p, rfl, SqT.of upd_same⟩
theorem scMoveR : FnScope ["call", "values"] ["call", "values"] (defScope sMoveR) := ⟨rfl, rfl, rfl, by decide +kernel, rfl, by decide +kernel, by decide +kernel⟩
theorem go_mover (F : GT K mg "move_reason" sMoveR ["call", "values"]) : GO P w K mg base CX0 1 "move_reason" ["call", "values"] (spMoveR K) := by
  obtain ⟨f, fd, F, hm, hb⟩ := F
  refine ⟨f, fd, ?_, hm, F.kp, hb⟩
  refine F.ok scMoveR (fun vs H Q E h => ?_) (fun cdv A outer s H vs Q E hr h => ?_)
  · obtain ⟨c, l, x, j, os, rfl, _⟩ := h
    rfl
  · obtain ⟨c, l, x, j, os, rfl, hc, hl, hln, k⟩ := h
    have nd := scMoveR.nd
    obtain ⟨o, u, rfl⟩ := os2 hln
    refine ⟨_, (pss_cons (ps_if (pt_cmpR op_isN (pe_ix ix_list (pv 1) pe_int (fun _ _ => rfl)) pe_non (nomark _))
  (pss_one (ps_ret (pe_ix ix_tup (pv 0) pe_int (fun _ _ => rfl))))
  pss_nil)
  (pss_one (ps_ret (pe_ifExp (pt_cmpR op_notN (pe_ix ix_list (pv 1) pe_int (fun _ _ => rfl)) pe_non (nomark _)) (pe_ix ix_tup (pv 0) pe_int (fun _ _ => rfl)) pe_non)))), ?_⟩
    refine ⟨_, rfl, l, _, 0, _, rfl, rfl, SqL.of hl, at0, rfl, _, rfl, ?_⟩
    cases o with
    | none => exact iteT ⟨_, rfl, c, _, 1, _, rfl, rfl, hc, at1, k⟩
    | some v =>
      refine iteF ⟨_, rfl, l, _, 1, _, rfl, rfl, SqL.of hl, at1, rfl, _, rfl, ?_⟩
      cases u with
      | none => exact iteF k
      | some x => exact iteT ⟨_, rfl, c, _, 2, _, rfl, rfl, hc, at2, k⟩
theorem scNewIt : FnScope ["call", "values"] ["call", "values"] (defScope sNewIt) := ⟨rfl, rfl, rfl, by decide +kernel, rfl, by decide +kernel, by decide +kernel⟩
theorem go_newit (F : GT K mg "new_items" sNewIt ["call", "values"]) (B : Bn mg) : GO P w K mg base CX0 1 "new_items" ["call", "values"] (spNewIt K) := by
  obtain ⟨f, fd, F, hm, hb⟩ := F
  refine ⟨f, fd, ?_, hm, F.kp, hb⟩
  refine F.ok scNewIt (fun vs H Q E h => ?_) (fun cdv A outer s H vs Q E hr h => ?_)
  · obtain ⟨c, l, cl, os, rfl, _⟩ := h
    rfl
  · obtain ⟨c, l, cl, os, rfl, hc, hl, hln, ok, k⟩ := h
    have nd := scNewIt.nd
    have hsl : sizeLine = 16777216 := sizeLine_eq
    refine ⟨_, (pss_cons (ps_if (pt_cmpR op_eq (pe_ix ix_tup (pv 0) pe_int (fun _ _ => rfl)) pe_str (nomark _))
  (pss_one (ps_ret (pe_callTy call_list_of (by rfl) B.list (by decide +kernel) (pa_cons (pe_ix ix_tup (pv 0) pe_int (fun _ _ => rfl)) pa_nil))))
  pss_nil)
  (pss_cons (ps_if (pt_cmpR op_eq (pe_ix ix_tup (pv 0) pe_int (fun _ _ => rfl)) pe_str (nomark _))
  (pss_one (ps_ret (pe_lst (pa_cons (pe_tup (pa_cons (pe_ix ix_tup (pv 0) pe_int (fun _ _ => rfl)) (pa_cons pe_non pa_nil))) (pa_cons (pe_tup (pa_cons (pe_ix ix_tup (pv 0) pe_int (fun _ _ => rfl)) (pa_cons (pe_ix ix_list (pv 1) pe_int (fun _ _ => rfl)) pa_nil))) pa_nil)))))
  pss_nil)
  (pss_cons (ps_if (pt_cmpR op_eq (pe_ix ix_tup (pv 0) pe_int (fun _ _ => rfl)) pe_str (nomark _))
  (pss_one (ps_ret (pe_lst (pa_cons (pe_tup (pa_cons (pe_ix ix_tup (pv 0) pe_int (fun _ _ => rfl)) (pa_cons pe_non pa_nil))) pa_nil))))
  pss_nil)
  (pss_one (ps_ret (pe_lst (pa_cons (pe_tup (pa_cons (pe_ix ix_tup (pv 0) pe_int (fun _ _ => rfl)) (pa_cons (pe_ix ix_tup (pv 0) (pe_un un_neg pe_int) (fun _ _ => rfl)) pa_nil))) pa_nil))))))), ?_⟩
    have fin1 : ∀ (x : Int) (o : Option Int), itemsOf cl os = [(x, o)] → ∀ t, H t = none → ∀ p, upd H t (HO.tup [.int x, oV o]) p = none → Q (.ref p) (upd (upd H t (HO.tup [.int x, oV o])) p (.lst [.ref t])) := fun x o e t ht p hp => by
      refine k _ p [.ref t] ((up1 ht).trans (up1 hp)) upd_same ?_
      rw [e]
      exact .cons ⟨t, rfl, SqT.of (up1 hp _ _ upd_same)⟩ .nil
    cases cl with
    | look x =>
      exact ⟨_, rfl, c, _, 0, _, rfl, rfl, hc, at0, rfl, _, rfl, iteND (by decide) ⟨_, rfl, c, _, 0, _, rfl, rfl, hc, at0, rfl, _, rfl, iteND (by decide) ⟨_, rfl, c, _, 0, _, rfl, rfl, hc, at0, rfl, _, rfl, iteND (by decide) ⟨_, rfl, c, _, 1, _, rfl, rfl, hc, at1, _, rfl, _, rfl, c, _, -1, _, rfl, rfl, hc, rfl, (by show 2 ≤ sizeLine; omega), fun t ht => ⟨(by show 1 ≤ sizeLine; omega), fun p hp => fin1 x (some x) rfl t ht p hp⟩⟩⟩⟩⟩
    | put x v =>
      exact ⟨_, rfl, c, _, 0, _, rfl, rfl, hc, at0, rfl, _, rfl, iteND (by decide) ⟨_, rfl, c, _, 0, _, rfl, rfl, hc, at0, rfl, _, rfl, iteND (by decide) ⟨_, rfl, c, _, 0, _, rfl, rfl, hc, at0, rfl, _, rfl, iteND (by decide) ⟨_, rfl, c, _, 1, _, rfl, rfl, hc, at1, _, rfl, _, rfl, c, _, -1, _, rfl, rfl, hc, rfl, (by show 2 ≤ sizeLine; omega), fun t ht => ⟨(by show 1 ≤ sizeLine; omega), fun p hp => fin1 x (some v) rfl t ht p hp⟩⟩⟩⟩⟩
    | take x =>
      exact ⟨_, rfl, c, _, 0, _, rfl, rfl, hc, at0, rfl, _, rfl, iteND (by decide) ⟨_, rfl, c, _, 0, _, rfl, rfl, hc, at0, rfl, _, rfl, iteND (by decide) ⟨_, rfl, c, _, 0, _, rfl, rfl, hc, at0, rfl, _, rfl, iteD rfl ⟨_, rfl, c, _, 1, _, rfl, rfl, hc, at1, (by show 2 ≤ sizeLine; omega), fun t ht => ⟨(by show 1 ≤ sizeLine; omega), fun p hp => fin1 x none rfl t ht p hp⟩⟩⟩⟩⟩
    | change x o n =>
      exact ⟨_, rfl, c, _, 0, _, rfl, rfl, hc, at0, rfl, _, rfl, iteND (by decide) ⟨_, rfl, c, _, 0, _, rfl, rfl, hc, at0, rfl, _, rfl, iteND (by decide) ⟨_, rfl, c, _, 0, _, rfl, rfl, hc, at0, rfl, _, rfl, iteND (by decide) ⟨_, rfl, c, _, 1, _, rfl, rfl, hc, at1, _, rfl, _, rfl, c, _, -1, _, rfl, rfl, hc, rfl, (by show 2 ≤ sizeLine; omega), fun t ht => ⟨(by show 1 ≤ sizeLine; omega), fun p hp => fin1 x (some n) rfl t ht p hp⟩⟩⟩⟩⟩
    | move x j =>
      obtain ⟨o, u, rfl⟩ := os2 hln
      refine ⟨_, rfl, c, _, 0, _, rfl, rfl, hc, at0, rfl, _, rfl, iteND (by decide) ⟨_, rfl, c, _, 0, _, rfl, rfl, hc, at0, rfl, _, rfl, iteD rfl ⟨_, rfl, c, _, 1, _, rfl, rfl, hc, at1, (by show 2 ≤ sizeLine; omega), fun t ht => ?_⟩⟩⟩
      have s1 := up1 (o := HO.tup [.int x, .non]) ht
      have e1 : upd H t (HO.tup [.int x, .non]) t = _ := upd_same
      generalize upd H t (HO.tup [.int x, .non]) = H1 at s1 e1 ⊢
      refine ⟨_, rfl, c, _, 2, _, rfl, rfl, hc.same s1, at2, _, rfl, l, _, 0, _, rfl, rfl, SqL.of (s1 _ _ hl), at0, (by show 2 ≤ sizeLine; omega), fun t2 ht2 => ⟨(by show 2 ≤ sizeLine; omega), fun p hp => ?_⟩⟩
      refine k _ p _ ((s1.trans (up1 ht2)).trans (up1 hp)) upd_same (.cons ⟨t, rfl, SqT.of (up1 hp _ _ (up1 ht2 _ _ e1))⟩ (.cons ⟨t2, rfl, SqT.of (up1 hp _ _ upd_same)⟩ .nil))
    | puts ps =>
      obtain ⟨q, ts, h1, h2, h3⟩ := hc
      refine ⟨_, rfl, c, _, 0, _, rfl, rfl, h1, at0, rfl, _, rfl, iteD rfl ⟨_, rfl, c, _, 1, _, rfl, rfl, h1, at1, q, _, rfl, .inr h2.sq, fun p hp => ?_⟩⟩
      refine k _ p ts (up1 hp) upd_same ?_
      have : ∀ {ts : List V} {ps : Tb}, Paired (PairI K H) ts ps → Paired (ItemI K (upd H p (.lst ts))) ts (ps.map fun p => (p.1, some p.2)) → True := fun _ _ => trivial
      have go : ∀ (o : HO) {ts : List V} {ps : Tb}, Paired (PairI K H) ts ps → Paired (ItemI K (upd H p o)) ts (ps.map fun p => (p.1, some p.2)) := fun o => by
        intro ts ps h
        induction h with
        | nil => exact .nil
        | cons r t ih =>
          obtain ⟨t, e, ht⟩ := r
          exact .cons ⟨t, e, ht.same (up1 hp)⟩ ih
      exact go _ h3
end
end Dk

set_option maxHeartbeats 8000000
/-! the plan -/
namespace Dk
open PySem PySem.Spec PyProof.Rows L2 StX
abbrev sPlan : Stmt := top 14
abbrev NRk : List Str := ["call", "values", "key", "same", "other", "value"]
abbrev NWs : List Str := ["record", "bucket", "items", "key", "value"]
abbrev NPl : List Str := ["call", "records", "values", "answer", "reason", "items", "rows", "key", "bucket"]
def oD : Option Int → PyData
  | some v => .int v
  | none => .none
theorem oD_all {K : PySem.W.Frag} {H : Hp} : ∀ os : List (Option Int), DpAll K H (os.map oV) (os.map oD)
  | [] => .nil
  | some i :: os => .cons (.int i) (oD_all os)
  | none :: os => .cons .non (oD_all os)
theorem iD_all {K : PySem.W.Frag} {H : Hp} : ∀ vs : List Int, DpAll K H (vs.map V.int) (vs.map PyData.int)
  | [] => .nil
  | i :: vs => .cons (.int i) (iD_all vs)
theorem oD_lay : ∀ os : List (Option Int), PyData.canLayAll0 (os.map oD) = true
  | [] => by simp [PyData.canLayAll0]
  | some i :: os => by simp [PyData.canLayAll0, PyData.canLay0, oD_lay os, oD]
  | none :: os => by simp [PyData.canLayAll0, PyData.canLay0, oD_lay os, oD]
theorem oD_depth : ∀ os : List (Option Int), PyData.depthAll (os.map oD) ≤ 1
  | [] => by simp [PyData.depthAll]
  | some i :: os => by
    have := oD_depth os
    simp only [List.map_cons, PyData.depthAll, PyData.depth, oD]
    omega
  | none :: os => by
    have := oD_depth os
    simp only [List.map_cons, PyData.depthAll, PyData.depth, oD]
    omega
theorem oDl_shaped (os : List (Option Int)) : SeqAt.shaped (.list (os.map oD)) = true := by
  have h := oD_depth os
  show (PyData.canLay0 (.list _) && decide (PyData.depth (.list _) ≤ 64)) = true
  rw [Bool.and_eq_true]
  refine ⟨by simp only [PyData.canLay0]; exact oD_lay os, decide_eq_true ?_⟩
  simp only [PyData.depth]
  omega
theorem iD_oD (vs : List Int) : vs.map PyData.int = (vs.map some).map oD := by rw [List.map_map]; rfl
theorem eqv_os : ∀ (os : List (Option Int)) (vs : List Int), PyData.eqvAll (os.map oD) (vs.map PyData.int) = decide (os = vs.map some)
  | [], [] => by simp [PyData.eqvAll]
  | [], v :: vs => by simp [PyData.eqvAll]
  | o :: os, [] => by simp [PyData.eqvAll]
  | none :: os, v :: vs => by simp [PyData.eqvAll, PyData.eqv, oD]
  | some i :: os, v :: vs => by
    rw [List.map_cons, List.map_cons, PyData.eqvAll, eqv_os os vs]
    by_cases c : i = v
    · subst c; simp [PyData.eqv, oD]
    · simp [PyData.eqv, oD, c]
theorem bks_one {cl : Cl} {bs : List Int} (ok : cl.ok) (h : BksOf cl bs) : decide (bs.length = 1) = oneB cl := by
  obtain ⟨hp, hm⟩ := h
  obtain ⟨l0, _⟩ := keys_len ok
  have hk0 : (keysOf cl).getD 0 0 ∈ keysOf cl := by
    rw [List.getD_eq_getElem?_getD, List.getElem?_eq_getElem l0]
    exact List.getElem_mem l0
  have hb0 : (keysOf cl).getD 0 0 % 4 ∈ bs := (hm _).mpr (List.mem_map.mpr ⟨_, hk0, rfl⟩)
  cases e : oneB cl with
  | true =>
    have all : ∀ b ∈ bs, b = (keysOf cl).getD 0 0 % 4 := fun b hb => by
      obtain ⟨k, hk, rfl⟩ := List.mem_map.mp ((hm b).mp hb)
      exact of_decide_eq_true (List.all_eq_true.mp e k hk)
    match bs, hp, hb0, all with
    | [b], _, _, _ => rfl
    | b :: b' :: bs, hp, _, all =>
      have h1 := all b List.mem_cons_self
      have h2 := all b' (List.mem_cons_of_mem _ List.mem_cons_self)
      have h3 := (List.pairwise_cons.mp hp).1 b' List.mem_cons_self
      omega
  | false =>
    refine decide_eq_false fun z => ?_
    match bs, z, hb0, hm with
    | [b], _, hb0, hm =>
      have : oneB cl = true := List.all_eq_true.mpr fun k hk => by
        have h1 := (hm (k % 4)).mpr (List.mem_map.mpr ⟨k, hk, rfl⟩)
        have h1 := List.mem_singleton.mp h1
        have h2 := List.mem_singleton.mp hb0
        exact decide_eq_true (h1.trans h2.symm)
      rw [e] at this
      cases this
theorem lkV_eq (ns : Tb) (k : Int) : lkV ns k = oV (ns.lookup k) := by
  unfold lkV
  cases ns.lookup k <;> rfl
/-- the answer of a plan: a row of a bucket -/
def RowAt (K : PySem.W.Frag) (H : Hp) (nn : Int → Tb) (is : List It) (v : V) (b : Int) : Prop := ∃ t r ms, v = .ref t ∧ SqT K H t [.int b, .ref r] ∧ Rec K H r (ms.map vp) ∧ ms.Perm (wi (nn b) b is) ∧ Srtd ms
theorem RowAt.same {K : PySem.W.Frag} {H H' : Hp} {nn : Int → Tb} {is : List It} {v : V} {b : Int} (h : RowAt K H nn is v b) (s : Same H H') : RowAt K H' nn is v b := by
  obtain ⟨t, r, ms, e, h1, h2, h3, h4⟩ := h
  exact ⟨t, r, ms, e, h1.same s, h2.same s, h3, h4⟩
/-- the records that a plan is asked with -/
def RecsAt (K : PySem.W.Frag) (H : Hp) (d : Addr) (cl : Cl) (nn : Int → Tb) : Prop := ∃ kvs, H d = some (.dK kvs) ∧ ∀ k ∈ keysOf cl, ∃ r, valV kvs (Sum.inl (k % 4) : Key) = some (.ref r) ∧ Rec K H r ((nn (k % 4)).map vp) ∧ (nn (k % 4)).length < 500 ∧ Srtd (nn (k % 4))
theorem RecsAt.same {K : PySem.W.Frag} {H H' : Hp} {d : Addr} {cl : Cl} {nn : Int → Tb} (h : RecsAt K H d cl nn) (s : Same H H') : RecsAt K H' d cl nn := by
  obtain ⟨kvs, h1, h2⟩ := h
  exact ⟨kvs, s _ _ h1, fun k hk => let ⟨r, a, b, c⟩ := h2 k hk; ⟨r, a, b.same s, c⟩⟩
def osOf (cl : Cl) (nn : Int → Tb) : Os := (keysOf cl).map fun k => (nn (k % 4)).lookup k
def spPlan (K : PySem.W.Frag) : Sp := fun vs H Q _ => ∃ (c d : Addr) (cl : Cl) (nn : Int → Tb), vs = [.ref c, .ref d] ∧ CallAt K H c cl ∧ cl.ok ∧ RecsAt K H d cl nn ∧
  (∀ x, reasonOf cl (osOf cl nn) = some x → ∀ H' p va, Same H H' → SqT K H' p [.str "answer", va, .int (x % 4)] → AnsAt K H' va (ansBy cl (osOf cl nn)) → Q (.ref p) H') ∧
  (reasonOf cl (osOf cl nn) = none → ∀ H' p va rl rows bs, Same H H' → SqT K H' p [.str "change", va, .ref rl] → AnsAt K H' va (ansBy cl (osOf cl nn)) → H' rl = some (.lst rows) → BksOf cl bs → Paired (RowAt K H' nn (itemsOf cl (osOf cl nn))) rows bs → Q (.ref p) H')
theorem RowAt.ext {K : PySem.W.Frag} {H H' : Hp} {nn : Int → Tb} {is : List It} {v : V} {b : Int} (h : RowAt K H nn is v b) (s : ExT H H') : RowAt K H' nn is v b := by
  obtain ⟨t, r, ms, e, h1, h2, h3, h4⟩ := h
  exact ⟨t, r, ms, e, h1.extT s, h2.ext s, h3, h4⟩
theorem asc_len {hi : Int} : ∀ {bs : List Int} {lo : Int}, bs.Pairwise (· < ·) → (∀ b ∈ bs, lo ≤ b ∧ b < hi) → bs.length ≤ (hi - lo).toNat
  | [], lo, _, _ => Nat.zero_le _
  | b :: bs, lo, hp, h => by
    have hp := List.pairwise_cons.mp hp
    have h0 := h b List.mem_cons_self
    have := asc_len (lo := b + 1) hp.2 fun c hc => ⟨by have := hp.1 c hc; omega, (h c (List.mem_cons_of_mem _ hc)).2⟩
    rw [List.length_cons]
    omega
theorem bks_len {cl : Cl} {bs : List Int} (h : BksOf cl bs) : bs.length ≤ 4 := by
  have := asc_len (hi := 4) (lo := 0) h.1 fun b hb => by
    obtain ⟨k, _, e⟩ := List.mem_map.mp ((h.2 b).mp hb)
    have e : k % 4 = b := e
    omega
  omega
section
variable {P : Program} {w : World} {K : PySem.W.Frag} {mg : Str → Option Value} {base : Heap}
theorem scReason : FnScope NRk ["call", "values"] (defScope sReason) := ⟨rfl, rfl, rfl, by decide +kernel, rfl, by decide +kernel, by decide +kernel⟩
theorem go_reason (F : GT K mg "reason_key" sReason ["call", "values"]) (B : Bn mg) (GKo : GO P w K mg base CX0 1 "keys_of" ["call"] (spKeys K)) (GBo : GO P w K mg base CX0 2 "buckets_of" ["call"] (spBkts K)) (GMr : GO P w K mg base CX0 1 "move_reason" ["call", "values"] (spMoveR K)) : GO P w K mg base CX0 3 "reason_key" ["call", "values"] (spReason K) := by
  obtain ⟨f, fd, F, hm, hb⟩ := F
  refine ⟨f, fd, ?_, hm, F.kp, hb⟩
  refine F.ok scReason (fun vs H Q E h => ?_) (fun cdv A outer s H vs Q E hr h => ?_)
  · obtain ⟨c, l, cl, os, rfl, _⟩ := h
    rfl
  · obtain ⟨c, l, cl, os, rfl, hc, hl, hln, ok, k⟩ := h
    have nd := scReason.nd
    have hsl : sizeLine = 16777216 := sizeLine_eq
    have hrKo : Room 1 _ := hr.mono (by decide)
    have hrMr : Room 1 _ := hr.mono (by decide)
    have hrBo : Room 2 _ := hr
    refine ⟨_, (pss_cons (ps_set (i := 2) nd rfl (Or.inl rfl) (pe_ix ix_list (pc_ GKo hrKo (pa_cons (pv 0) pa_nil)) pe_int (fun _ _ => rfl)))
  (pss_cons (Sr.ps_matchV (pe_ix ix_tup (pv 0) pe_int (fun _ _ => rfl))
  (Sr.pmv_case (pss_one (ps_ret (pe_ifExp (pt_cmpR op_eq (pe_ix ix_list (pv 1) pe_int (fun _ _ => rfl)) (pe_ix ix_tup (pv 0) pe_int (fun _ _ => rfl)) (nomark _)) (pv 2) pe_non)))
  (Sr.pmv_case (pss_one (ps_ret (pe_ifExp (pt_cmpR op_isN (pe_ix ix_list (pv 1) pe_int (fun _ _ => rfl)) pe_non (nomark _)) (pv 2) pe_non)))
  (Sr.pmv_case (pss_one (ps_ret (pe_ifExp (PW.pt (pw_or (pt_cmpR op_ne (pe_ix ix_list (pv 1) pe_int (fun _ _ => rfl)) (pe_ix ix_tup (pv 0) pe_int (fun _ _ => rfl)) (nomark _)) (pw_or1 (pt_cmpR op_eq (pe_ix ix_tup (pv 0) pe_int (fun _ _ => rfl)) (pe_ix ix_tup (pv 0) pe_int (fun _ _ => rfl)) (nomark _))))) (pv 2) pe_non)))
  (Sr.pmv_case (pss_one (ps_ret (pc_ GMr hrMr (pa_cons (pv 0) (pa_cons (pv 1) pa_nil)))))
  (Sr.pmv_case (pss_cons (ps_set (i := 3) nd rfl (Or.inl rfl) (pe_cmpR (op_eqD hr.units) (pv 1) (pe_lc (own := [("other", 4), ("value", 5)]) (g := (gTup K 2 (gCons (gName 4) (gCons (gName 5) gNil)))) (tt := tYes) rfl nd (pi_tup (pe_ix ix_tup (pv 0) pe_int (fun _ _ => rfl))) (blkOk_by (N := ["call", "values", "key", "same", "other", "value"]) (sc := defScope sReason) (by decide +kernel)) (fun _ _ _ _ _ => (pg_tup (by rfl) (pgs_cons (pg_name (i := 4) nd rfl (Or.inl rfl)) (pgs_cons (pg_name (i := 5) nd rfl (Or.inl rfl)) pgs_nil)))) (fun _ _ _ _ _ => pts_nil) (fun _ _ _ _ _ => (pv 5))) (nomark _)))
  (pss_one (ps_ret (pe_ifExp (PW.pt (pw_and (pt_truth (pv 3) (by intro _; rfl)) (pw_and1 (pt_cmpR op_eq (pe_callB call_len_seq (by rfl) B.len PySem.boot_len (pa_cons (pc_ GBo hrBo (pa_cons (pv 0) pa_nil)) pa_nil)) pe_int (nomark _))))) (pv 2) pe_non))))
  Sr.pmv_nil))))))
  (pss_one (ps_ret (pv 2))))), ?_⟩
    refine ⟨_, rfl, c, cl, rfl, hc, ok, fun H1 p s1 hp hp1 => ?_⟩
    obtain ⟨x0, xs, hx⟩ : ∃ x xs, keysOf cl = x :: xs := by
      have := (keys_len ok).1
      cases e : keysOf cl with
      | nil => rw [e] at this; cases this
      | cons x xs => exact ⟨x, xs, rfl⟩
    rw [hx] at hp1
    refine ⟨p, _, 0, _, rfl, rfl, SqL.of hp1, at0, ?_⟩
    have hc1 := hc.same s1
    have hl1 : OsAt H1 l os := s1 _ _ hl
    have k1 := k H1 s1
    cases cl with
    | look x =>
      cases hx
      exact ⟨_, rfl, c, _, 0, _, rfl, rfl, hc1, at0, _, rfl, Sr.vmiss (by decide) (Sr.vmiss (by decide) (Sr.vmiss (by decide) (Sr.vmiss (by decide) (Sr.vmiss (by decide) ⟨_, rfl, k1⟩))))⟩
    | put x v =>
      cases hx
      obtain ⟨o, rfl⟩ := os1 hln
      refine ⟨_, rfl, c, _, 0, _, rfl, rfl, hc1, at0, _, rfl, Sr.vhit ?_⟩
      refine ⟨_, rfl, l, _, 0, _, rfl, rfl, SqL.of hl1, at0, _, rfl, c, _, 2, _, rfl, rfl, hc1, at2, by cases o <;> rfl, _, rfl, ?_⟩
      have k1 : Q (oV (if o = some v then some x0 else none)) H1 := k1
      by_cases z : o = some v
      · subst z
        rw [if_pos rfl] at k1
        exact iteD rfl ⟨_, rfl, k1⟩
      · rw [if_neg z] at k1
        exact iteND (fun e => z (by cases o with | none => cases e | some u => cases e; rfl)) k1
    | take x =>
      cases hx
      obtain ⟨o, rfl⟩ := os1 hln
      refine ⟨_, rfl, c, _, 0, _, rfl, rfl, hc1, at0, _, rfl, Sr.vmiss (by decide) (Sr.vhit ?_)⟩
      refine ⟨_, rfl, l, _, 0, _, rfl, rfl, SqL.of hl1, at0, rfl, _, rfl, ?_⟩
      cases o with
      | none => exact iteT ⟨_, rfl, k1⟩
      | some v => exact iteF k1
    | change x o n =>
      cases hx
      obtain ⟨u, rfl⟩ := os1 hln
      refine ⟨_, rfl, c, _, 0, _, rfl, rfl, hc1, at0, _, rfl, Sr.vmiss (by decide) (Sr.vmiss (by decide) (Sr.vhit ?_))⟩
      refine ⟨_, rfl, l, _, 0, _, rfl, rfl, SqL.of hl1, at0, _, rfl, c, _, 2, _, rfl, rfl, hc1, at2, by cases u <;> rfl, _, rfl, ?_⟩
      have k1 : Q (oV (if u ≠ some o ∨ n = o then some x0 else none)) H1 := k1
      by_cases z : u = some o
      · subst z
        refine iteNS rfl ⟨_, rfl, c, _, 3, _, rfl, rfl, hc1, at3, _, rfl, c, _, 2, _, rfl, rfl, hc1, at2, rfl, _, rfl, ?_⟩
        by_cases z2 : n = o
        · rw [if_pos (.inr z2)] at k1
          exact iteD (congrArg V.int z2) ⟨_, rfl, k1⟩
        · rw [if_neg (fun e => e.elim (fun e => e rfl) z2)] at k1
          exact iteND (fun e => z2 (V.int.inj e)) k1
      · rw [if_pos (.inl z)] at k1
        exact iteNT (fun e => z (by cases u with | none => cases e | some u => cases e; rfl)) ⟨_, rfl, k1⟩
    | move x j =>
      cases hx
      refine ⟨_, rfl, c, _, 0, _, rfl, rfl, hc1, at0, _, rfl, Sr.vmiss (by decide) (Sr.vmiss (by decide) (Sr.vmiss (by decide) (Sr.vhit ?_)))⟩
      exact ⟨_, rfl, _, rfl, c, l, x0, j, os, rfl, hc1, hl1, hln, k1⟩
    | puts ps =>
      obtain ⟨q, ts, h1, h2, h3⟩ := id hc1
      refine ⟨_, rfl, c, _, 0, _, rfl, rfl, h1, at0, _, rfl, Sr.vmiss (by decide) (Sr.vmiss (by decide) (Sr.vmiss (by decide) (Sr.vmiss (by decide) (Sr.vhit ?_))))⟩
      have hlp := plen h3
      have hl3 := ok.2.1
      refine ⟨_, rfl, _, rfl, c, _, 1, _, rfl, rfl, h1, at1, q, rfl, ⟨_, h2.sq⟩, fun D hD => lc_tup (K := K) (a := q) (xs := ts) (fun i H' => H' D = some (.lst (((ps.take i).map fun p => p.2).map V.int)) ∧ Same H1 H') ⟨upd_same, up1 hD⟩ (fun i H' _ z => h2.sq.same z.2) ?_ ?_⟩
      · rintro i v H' hi ⟨hD', s2⟩
        obtain ⟨n, hn, t, rfl, ht⟩ := pget h3 hi
        have hil : i < ps.length := (List.getElem?_eq_some_iff.mp hn).1
        refine ⟨t, _, rfl, ht.same s2, rfl, _, _, rfl, _, _, rfl, rfl, rfl, _, rfl, _, hD', (by rw [List.length_map, List.length_map, List.length_take]; omega), ?_, fun b o e => by rw [upd_ne (ne_of_none e hD)]; exact s2 b o e⟩
        rw [upd_same, List.take_succ_eq_append_getElem hil, List.map_append, List.map_append]
        have : ps[i] = n := by rw [List.getElem?_eq_getElem hil] at hn; exact Option.some.inj hn
        rw [this]
        rfl
      · rintro H2 ⟨hD', s2⟩
        rw [hlp, List.take_length] at hD'
        have hl2 : OsAt H2 l os := s2 _ _ hl1
        refine ⟨.list (os.map oD), .list ((ps.map fun p => p.2).map PyData.int), .lst (SqL.of hl2) (oD_all os), .lst (SqL.of hD') (iD_all _), oDl_shaped os, by rw [iD_oD]; exact oDl_shaped _, ?_⟩
        have eqq : PyData.eqv (.list (os.map oD)) (.list ((ps.map fun p => p.2).map PyData.int)) = decide (os = ps.map fun p => some p.2) := by
          show PyData.eqvAll _ _ = _
          rw [eqv_os, List.map_map]
          rfl
        rw [eqq]
        have hkx : (keys ps).head? = some x0 := by
          have : keys ps = x0 :: xs := hx
          rw [this]
          rfl
        by_cases z : os = ps.map fun p => some p.2
        · rw [decide_eq_true z]
          refine ⟨_, rfl, true, rfl, iteT ⟨_, rfl, c, .puts ps, rfl, hc1.same s2, ok, fun H3 p3 bs s3 hp3 hb3 hbk => ⟨p3, _, rfl, .inl (SqL.of hb3), rfl, _, rfl, ?_⟩⟩⟩
          have e1 := bks_one ok hbk
          have k3 := k H3 ((s1.trans s2).trans s3)
          have k3 : Q (oV (if os = ps.map (fun p => some p.2) ∧ oneB (.puts ps) = true then (keys ps).head? else none)) H3 := k3
          by_cases z2 : bs.length = 1
          · rw [if_pos ⟨z, by rw [← e1]; exact decide_eq_true z2⟩, hkx] at k3
            refine iteD ?_ ⟨_, rfl, k3⟩
            rw [List.length_map, z2]
            rfl
          · rw [if_neg fun e => z2 (of_decide_eq_true (e1.trans e.2))] at k3
            refine iteND (fun e => z2 ?_) k3
            have e := V.int.inj e
            rw [List.length_map] at e
            omega
        · rw [decide_eq_false z]
          have k3 := k H2 (s1.trans s2)
          have k3 : Q (oV (if os = ps.map (fun p => some p.2) ∧ oneB (.puts ps) = true then (keys ps).head? else none)) H2 := k3
          rw [if_neg fun e => z e.1] at k3
          exact ⟨_, rfl, false, rfl, iteF k3⟩
theorem scWithIts : FnScope NWs ["record", "bucket", "items"] (defScope sWithIts) := ⟨rfl, rfl, rfl, by decide +kernel, rfl, by decide +kernel, by decide +kernel⟩
theorem go_withits (F : GT K mg "with_items" sWithIts ["record", "bucket", "items"]) (GBk : GO P w K mg base CX0 1 "bucket_of" ["key"] spBucket) (GWo : GO P w K mg base CX0 1 "without_item" ["record", "key"] (spWithout K)) (GWi : GO P w K mg base CX0 2 "with_item" ["record", "key", "value"] (spWith K)) : GO P w K mg base CX0 3 "with_items" ["record", "bucket", "items"] (spWithIts K) := by
  obtain ⟨f, fd, F, hm, hb⟩ := F
  refine ⟨f, fd, ?_, hm, F.kp, hb⟩
  refine F.ok scWithIts (fun vs H Q E h => ?_) (fun cdv A outer s H vs Q E hr h => ?_)
  · obtain ⟨r, l, b, its, is, ns, rfl, _⟩ := h
    rfl
  · obtain ⟨r, l, b, its, is, ns, rfl, R, hln, hsr, hl, hit, hil, k⟩ := h
    have nd := scWithIts.nd
    have hrB : Room 1 _ := hr.mono (by decide)
    have hrWo : Room 1 _ := hr.mono (by decide)
    have hrWi : Room 2 _ := hr
    have hpl := plen hit
    refine ⟨_, (pss_cons (ps_for PassesOwn.never rfl (pi_list (pv 2)) (pg_tup (by rfl) (pgs_cons (pg_name (i := 3) nd rfl (Or.inl rfl)) (pgs_cons (pg_name (i := 4) nd rfl (Or.inl rfl)) pgs_nil)))
  (pss_one (ps_if (pt_cmpR op_eq (pc_ GBk hrB (pa_cons (pv 3) pa_nil)) (pv 1) (nomark _))
  (pss_one (ps_set (i := 0) nd rfl (Or.inl rfl) (pe_ifExp (pt_cmpR op_isN (pv 4) pe_non (nomark _)) (pc_ GWo hrWo (pa_cons (pv 0) (pa_cons (pv 3) pa_nil))) (pc_ GWi hrWi (pa_cons (pv 0) (pa_cons (pv 3) (pa_cons (pv 4) pa_nil)))))))
  pss_nil)))
  (pss_one (ps_ret (pv 0)))), ?_⟩
    refine ⟨_, rfl, l, rfl, ⟨_, SqL.of hl⟩, for_list (xs := its) (fun i σ H' => ∃ (r' : Addr) (ms : Tb) (x y : Option V), σ = [some (.ref r'), some (.int b), some (.ref l), x, y] ∧ Rec K H' r' (ms.map vp) ∧ ms.Perm (wi ns b (is.take i)) ∧ Srtd ms ∧ ms.length ≤ 500 + i ∧ Same H H') ⟨r, ns, _, _, rfl, R, .refl _, hsr, by omega, Same.refl H⟩ (fun i σ H' _ z => by obtain ⟨_, _, _, _, _, _, _, _, _, s⟩ := z; exact SqL.of (s _ _ hl)) ?_ ?_⟩
    · rintro i v σ H' hi ⟨r', ms, x, y, rfl, R', hpm, hs', hml, s1⟩
      obtain ⟨n, hn, t, rfl, ht⟩ := pget hit hi
      have hli : i < is.length := (List.getElem?_eq_some_iff.mp hn).1
      have en : is[i] = n := by rw [List.getElem?_eq_getElem hli] at hn; exact Option.some.inj hn
      have etk : is.take (i + 1) = is.take i ++ [n] := by rw [List.take_succ_eq_append_getElem hli, en]
      refine ⟨t, _, rfl, ht.same s1, rfl, _, _, rfl, _, _, rfl, rfl, _, rfl, _, rfl, _, rfl, rfl, _, rfl, ?_⟩
      by_cases c : n.1 % 4 = b
      · refine iteD (congrArg V.int c) ?_
        obtain ⟨nk, o⟩ := n
        cases o with
        | none =>
          refine ⟨_, rfl, rfl, _, rfl, iteT ⟨_, rfl, _, rfl, r', nk, ms, rfl, R', by omega, fun H2 r2 s2 R2 => ?_⟩⟩
          refine ⟨r2, _, _, _, rfl, R2, ?_, hs'.sublist List.filter_sublist, Nat.le_trans (List.length_filter_le _ _) (by omega), s1.trans s2⟩
          rw [etk, wi_snoc, if_pos c]
          exact stp_perm (o := none) hpm
        | some v =>
          refine ⟨_, rfl, rfl, _, rfl, iteF ⟨_, rfl, _, rfl, _, rfl, r', nk, v, ms, rfl, R', by omega, fun H2 r2 ms2 s2 R2 hp2 hs2 => ?_⟩⟩
          refine ⟨r2, ms2, _, _, rfl, R2, ?_, hs2, ?_, s1.trans s2⟩
          · rw [etk, wi_snoc, if_pos c]
            exact hp2.trans (stp_perm (o := some v) hpm)
          · rw [hp2.length_eq, List.length_append, List.length_singleton]
            have := List.length_filter_le (fun n : Int × Int => !decide (n.1 = nk)) ms
            omega
      · refine iteND (fun e => c (V.int.inj e)) ⟨r', ms, _, _, rfl, R', ?_, hs', by omega, s1⟩
        rw [etk, wi_snoc, if_neg c]
        exact hpm
    · rintro σ H' ⟨r', ms, x, y, rfl, R', hpm, hs', hml, s1⟩
      rw [hpl, List.take_length] at hpm
      exact ⟨_, rfl, k H' r' ms s1 R' hpm hs'⟩
theorem scPlan : FnScope NPl ["call", "records"] (defScope sPlan) := ⟨rfl, rfl, rfl, by decide +kernel, rfl, by decide +kernel, by decide +kernel⟩
theorem go_plan (F : GT K mg "plan" sPlan ["call", "records"]) (GBk : GO P w K mg base CX0 1 "bucket_of" ["key"] spBucket) (GVi : GO P w K mg base CX0 1 "value_in" ["record", "key"] (spValIn K)) (GKo : GO P w K mg base CX0 1 "keys_of" ["call"] (spKeys K)) (GBo : GO P w K mg base CX0 2 "buckets_of" ["call"] (spBkts K))
    (GAb : GO P w K mg base CX0 1 "answer_by" ["call", "values"] (spAnsBy K)) (GRk : GO P w K mg base CX0 3 "reason_key" ["call", "values"] (spReason K)) (GNi : GO P w K mg base CX0 1 "new_items" ["call", "values"] (spNewIt K)) (GWs : GO P w K mg base CX0 3 "with_items" ["record", "bucket", "items"] (spWithIts K)) : GO P w K mg base CX0 4 "plan" ["call", "records"] (spPlan K) := by
  obtain ⟨f, fd, F, hm, hb⟩ := F
  refine ⟨f, fd, ?_, hm, F.kp, hb⟩
  refine F.ok scPlan (fun vs H Q E h => ?_) (fun cdv A outer s H vs Q E hr h => ?_)
  · obtain ⟨c, d, cl, nn, rfl, _⟩ := h
    rfl
  · obtain ⟨c, d, cl, nn, rfl, hc, ok, hR, kA, kC⟩ := h
    have nd := scPlan.nd
    have hu := hu_of hr
    have hsl : sizeLine = 16777216 := sizeLine_eq
    have hrB : Room 1 _ := hr.mono (by decide)
    have hrVi : Room 1 _ := hr.mono (by decide)
    have hrKo : Room 1 _ := hr.mono (by decide)
    have hrBo : Room 2 _ := hr.mono (by decide)
    have hrAb : Room 1 _ := hr.mono (by decide)
    have hrRk : Room 3 _ := hr
    have hrNi : Room 1 _ := hr.mono (by decide)
    have hrWs : Room 3 _ := hr
    refine ⟨_, (pss_cons (ps_setLc (i := 2) (own := [("key", 7)]) (g := (gName 7)) (tt := tYes) rfl nd rfl rfl (sw_true rfl rfl rfl (by decide +kernel)) (pi_list (pc_ GKo hrKo (pa_cons (pv 0) pa_nil))) (blkOk_by (N := ["call", "records", "values", "answer", "reason", "items", "rows", "key", "bucket"]) (sc := defScope sPlan) (by decide +kernel)) (fun _ _ _ _ _ => (pg_name (i := 7) nd rfl (Or.inl rfl))) (fun _ _ _ _ _ => pts_nil) (fun _ _ _ _ _ => (pc_ GVi hrVi (pa_cons (pe_dget hu (pv 1) (pc_ GBk hrB (pa_cons (pv 7) pa_nil)) (fun _ _ => rfl)) (pa_cons (pv 7) pa_nil)))))
  (pss_cons (ps_set (i := 3) nd rfl (Or.inl rfl) (pc_ GAb hrAb (pa_cons (pv 0) (pa_cons (pv 2) pa_nil))))
  (pss_cons (ps_set (i := 4) nd rfl (Or.inl rfl) (pc_ GRk hrRk (pa_cons (pv 0) (pa_cons (pv 2) pa_nil))))
  (pss_cons (ps_if (pt_cmpR op_notN (pv 4) pe_non (nomark _))
  (pss_one (ps_ret (pe_tup (pa_cons pe_str (pa_cons (pv 3) (pa_cons (pc_ GBk hrB (pa_cons (pv 4) pa_nil)) pa_nil))))))
  pss_nil)
  (pss_cons (ps_set (i := 5) nd rfl (Or.inr rfl) (pc_ GNi hrNi (pa_cons (pv 0) (pa_cons (pv 2) pa_nil))))
  (pss_cons (ps_setLc (i := 6) (own := [("bucket", 8)]) (g := (gName 8)) (tt := tYes) rfl nd rfl rfl (sw_true rfl rfl rfl (by decide +kernel)) (pi_list (pc_ GBo hrBo (pa_cons (pv 0) pa_nil))) (blkOk_by (N := ["call", "records", "values", "answer", "reason", "items", "rows", "key", "bucket"]) (sc := defScope sPlan) (by decide +kernel)) (fun _ _ _ _ _ => (pg_name (i := 8) nd rfl (Or.inl rfl))) (fun _ _ _ _ _ => pts_nil) (fun _ _ _ _ _ => (pe_tup (pa_cons (pv 8) (pa_cons (pc_ GWs hrWs (pa_cons (pe_dget hu (pv 1) (pv 8) (fun _ _ => rfl)) (pa_cons (pv 8) (pa_cons (pv 5) pa_nil)))) pa_nil)))))
  (pss_one (ps_ret (pe_tup (pa_cons pe_str (pa_cons (pv 3) (pa_cons (pv 6) pa_nil)))))))))))), ?_⟩
    have hosl : (osOf cl nn).length = (keysOf cl).length := List.length_map ..
    have hk3 := (keys_len ok).2
    -- values
    refine ⟨_, rfl, c, cl, rfl, hc, ok, fun H1 l s1 hl hl1 => ⟨l, rfl, ⟨_, SqL.of hl1⟩, fun D hD => lc_list (xs := (keysOf cl).map V.int) (fun i H' => OsAt H' D ((osOf cl nn).take i) ∧ Same H1 H') ⟨upd_same, up1 hD⟩ (fun i H' _ z => SqL.of (z.2 _ _ hl1)) ?_ ?_⟩⟩
    · rintro i v H' hi ⟨hD', s2⟩
      have hil : i < (keysOf cl).length := by
        have := (List.getElem?_eq_some_iff.mp hi).1
        rw [List.length_map] at this
        exact this
      rw [List.getElem?_map, List.getElem?_eq_getElem hil] at hi
      cases hi
      obtain ⟨kvs, hd, hrec⟩ := (hR.same s1).same s2
      obtain ⟨r, hv, R, _⟩ := hrec _ (List.getElem_mem hil)
      have g : DGet H' d (.int ((keysOf cl)[i] % 4)) (some (.ref r)) := by
        have := DGet.k (k := (Sum.inl ((keysOf cl)[i] % 4) : Key)) hd
        rw [hv] at this
        exact this
      refine ⟨rfl, _, rfl, _, rfl, _, rfl, d, .ref r, rfl, g, _, rfl, r, _, _, rfl, R, ?_⟩
      refine ⟨_, hD', (by rw [List.length_map, List.length_take]; omega), ?_, fun b o e => by rw [upd_ne (ne_of_none e hD)]; exact s2 b o e⟩
      unfold OsAt
      rw [upd_same, lkV_eq, List.take_succ_eq_append_getElem (by rw [hosl]; exact hil), List.map_append]
      have : (osOf cl nn)[i]'(by rw [hosl]; exact hil) = (nn ((keysOf cl)[i] % 4)).lookup (keysOf cl)[i] := by unfold osOf; rw [List.getElem_map]
      rw [List.map_singleton, this]
    · rintro H2 ⟨hD2, s2⟩
      rw [List.length_map, ← hosl, List.take_length] at hD2
      have s12 := s1.trans s2
      have hc2 := hc.same s12
      -- answer
      refine ⟨_, rfl, _, rfl, c, D, cl, _, rfl, hc2, hD2, hosl, ok, fun H3 va s3 hva => ?_⟩
      have s13 := s12.trans s3
      -- reason
      refine ⟨_, rfl, _, rfl, c, D, cl, _, rfl, hc2.same s3, s3 _ _ hD2, hosl, ok, fun H4 s4 => ?_⟩
      have s14 := s13.trans s4
      have hva4 := hva.same s4
      have hc4 := hc.same s14
      have hD4 : OsAt H4 D (osOf cl nn) := s4 _ _ (s3 _ _ hD2)
      cases hre : reasonOf cl (osOf cl nn) with
      | some x =>
        refine ⟨_, rfl, rfl, _, rfl, iteT ⟨_, rfl, _, rfl, _, rfl, (by show 3 ≤ sizeLine; omega), fun p hp => ?_⟩⟩
        exact kA x hre _ p va (s14.trans (up1 hp)) (SqT.of upd_same) (hva4.same (up1 hp))
      | none =>
        refine ⟨_, rfl, rfl, _, rfl, iteF ?_⟩
        -- items
        refine ⟨_, rfl, _, rfl, c, D, cl, _, rfl, hc4, hD4, hosl, ok, fun H5 ip its s5 hip hits => ?_⟩
        have s15 := s14.trans s5
        have hil : (itemsOf cl (osOf cl nn)).length < 100 := by
          cases cl with
          | puts ps =>
            have : (itemsOf (.puts ps) (osOf (.puts ps) nn)).length = ps.length := List.length_map ..
            have := ok.2.1
            omega
          | _ => simp [itemsOf]
        -- rows
        refine ⟨_, rfl, c, cl, rfl, hc4.same s5, ok, fun H6 bl bs s6 hbl hb6 hbk => ⟨bl, rfl, ⟨_, SqL.of hb6⟩, fun D2 hD2' => lc_list (xs := bs.map V.int) (fun i H' => ∃ rows, H' D2 = some (.lst rows) ∧ Paired (RowAt K H' nn (itemsOf cl (osOf cl nn))) rows (bs.take i) ∧ Same H6 H') ⟨[], upd_same, .nil, up1 hD2'⟩ (fun i H' _ z => by obtain ⟨_, _, _, s⟩ := z; exact SqL.of (s _ _ hb6)) ?_ ?_⟩⟩
        · rintro i v H' hi ⟨rows, hr', hp', s7⟩
          have hib : i < bs.length := by
            have := (List.getElem?_eq_some_iff.mp hi).1
            rw [List.length_map] at this
            exact this
          rw [List.getElem?_map, List.getElem?_eq_getElem hib] at hi
          cases hi
          have hbm : bs[i] ∈ (keysOf cl).map (· % 4) := (hbk.2 _).mp (List.getElem_mem hib)
          obtain ⟨k, hk, ek⟩ := List.mem_map.mp hbm
          have ek : k % 4 = bs[i] := ek
          have s17 := (s15.trans s6).trans s7
          obtain ⟨kvs, hd, hrec⟩ := hR.same s17
          obtain ⟨r, hv, R, hln, hsr⟩ := hrec k hk
          rw [ek] at hv R hln hsr
          have g : DGet H' d (.int bs[i]) (some (.ref r)) := by
            have := DGet.k (k := (Sum.inl bs[i] : Key)) hd
            rw [hv] at this
            exact this
          have s67 := s6.trans s7
          have hits7 : Paired (ItemI K H') its (itemsOf cl (osOf cl nn)) := pmono (fun _ _ h => h.same s67) hits
          refine ⟨rfl, _, rfl, _, rfl, _, rfl, d, .ref r, rfl, g, _, rfl, _, rfl, r, ip, bs[i], its, _, _, rfl, R, hln, hsr, s67 _ _ hip, hits7, hil, fun H8 r' ms s8 R8 hpm hs8 => ⟨(by show 2 ≤ sizeLine; omega), fun t ht => ?_⟩⟩
          have s9 : Same H8 (upd H8 t (.tup [.int bs[i], .ref r'])) := up1 ht
          have e9 : upd H8 t (.tup [.int bs[i], .ref r']) t = _ := upd_same
          generalize upd H8 t (.tup [.int bs[i], .ref r']) = H9 at s9 e9 ⊢
          have s79 := s8.trans s9
          have hlr : rows.length = min i bs.length := by rw [plen hp', List.length_take]
          have hr9 := s79 _ _ hr'
          have x9 : ExT H9 (upd H9 D2 (.lst (rows ++ [.ref t]))) := Kept.ext (a := D2) (fun b o e n => by rw [upd_ne n]; exact e) hr9
          refine ⟨rows, hr9, by have := bks_len hbk; omega, rows ++ [.ref t], upd_same, ?_, fun b o e => by rw [upd_ne (ne_of_none e hD2')]; exact s79 b o (s7 b o e)⟩
          rw [List.take_succ_eq_append_getElem hib]
          refine papp (pmono (fun _ _ h => (h.same s79).ext x9) hp') (.cons ⟨t, r', ms, rfl, (SqT.of e9).extT x9, (R8.same s9).ext x9, hpm, hs8⟩ .nil)
        · rintro H7 ⟨rows, hr', hp', s7⟩
          rw [List.length_map, List.take_length] at hp'
          have s17 := (s15.trans s6).trans s7
          refine ⟨_, rfl, _, rfl, (by show 3 ≤ sizeLine; omega), fun p hp => ?_⟩
          have s8 : Same H7 _ := up1 (o := HO.tup [.str "change", va, .ref D2]) hp
          exact kC hre _ p va D2 rows bs (s17.trans s8) (SqT.of upd_same) (((hva4.same s5).same (s6.trans s7)).same s8) (s8 _ _ hr') hbk (pmono (fun _ _ h => h.same s8) hp')
end
end Dk

set_option maxHeartbeats 8000000
/-! the law's calls, what they do, its records -/
namespace Dk
open PySem PySem.Spec PyProof.Rows L2 StX
abbrev sLCall : Stmt := top 22
abbrev sDoes : Stmt := top 23
abbrev sRecd : Stmt := top 27
abbrev NLc : List Str := ["tape", "kind", "key", "pairs", "step", "turn"]
abbrev NDo : List Str := ["plain", "call", "kind", "olds", "key", "value", "old"]
def ClB : Cl → Prop
  | .move x j => 0 ≤ x ∧ x < 40 ∧ 0 ≤ j ∧ j < 40
  | _ => True
def spCa (K : PySem.W.Frag) : Sp := fun vs H Q _ => ∃ (tp sp : Addr) (ns : List Int) (pos : Nat) (rest seed : Int), vs = [.ref tp] ∧ TapeAt H tp sp ns pos rest seed ∧ ns.length ≤ 63 ∧
  ∀ (H' : Hp) (c : Addr) (cl : Cl) (pos' : Nat) (rest' seed' : Int), TapeAt H' tp sp ns pos' rest' seed' → Kept tp H H' → CallAt K H' c cl → cl.ok → ClB cl → Q (.ref c) H'
def spDoes (K : PySem.W.Frag) : Sp := fun vs H Q _ => ∃ (d c : Addr) (tb : Tb) (cl : Cl), vs = [.ref d, .ref c] ∧ H d = some (.dK (Rt.kvI tb)) ∧ (keys tb).Nodup ∧ tb.length < 1000 ∧ CallAt K H c cl ∧ cl.ok ∧
  ∀ H' v, Kept d H H' → H' d = some (.dK (Rt.kvI (aftOf tb cl))) → AnsAt K H' v (ansOf tb cl) → Q v H'
def inB (tb : Tb) (b : Int) : Tb := tb.filter fun n => decide (n.1 % 4 = b)
def spRe (K : PySem.W.Frag) : Sp := fun vs H Q _ => ∃ (d : Addr) (b : Int) (tb : Tb), vs = [.ref d, .int b] ∧ H d = some (.dK (Rt.kvI tb)) ∧ (keys tb).Nodup ∧ tb.length < 500 ∧
  ∀ H' r ms, Same H H' → Rec K H' r (ms.map vp) → ms.Perm (inB tb b) → Srtd ms → Q (.ref r) H'
theorem TapeAt.same {H H' : Hp} {tp sp : Addr} {ns : List Int} {pos : Nat} {rest seed : Int} (T : TapeAt H tp sp ns pos rest seed) (s : Same H H') : TapeAt H' tp sp ns pos rest seed := ⟨s _ _ T.t, s _ _ T.s, T.r, T.s0, T.s1⟩
theorem PairI.ext {K : PySem.W.Frag} {H H' : Hp} {v : V} {n : Int × Int} (h : PairI K H v n) (s : ExT H H') : PairI K H' v n := let ⟨t, e, h⟩ := h; ⟨t, e, h.extT s⟩
theorem CallAt.ext {K : PySem.W.Frag} {H H' : Hp} {c : Addr} {cl : Cl} (h : CallAt K H c cl) (s : ExT H H') : CallAt K H' c cl := by
  cases cl with
  | puts ps => exact let ⟨q, ts, h1, ⟨o, h2, h4⟩, h3⟩ := h; ⟨q, ts, h1.extT s, ⟨o, s.2 _ _ _ h2, h4⟩, pmono (fun _ _ h => h.ext s) h3⟩
  | look => exact L2.SqT.extT h s
  | put => exact L2.SqT.extT h s
  | take => exact L2.SqT.extT h s
  | change => exact L2.SqT.extT h s
  | move => exact L2.SqT.extT h s
theorem AnsAt.ext {K : PySem.W.Frag} {H H' : Hp} {v : V} {a : Ans} (h : AnsAt K H v a) (s : ExT H H') : AnsAt K H' v a := by
  cases a with
  | tup os => exact let ⟨t, e, h⟩ := h; ⟨t, e, h.extT s⟩
  | bl => exact h
  | val => exact h
theorem Kept.extD {a : Addr} {H H' : Hp} {kvs : List (Key × V)} (k : Kept a H H') (h : H a = some (.dK kvs)) : ExT H H' :=
  ⟨fun b xs e => k b _ e (ne_of e h (by intro z; cases z)), fun b o xs e => k b _ e (ne_of e h (by intro z; cases z))⟩
/-- the pairs of a puts: keys by steps -/
def stepKs (x st : Int) (vs : List Int) : Tb := (vs.zipIdx).map fun p => (x + (p.2 : Int) * st, p.1)
section
variable {P : Program} {w : World} {K : PySem.W.Frag} {mg : Str → Option Value} {base : Heap}
theorem scLCall : FnScope NLc ["tape"] (defScope sLCall) := ⟨rfl, rfl, rfl, by decide +kernel, rfl, by decide +kernel, by decide +kernel⟩
theorem go_lcall (F : GT K mg "_law_call" sLCall ["tape"]) (B : Bn mg) (GNx : GO P w K mg base CX0 1 "_law_next" ["tape", "many"] spNext) : GO P w K mg base CX0 2 "_law_call" ["tape"] (spCa K) := by
  obtain ⟨f, fd, F, hm, hb⟩ := F
  refine ⟨f, fd, ?_, hm, F.kp, hb⟩
  refine F.ok scLCall (fun vs H Q E h => ?_) (fun cdv A outer s H vs Q E hr h => ?_)
  · obtain ⟨tp, sp, ns, pos, rest, seed, rfl, _⟩ := h
    rfl
  · obtain ⟨tp, sp, ns, pos, rest, seed, rfl, T, hns, k⟩ := h
    have nd := scLCall.nd
    have hrN : Room 1 _ := hr
    have hsl : sizeLine = 16777216 := sizeLine_eq
    refine ⟨_, (pss_cons (ps_set (i := 1) nd rfl (Or.inl rfl) (pc_ GNx hrN (pa_cons (pv 0) (pa_cons pe_int pa_nil))))
  (pss_cons (ps_set (i := 2) nd rfl (Or.inl rfl) (pc_ GNx hrN (pa_cons (pv 0) (pa_cons (pe_ix ix_tup (pe_tup (pa_cons pe_int (pa_cons pe_int pa_nil))) (pc_ GNx hrN (pa_cons (pv 0) (pa_cons pe_int pa_nil))) (fun _ _ => rfl)) pa_nil))))
  (pss_cons (ps_if (pt_cmpR op_lt (pv 1) pe_int (nomark _))
  (pss_one (ps_ret (pe_tup (pa_cons pe_str (pa_cons (pv 2) (pa_cons (pc_ GNx hrN (pa_cons (pv 0) (pa_cons pe_int pa_nil))) pa_nil))))))
  pss_nil)
  (pss_cons (ps_if (pt_cmpR op_lt (pv 1) pe_int (nomark _))
  (pss_one (ps_ret (pe_tup (pa_cons pe_str (pa_cons (pv 2) pa_nil)))))
  pss_nil)
  (pss_cons (ps_if (pt_cmpR op_lt (pv 1) pe_int (nomark _))
  (pss_one (ps_ret (pe_tup (pa_cons pe_str (pa_cons (pv 2) pa_nil)))))
  pss_nil)
  (pss_cons (ps_if (pt_cmpR op_lt (pv 1) pe_int (nomark _))
  (pss_one (ps_ret (pe_tup (pa_cons pe_str (pa_cons (pv 2) (pa_cons (pc_ GNx hrN (pa_cons (pv 0) (pa_cons pe_int pa_nil))) (pa_cons (pc_ GNx hrN (pa_cons (pv 0) (pa_cons pe_int pa_nil))) pa_nil)))))))
  pss_nil)
  (pss_cons (ps_if (pt_cmpR op_lt (pv 1) pe_int (nomark _))
  (pss_one (ps_ret (pe_tup (pa_cons pe_str (pa_cons (pv 2) (pa_cons (pe_op op_mod (pe_op op_add (pe_op op_add (pv 2) pe_int) (pc_ GNx hrN (pa_cons (pv 0) (pa_cons pe_int pa_nil)))) pe_int) pa_nil))))))
  pss_nil)
  (pss_cons (ps_set (i := 3) nd rfl (Or.inl rfl) (pe_lst pa_nil))
  (pss_cons (ps_set (i := 4) nd rfl (Or.inl rfl) (pe_ix ix_tup (pe_tup (pa_cons pe_int (pa_cons pe_int (pa_cons (pe_un un_neg pe_int) (pa_cons (pe_un un_neg pe_int) pa_nil))))) (pc_ GNx hrN (pa_cons (pv 0) (pa_cons pe_int pa_nil))) (fun _ _ => rfl)))
  (pss_cons (ps_for PassesOwn.never rfl (pi_range1 (by rfl) B.range (pa_cons (pe_op op_add pe_int (pc_ GNx hrN (pa_cons (pv 0) (pa_cons pe_int pa_nil)))) pa_nil)) (pg_name (i := 5) nd rfl (Or.inl rfl))
  (pss_one (ps_expr (pe_bm PySem.F.plainAttrs_list PySem.F.slot_list_append PySem.F.type_list_append mt_append (pv 3) (pa_cons (pe_tup (pa_cons (pe_op op_add (pv 2) (pe_op op_mul (pv 5) (pv 4))) (pa_cons (pc_ GNx hrN (pa_cons (pv 0) (pa_cons pe_int pa_nil))) pa_nil))) pa_nil)))))
  (pss_one (ps_ret (pe_tup (pa_cons pe_str (pa_cons (pe_callTy Rd.call_tuple_ofF (by rfl) B.tuple (by decide +kernel) (pa_cons (pv 3) pa_nil)) pa_nil))))))))))))))), ?_⟩
    refine ⟨_, rfl, tp, sp, ns, pos, rest, seed, 16, rfl, T, by decide, by decide, hns, fun kd H1 pos1 rest1 seed1 kd0 kd16 T1 k1 => ?_⟩
    refine ⟨_, rfl, (by show 2 ≤ sizeLine; omega), fun p hp => ?_⟩
    have s2 := up1 (o := HO.tup [V.int 4, V.int 9]) hp
    have e2 : upd H1 p (HO.tup [V.int 4, V.int 9]) p = _ := upd_same
    have p_tp : p ≠ tp := (ne_of_none T1.t hp).symm
    generalize upd H1 p (HO.tup [V.int 4, V.int 9]) = H2 at s2 e2 ⊢
    have T2 := T1.same s2
    refine ⟨_, rfl, tp, sp, ns, pos1, rest1, seed1, 2, rfl, T2, by decide, by decide, hns, fun i H3 pos3 rest3 seed3 i0 i2 T3 k3 => ?_⟩
    have e3 := k3 _ _ e2 p_tp
    have k13 : Kept tp H H3 := k1.trans ((Kept.of s2).trans k3)
    obtain ⟨m, hm0, hm9, hat⟩ : ∃ m : Int, 0 < m ∧ m ≤ 9 ∧ atI [V.int 4, V.int 9] i = some (.int m) := by
      rcases (show i = 0 ∨ i = 1 by omega) with rfl | rfl
      · exact ⟨4, by decide, by decide, rfl⟩
      · exact ⟨9, by decide, by decide, rfl⟩
    refine ⟨p, _, i, _, rfl, rfl, SqT.of e3, hat, tp, sp, ns, pos3, rest3, seed3, m, rfl, T3, hm0, by omega, hns, fun x H4 pos4 rest4 seed4 x0 x9 T4 k4 => ?_⟩
    have k14 := k13.trans k4
    -- put
    refine ⟨_, rfl, _, _, rfl, rfl, _, rfl, ite2 (fun _ => ?_) (fun _ => ?_)⟩
    · refine ⟨_, rfl, _, rfl, tp, sp, ns, pos4, rest4, seed4, 4, rfl, T4, by decide, by decide, hns, fun v H5 pos5 rest5 seed5 v0 v4 T5 k5 => ⟨(by show 3 ≤ sizeLine; omega), fun t ht => ?_⟩⟩
      exact k _ t (.put x v) _ _ _ (T5.same (up1 ht)) (k14.trans (k5.trans (.of (up1 ht)))) (SqT.of upd_same) trivial trivial
    refine ⟨_, rfl, _, _, rfl, rfl, _, rfl, ite2 (fun _ => ?_) (fun _ => ?_)⟩
    · refine ⟨_, rfl, (by show 2 ≤ sizeLine; omega), fun t ht => ?_⟩
      exact k _ t (.take x) _ _ _ (T4.same (up1 ht)) (k14.trans (.of (up1 ht))) (SqT.of upd_same) trivial trivial
    refine ⟨_, rfl, _, _, rfl, rfl, _, rfl, ite2 (fun _ => ?_) (fun _ => ?_)⟩
    · refine ⟨_, rfl, (by show 2 ≤ sizeLine; omega), fun t ht => ?_⟩
      exact k _ t (.look x) _ _ _ (T4.same (up1 ht)) (k14.trans (.of (up1 ht))) (SqT.of upd_same) trivial trivial
    refine ⟨_, rfl, _, _, rfl, rfl, _, rfl, ite2 (fun _ => ?_) (fun _ => ?_)⟩
    · refine ⟨_, rfl, _, rfl, tp, sp, ns, pos4, rest4, seed4, 4, rfl, T4, by decide, by decide, hns, fun v H5 pos5 rest5 seed5 v0 v4 T5 k5 => ?_⟩
      refine ⟨_, rfl, tp, sp, ns, pos5, rest5, seed5, 4, rfl, T5, by decide, by decide, hns, fun u H6 pos6 rest6 seed6 u0 u4 T6 k6 => ⟨(by show 4 ≤ sizeLine; omega), fun t ht => ?_⟩⟩
      exact k _ t (.change x v u) _ _ _ (T6.same (up1 ht)) (k14.trans (k5.trans (k6.trans (.of (up1 ht))))) (SqT.of upd_same) trivial trivial
    refine ⟨_, rfl, _, _, rfl, rfl, _, rfl, ite2 (fun _ => ?_) (fun _ => ?_)⟩
    · refine ⟨_, rfl, _, rfl, _, _, rfl, rfl, _, rfl, tp, sp, ns, pos4, rest4, seed4, 6, rfl, T4, by decide, by decide, hns, fun v H5 pos5 rest5 seed5 v0 v4 T5 k5 => ?_⟩
      refine ⟨_, _, rfl, rfl, _, _, rfl, rfl, (by show (0 : Int) < 11; decide), (by show 3 ≤ sizeLine; omega), fun t ht => ?_⟩
      exact k _ t (.move x ((x + 1 + v) % 11)) _ _ _ (T5.same (up1 ht)) (k14.trans (k5.trans (.of (up1 ht)))) (SqT.of upd_same) (by show x ≠ _; omega) (by show _ ∧ _; omega)
    -- puts
    refine ⟨(by show 0 ≤ sizeLine; omega), fun D hD => ?_⟩
    have s5 := up1 (o := HO.lst []) hD
    have e5 : upd H4 D (HO.lst []) D = _ := upd_same
    have D_tp : D ≠ tp := (ne_of_none T4.t hD).symm
    have Dnew : H D = none := by
      cases e : H D with
      | none => rfl
      | some o => have := k14 _ _ e D_tp; rw [hD] at this; cases this
    generalize upd H4 D (HO.lst []) = H5 at s5 e5 ⊢
    have T5 := T4.same s5
    have k15 := k14.trans (Kept.of s5)
    refine ⟨_, rfl, _, rfl, (by show 4 ≤ sizeLine; omega), fun p6 hp6 => ?_⟩
    have s6 := up1 (o := HO.tup [V.int 1, V.int 4, V.int (-3), V.int (-4)]) hp6
    have e6 : upd H5 p6 (HO.tup [V.int 1, V.int 4, V.int (-3), V.int (-4)]) p6 = _ := upd_same
    have p6_tp : p6 ≠ tp := (ne_of_none T5.t hp6).symm
    have d6 := s6 _ _ e5
    generalize upd H5 p6 (HO.tup [V.int 1, V.int 4, V.int (-3), V.int (-4)]) = H6 at s6 e6 d6 ⊢
    have T6 := T5.same s6
    refine ⟨_, rfl, tp, sp, ns, pos4, rest4, seed4, 4, rfl, T6, by decide, by decide, hns, fun i7 H7 pos7 rest7 seed7 i70 i74 T7 k7 => ?_⟩
    have e7 := k7 _ _ e6 p6_tp
    have d7 := k7 _ _ d6 D_tp
    have k17 := k15.trans ((Kept.of s6).trans k7)
    obtain ⟨st, hst, hat7⟩ : ∃ st : Int, (st = 1 ∨ st = 4 ∨ st = -3 ∨ st = -4) ∧ atI [V.int 1, V.int 4, V.int (-3), V.int (-4)] i7 = some (.int st) := by
      rcases (show i7 = 0 ∨ i7 = 1 ∨ i7 = 2 ∨ i7 = 3 by omega) with rfl | rfl | rfl | rfl
      · exact ⟨1, by decide, rfl⟩
      · exact ⟨4, by decide, rfl⟩
      · exact ⟨-3, by decide, rfl⟩
      · exact ⟨-4, by decide, rfl⟩
    refine ⟨p6, _, i7, _, rfl, rfl, SqT.of e7, hat7, ?_⟩
    refine ⟨_, rfl, tp, sp, ns, pos7, rest7, seed7, 3, rfl, T7, by decide, by decide, hns, fun m8 H8 pos8 rest8 seed8 m80 m83 T8 k8 => ?_⟩
    have d8 := k8 _ _ d7 D_tp
    have k18 := k17.trans k8
    refine ⟨_, _, rfl, rfl, _, rfl, by omega, by omega, for_range (lo := 0) (n := (1 + m8).toNat) (fun i σ H' => ∃ (ts : List V) (ps : Tb) (ps9 : Nat) (r9 sd9 : Int) (x5 : Option V), σ = [some (.ref tp), some (.int kd), some (.int x), some (.ref D), some (.int st), x5] ∧ H' D = some (.lst ts) ∧ Paired (PairI K H') ts ps ∧ keys ps = (List.range i).map (fun j : Nat => x + (j : Int) * st) ∧ TapeAt H' tp sp ns ps9 r9 sd9 ∧ Kept tp H H') ⟨[], [], _, _, _, _, rfl, d8, .nil, rfl, T8, k18⟩ ?_ ?_⟩
    · rintro i σ H' hi ⟨ts, ps, pos9, r9, sd9, x5, rfl, hD', hp', hks, T9, k9⟩
      have hi3 : i < 3 := by omega
      have hlp : ps.length = i := by
        have := congrArg List.length hks
        unfold keys at this
        rw [List.length_map, List.length_map, List.length_range] at this
        exact this
      refine ⟨_, rfl, .inl ⟨rfl, _, SqL.of hD'⟩, _, rfl, _, rfl, _, rfl, _, _, rfl, rfl, .inr (by constructor <;> omega), _, _, rfl, rfl, _, rfl, tp, sp, ns, pos9, r9, sd9, 4, rfl, T9, by decide, by decide, hns, fun v H10 pos10 rest10 seed10 v0 v4 T10 k10 => ⟨(by show 2 ≤ sizeLine; omega), fun t ht => ?_⟩⟩
      have x10 : ExT H' H10 := Kept.ext (a := tp) k10 T9.t
      have d10 := k10 _ _ hD' D_tp
      have s11 := up1 (o := HO.tup [V.int (x + (0 + (i : Int)) * st), V.int v]) ht
      have e11 : upd H10 t (HO.tup [V.int (x + (0 + (i : Int)) * st), V.int v]) t = _ := upd_same
      have d11 := s11 _ _ d10
      generalize upd H10 t (HO.tup [V.int (x + (0 + (i : Int)) * st), V.int v]) = H11 at s11 e11 d11 ⊢
      have D_t : t ≠ D := (ne_of_none d10 ht).symm
      refine ⟨D, _, _, rfl, rfl, d11, (by rw [plen hp']; omega), ?_⟩
      have x12 : ExT H11 (upd H11 D (.lst (ts ++ [.ref t]))) := Kept.ext (a := D) (fun b o e n => by rw [upd_ne n]; exact e) d11
      have T12 := T10.same s11
      have sp_D : sp ≠ D := fun z => by
        have h1 := T12.s
        have h2 := T.s
        rw [z] at h2
        rw [Dnew] at h2
        cases h2
      refine ⟨_, ps ++ [(x + (0 + (i : Int)) * st, v)], _, _, _, _, rfl, upd_same, papp (pmono (fun _ _ h => ((h.ext x10).same s11).ext x12) hp') (.cons ⟨t, rfl, (SqT.of e11).extT x12⟩ .nil), ?_, ⟨by rw [upd_ne D_tp.symm]; exact T12.t, by rw [upd_ne sp_D]; exact T12.s, T12.r, T12.s0, T12.s1⟩, fun b o e n => ?_⟩
      · unfold keys at hks ⊢
        rw [List.map_append, hks, List.range_succ, List.map_append, List.map_singleton, List.map_singleton, Int.zero_add]
      · rw [upd_ne (ne_of_none e Dnew)]
        exact s11 _ _ (k10 _ _ (k9 _ _ e n) n)
    · rintro σ H' ⟨ts, ps, pos9, r9, sd9, x5, rfl, hD', hp', hks, T9, k9⟩
      refine ⟨_, rfl, D, _, rfl, SqL.of hD', fun q o hq ho => ⟨(by show 2 ≤ sizeLine; omega), fun t ht => ?_⟩⟩
      have s10 := up1 (o := HO.frz o (.tup ts)) hq
      have e10 : upd H' q (HO.frz o (.tup ts)) q = _ := upd_same
      generalize upd H' q (HO.frz o (.tup ts)) = H10 at s10 e10 ht ⊢
      have s11 := up1 (o := HO.tup [V.str "puts", V.ref q]) ht
      have e11 : upd H10 t (HO.tup [V.str "puts", V.ref q]) t = _ := upd_same
      generalize upd H10 t (HO.tup [V.str "puts", V.ref q]) = H11 at s11 e11 ⊢
      have hlp : ps.length = (1 + m8).toNat := by
        have := congrArg List.length hks
        unfold keys at this
        rw [List.length_map, List.length_map, List.length_range] at this
        exact this
      refine k H11 t (.puts ps) _ _ _ ((T9.same s10).same s11) (k9.trans ((Kept.of s10).trans (.of s11))) ⟨q, ts, SqT.of e11, ⟨o, s11 _ _ e10, ho⟩, pmono (fun _ _ h => (h.same s10).same s11) hp'⟩ ⟨by omega, by omega, ?_⟩ trivial
      rw [hks]
      refine List.Pairwise.map (fun j : Nat => x + (j : Int) * st) (fun a b (hab : a ≠ b) e => ?_) List.nodup_range
      have e : x + (a : Int) * st = x + (b : Int) * st := e
      rcases hst with rfl | rfl | rfl | rfl <;> omega
end
end Dk

set_option maxHeartbeats 8000000
/-! what a call does to a table; a table's record -/
namespace Dk
open PySem PySem.Spec PyProof.Rows L2 StX
section
variable {P : Program} {w : World} {K : PySem.W.Frag} {mg : Str → Option Value} {base : Heap}
theorem scDoes : FnScope NDo ["plain", "call"] (defScope sDoes) := ⟨rfl, rfl, rfl, by decide +kernel, rfl, by decide +kernel, by decide +kernel⟩
theorem go_does (F : GT K mg "_law_does" sDoes ["plain", "call"]) (B : Bn mg) : GO P w K mg base CX0 1 "_law_does" ["plain", "call"] (spDoes K) := by
  obtain ⟨f, fd, F, hm, hb⟩ := F
  refine ⟨f, fd, ?_, hm, F.kp, hb⟩
  refine F.ok scDoes (fun vs H Q E h => ?_) (fun cdv A outer s H vs Q E hr h => ?_)
  · obtain ⟨d, c, tb, cl, rfl, _⟩ := h
    rfl
  · obtain ⟨d, c, tb, cl, rfl, hd, hnd, hlen, hc, ok, k⟩ := h
    have nd := scDoes.nd
    have hu := hu_of hr
    have hsl : sizeLine = 16777216 := sizeLine_eq
    refine ⟨_, (pss_cons (ps_set (i := 2) nd rfl (Or.inl rfl) (pe_ix ix_tup (pv 1) pe_int (fun _ _ => rfl)))
  (pss_cons (ps_if (pt_cmpR op_eq (pv 2) pe_str (nomark _))
  (pss_cons (ps_set (i := 3) nd rfl (Or.inl rfl) (pe_callTy call_tuple_of (by rfl) B.tuple (by decide +kernel) (pa_cons (pe_lc (own := [("key", 4), ("value", 5)]) (g := (gTup K 2 (gCons (gName 4) (gCons (gName 5) gNil)))) (tt := tYes) (te := (tDGet1 (tVar 0) (tVar 4))) rfl nd (pi_tup (pe_ix ix_tup (pv 1) pe_int (fun _ _ => rfl))) (blkOk_by (N := ["plain", "call", "kind", "olds", "key", "value", "old"]) (sc := defScope sDoes) (by decide +kernel)) (fun _ _ _ _ _ => (pg_tup (by rfl) (pgs_cons (pg_name (i := 4) nd rfl (Or.inl rfl)) (pgs_cons (pg_name (i := 5) nd rfl (Or.inl rfl)) pgs_nil)))) (fun _ _ _ _ _ => pts_nil) (fun _ _ _ _ _ => (pe_dget1 hu (pv 0) (pv 4) ⟨rfl, rfl, rfl, rfl⟩))) pa_nil)))
  (pss_cons (ps_for PassesOwn.never rfl (pi_tup (pe_ix ix_tup (pv 1) pe_int (fun _ _ => rfl))) (pg_tup (by rfl) (pgs_cons (pg_name (i := 4) nd rfl (Or.inl rfl)) (pgs_cons (pg_name (i := 5) nd rfl (Or.inl rfl)) pgs_nil)))
  (pss_one (ps_dput hu (pv 0) (pv 4) (pv 5) rfl)))
  (pss_one (ps_ret (pv 3)))))
  pss_nil)
  (pss_cons (ps_set (i := 6) nd rfl (Or.inl rfl) (pe_dget1 hu (pv 0) (pe_ix ix_tup (pv 1) pe_int (fun _ _ => rfl)) ⟨rfl, rfl, rfl, rfl⟩))
  (pss_cons (ps_if (pt_cmpR op_eq (pv 2) pe_str (nomark _))
  (pss_one (ps_dput hu (pv 0) (pe_ix ix_tup (pv 1) pe_int (fun _ _ => rfl)) (pe_ix ix_tup (pv 1) pe_int (fun _ _ => rfl)) rfl))
  pss_nil)
  (pss_cons (ps_if (PW.pt (pw_and (pt_cmpR op_eq (pv 2) pe_str (nomark _)) (pw_and1 (pt_cmpR op_notN (pv 6) pe_non (nomark _)))))
  (pss_one (ps_expr (pe_dpop1 (pv 0) (pe_ix ix_tup (pv 1) pe_int (fun _ _ => rfl)) ⟨rfl, rfl, rfl, rfl⟩)))
  pss_nil)
  (pss_cons (ps_if (pt_cmpR op_eq (pv 2) pe_str (nomark _))
  (pss_cons (ps_if (PW.pt (pw_and (pt_cmpR op_notN (pv 6) pe_non (nomark _)) (pw_and1 (pt_cmpR op_eq (pv 6) (pe_ix ix_tup (pv 1) pe_int (fun _ _ => rfl)) (nomark _)))))
  (pss_one (ps_dput hu (pv 0) (pe_ix ix_tup (pv 1) pe_int (fun _ _ => rfl)) (pe_ix ix_tup (pv 1) pe_int (fun _ _ => rfl)) rfl))
  pss_nil)
  (pss_one (ps_ret (pe_and (pe_cmpR op_notN (pv 6) pe_non (nomark _)) (pe_one (pe_cmpR op_eq (pv 6) (pe_ix ix_tup (pv 1) pe_int (fun _ _ => rfl)) (nomark _)))))))
  pss_nil)
  (pss_cons (ps_if (pt_cmpR op_eq (pv 2) pe_str (nomark _))
  (pss_cons (ps_if (PW.pt (pw_or (pt_cmpR op_isN (pv 6) pe_non (nomark _)) (pw_or1 (pt_cmp (pc_din hu (pe_ix ix_tup (pv 1) pe_int (fun _ _ => rfl)) (pv 0))))))
  (pss_one (ps_ret pe_bl))
  pss_nil)
  (pss_cons (ps_dput hu (pv 0) (pe_ix ix_tup (pv 1) pe_int (fun _ _ => rfl)) (pe_dpop1 (pv 0) (pe_ix ix_tup (pv 1) pe_int (fun _ _ => rfl)) ⟨rfl, rfl, rfl, rfl⟩) rfl)
  (pss_one (ps_ret pe_bl))))
  pss_nil)
  (pss_one (ps_ret (pv 6)))))))))), ?_⟩
    have isd : IsD H d := .inl ⟨_, .inl hd⟩
    have get : ∀ x : Int, DGet H d (.int x) (valV (Rt.kvI tb) (Sum.inl x : Key)) := fun x => DGet.k (k := (Sum.inl x : Key)) hd
    have kid : ∀ v, aftOf tb cl = tb → AnsAt K H v (ansOf tb cl) → Q v H := fun v e a => k H v (fun b o e _ => e) (by rw [e]; exact hd) a
    have kup : ∀ tb' v, tb' = aftOf tb cl → AnsAt K (upd H d (.dK (Rt.kvI tb'))) v (ansOf tb cl) → Q v (upd H d (.dK (Rt.kvI tb'))) := fun tb' v e a => k _ v (fun b o e n => by rw [upd_ne n]; exact e) (by rw [upd_same, e]) a
    have ok2 : ∀ {v : Int}, (Rt.kvI tb).length < sizeLine := fun {v} => by rw [kvI_len]; omega
    cases cl with
    | look x =>
      refine ⟨_, rfl, c, _, 0, _, rfl, rfl, hc, at0, _, rfl, rfl, _, rfl, iteND (by decide) ?_⟩
      refine ⟨_, rfl, d, rfl, isd, _, rfl, c, _, 1, _, rfl, rfl, hc, at1, _, get x, ?_⟩
      rw [gV]
      refine ⟨_, rfl, rfl, _, rfl, iteND (by decide) ⟨_, rfl, rfl, _, rfl, iteND (by decide) (iteF ⟨_, rfl, rfl, _, rfl, iteND (by decide) ⟨_, rfl, rfl, _, rfl, iteND (by decide) ⟨_, rfl, kid _ rfl rfl⟩⟩⟩)⟩⟩
    | put x v =>
      refine ⟨_, rfl, c, _, 0, _, rfl, rfl, hc, at0, _, rfl, rfl, _, rfl, iteND (by decide) ?_⟩
      refine ⟨_, rfl, d, rfl, isd, _, rfl, c, _, 1, _, rfl, rfl, hc, at1, _, get x, ?_⟩
      rw [gV]
      refine ⟨_, rfl, rfl, _, rfl, iteD rfl ⟨_, rfl, c, _, 2, _, rfl, rfl, hc, at2, _, rfl, _, rfl, c, _, 1, _, rfl, rfl, hc, at1, d, _, rfl, DPut.k (k := (Sum.inl x : Key)) hd (ok2 (v := 0)), ?_⟩⟩
      rw [putK_kvI]
      refine ⟨_, rfl, rfl, _, rfl, iteND (by decide) (iteF ⟨_, rfl, rfl, _, rfl, iteND (by decide) ⟨_, rfl, rfl, _, rfl, iteND (by decide) ⟨_, rfl, kup _ _ rfl rfl⟩⟩⟩)⟩
    | take x =>
      refine ⟨_, rfl, c, _, 0, _, rfl, rfl, hc, at0, _, rfl, rfl, _, rfl, iteND (by decide) ?_⟩
      refine ⟨_, rfl, d, rfl, isd, _, rfl, c, _, 1, _, rfl, rfl, hc, at1, _, get x, ?_⟩
      rw [gV]
      cases e : tb.lookup x with
      | none =>
        refine ⟨_, rfl, rfl, _, rfl, iteND (by decide) ⟨_, rfl, rfl, _, rfl, iteD rfl ⟨_, rfl, rfl, _, rfl, iteF ⟨_, rfl, rfl, _, rfl, iteND (by decide) ⟨_, rfl, rfl, _, rfl, iteND (by decide) ⟨_, rfl, kid _ (wo_none e) ?_⟩⟩⟩⟩⟩⟩
        show _ = oV (tb.lookup x)
        rw [e]
      | some v =>
        refine ⟨_, rfl, rfl, _, rfl, iteND (by decide) ⟨_, rfl, rfl, _, rfl, iteD rfl ⟨_, rfl, rfl, _, rfl, iteT ⟨_, rfl, d, rfl, isd, _, rfl, c, _, 1, _, rfl, rfl, hc, at1, _, (Sum.inl x : Key), V.int v, hd, rfl, (by rw [valV_kvI, e]; rfl), ?_⟩⟩⟩⟩
        rw [dropK_kvI]
        refine ⟨_, rfl, rfl, _, rfl, iteND (by decide) ⟨_, rfl, rfl, _, rfl, iteND (by decide) ⟨_, rfl, kup _ _ rfl ?_⟩⟩⟩
        show _ = oV (tb.lookup x)
        rw [e]
    | change x o n =>
      refine ⟨_, rfl, c, _, 0, _, rfl, rfl, hc, at0, _, rfl, rfl, _, rfl, iteND (by decide) ?_⟩
      refine ⟨_, rfl, d, rfl, isd, _, rfl, c, _, 1, _, rfl, rfl, hc, at1, _, get x, ?_⟩
      rw [gV]
      refine ⟨_, rfl, rfl, _, rfl, iteND (by decide) ⟨_, rfl, rfl, _, rfl, iteND (by decide) (iteF ⟨_, rfl, rfl, _, rfl, iteD rfl ?_⟩)⟩⟩
      have haft : ∀ q, tb.lookup x = q → aftOf tb (.change x o n) = if q = some o then putI tb x n else tb := fun q e => by rw [← e]; rfl
      have hans : ∀ q, tb.lookup x = q → ansOf tb (.change x o n) = .bl (decide (q = some o)) := fun q e => by rw [← e]; rfl
      cases e : tb.lookup x with
      | none =>
        refine ⟨_, rfl, rfl, _, rfl, iteF ⟨_, rfl, rfl, _, rfl, iteF (kid _ (by rw [haft _ e]; rfl) (by rw [hans _ e]; rfl))⟩⟩
      | some v =>
        refine ⟨_, rfl, rfl, _, rfl, iteT ⟨_, rfl, _, rfl, c, _, 2, _, rfl, rfl, hc, at2, rfl, _, rfl, ?_⟩⟩
        by_cases z : v = o
        · subst z
          refine iteD rfl ⟨_, rfl, c, _, 3, _, rfl, rfl, hc, at3, _, rfl, _, rfl, c, _, 1, _, rfl, rfl, hc, at1, d, _, rfl, DPut.k (k := (Sum.inl x : Key)) hd (ok2 (v := 0)), ?_⟩
          rw [putK_kvI]
          have hd2 : ∀ b u, H b = some u → b ≠ d → upd H d (.dK (Rt.kvI (putI tb x n))) b = some u := fun b u e n => by rw [upd_ne n]; exact e
          have hc2 : CallAt K (upd H d (.dK (Rt.kvI (putI tb x n)))) c (.change x v n) := hc.ext (Kept.extD (a := d) hd2 hd)
          refine ⟨_, rfl, rfl, _, rfl, iteT ⟨_, rfl, _, rfl, c, _, 2, _, rfl, rfl, hc2, at2, rfl, ?_⟩⟩
          rw [show decide (oV (some v) = V.int v) = true from decide_eq_true rfl]
          exact kup _ _ (by rw [haft _ e, if_pos rfl]) (by rw [hans _ e, decide_eq_true rfl]; rfl)
        · have zz : ¬ (oV (some v) = V.int o) := fun h => z (V.int.inj h)
          refine iteND zz ⟨_, rfl, rfl, _, rfl, iteT ⟨_, rfl, _, rfl, c, _, 2, _, rfl, rfl, hc, at2, rfl, ?_⟩⟩
          rw [decide_eq_false zz]
          have z2 : ¬ (some v = some o) := fun h => z (Option.some.inj h)
          exact kid _ (by rw [haft _ e, if_neg z2]) (by rw [hans _ e, decide_eq_false z2]; rfl)
    | move x j =>
      refine ⟨_, rfl, c, _, 0, _, rfl, rfl, hc, at0, _, rfl, rfl, _, rfl, iteND (by decide) ?_⟩
      refine ⟨_, rfl, d, rfl, isd, _, rfl, c, _, 1, _, rfl, rfl, hc, at1, _, get x, ?_⟩
      rw [gV]
      refine ⟨_, rfl, rfl, _, rfl, iteND (by decide) ⟨_, rfl, rfl, _, rfl, iteND (by decide) (iteF ⟨_, rfl, rfl, _, rfl, iteND (by decide) ⟨_, rfl, rfl, _, rfl, iteD rfl ?_⟩⟩)⟩⟩
      have haft : ∀ q r, tb.lookup x = q → tb.lookup j = r → aftOf tb (.move x j) = match q, r with | some v, none => wo tb x ++ [(j, v)] | _, _ => tb := fun q r e e2 => by rw [← e, ← e2]; rfl
      have hans : ∀ q r, tb.lookup x = q → tb.lookup j = r → ansOf tb (.move x j) = .bl (q.isSome && r.isNone) := fun q r e e2 => by rw [← e, ← e2]; rfl
      cases e : tb.lookup x with
      | none =>
        refine ⟨_, rfl, rfl, _, rfl, iteT ?_⟩
        exact kid _ (by rw [haft _ _ e rfl]) (by rw [hans _ _ e rfl]; rfl)
      | some v =>
        refine ⟨_, rfl, rfl, _, rfl, iteF ⟨_, rfl, c, _, 2, _, rfl, rfl, hc, at2, _, rfl, d, _, rfl, get j, ?_⟩⟩
        rw [valV_kvI]
        cases e2 : tb.lookup j with
        | some u => exact ⟨_, rfl, iteT (kid _ (by rw [haft _ _ e e2]) (by rw [hans _ _ e e2]; rfl))⟩
        | none =>
          refine ⟨_, rfl, iteF ?_⟩
          refine ⟨_, rfl, d, rfl, isd, _, rfl, c, _, 1, _, rfl, rfl, hc, at1, _, (Sum.inl x : Key), V.int v, hd, rfl, (by rw [valV_kvI, e]; rfl), ?_⟩
          rw [dropK_kvI]
          have hd2 : ∀ b u, H b = some u → b ≠ d → upd H d (.dK (Rt.kvI (wo tb x))) b = some u := fun b u e n => by rw [upd_ne n]; exact e
          have hc2 : CallAt K (upd H d (.dK (Rt.kvI (wo tb x)))) c (.move x j) := hc.ext (Kept.extD (a := d) hd2 hd)
          have hl : (wo tb x).length ≤ tb.length := List.length_filter_le _ _
          refine ⟨_, rfl, _, rfl, c, _, 2, _, rfl, rfl, hc2, at2, d, _, rfl, DPut.k (k := (Sum.inl j : Key)) upd_same (by rw [kvI_len]; omega), ?_⟩
          rw [putK_kvI, putI_none (wo_look e2), upd_upd]
          exact kup _ _ (by rw [haft _ _ e e2]) (by rw [hans _ _ e e2]; rfl)
    | puts ps =>
      obtain ⟨q, ts, h1, h2, h3⟩ := id hc
      have hln := plen h3
      have hl3 := ok.2.1
      refine ⟨_, rfl, c, _, 0, _, rfl, rfl, h1, at0, _, rfl, rfl, _, rfl, iteD rfl ?_⟩
      refine ⟨_, rfl, c, _, 1, _, rfl, rfl, h1, at1, q, rfl, ⟨_, h2.sq⟩, fun D hD => lc_tup (K := K) (a := q) (xs := ts) (fun i H' => H' D = some (.lst (((ps.take i).map fun p => oV (tb.lookup p.1)))) ∧ Same H H') ⟨upd_same, up1 hD⟩ (fun i H' _ z => h2.sq.same z.2) ?_ ?_⟩
      · rintro i v H' hi ⟨hD', s1⟩
        obtain ⟨p, hp, t, rfl, ht⟩ := pget h3 hi
        have hil : i < ps.length := (List.getElem?_eq_some_iff.mp hp).1
        refine ⟨t, _, rfl, ht.same s1, rfl, _, _, rfl, _, _, rfl, rfl, rfl, _, rfl, d, rfl, .inl ⟨_, .inl (s1 _ _ hd)⟩, _, rfl, _, DGet.k (k := (Sum.inl p.1 : Key)) (s1 _ _ hd), ?_⟩
        rw [gV]
        refine ⟨_, hD', (by rw [List.length_map, List.length_take]; omega), ?_, fun b o e => by rw [upd_ne (ne_of_none e hD)]; exact s1 b o e⟩
        rw [upd_same, List.take_succ_eq_append_getElem hil, List.map_append]
        have : ps[i] = p := by rw [List.getElem?_eq_getElem hil] at hp; exact Option.some.inj hp
        rw [this]
        rfl
      · rintro H1 ⟨hD', s1⟩
        rw [hln, List.take_length] at hD'
        refine ⟨D, _, rfl, .inl ⟨SqL.of hD', fun l hl => ?_⟩⟩
        have s2 := s1.trans (up1 (o := HO.tup (ps.map fun p => oV (tb.lookup p.1))) hl)
        have e2 : upd H1 l (HO.tup (ps.map fun p => oV (tb.lookup p.1))) l = _ := upd_same
        generalize upd H1 l (HO.tup (ps.map fun p => oV (tb.lookup p.1))) = H2 at s2 e2 ⊢
        have hd2 := s2 _ _ hd
        have hl_d : l ≠ d := ne_of e2 hd2 (by intro z; cases z)
        have x2 : ExT H H2 := .of s2
        refine ⟨_, rfl, c, _, 1, _, rfl, rfl, h1.same s2, at1, q, rfl, ⟨_, h2.sq.same s2⟩, for_tup (K := K) (a := q) (xs := ts) (fun i σ H' => ∃ x4 x5, σ = [some (.ref d), some (.ref c), some (.str "puts"), some (.ref l), x4, x5, none] ∧ H' d = some (.dK (Rt.kvI (putAll tb (ps.take i)))) ∧ Kept d H2 H') ⟨_, _, rfl, hd2, fun b o e _ => e⟩ (fun i σ H' _ z => by obtain ⟨_, _, _, _, s⟩ := z; exact (h2.sq.same s2).extT (Kept.extD s hd2)) ?_ ?_⟩
        · rintro i v σ H' hi ⟨x4, x5, rfl, hd', s⟩
          obtain ⟨n, hn, t, rfl, ht⟩ := pget h3 hi
          have hil : i < ps.length := (List.getElem?_eq_some_iff.mp hn).1
          have hl5 := putAll_len (ps := ps.take i) (t := tb)
          rw [List.length_take] at hl5
          refine ⟨t, _, rfl, (ht.same s2).extT (Kept.extD s hd2), rfl, _, _, rfl, _, _, rfl, rfl, _, rfl, _, rfl, _, rfl, d, _, rfl, DPut.k (k := (Sum.inl n.1 : Key)) hd' (by rw [kvI_len]; omega), ?_⟩
          rw [putK_kvI]
          refine ⟨_, _, rfl, ?_, fun b o e n => by rw [upd_ne n]; exact s b o e n⟩
          rw [upd_same, List.take_succ_eq_append_getElem hil]
          have : ps[i] = n := by rw [List.getElem?_eq_getElem hil] at hn; exact Option.some.inj hn
          rw [this]
          unfold putAll
          rw [List.foldl_append]
          rfl
        · rintro σ H' ⟨x4, x5, rfl, hd', s⟩
          rw [hln, List.take_length] at hd'
          refine ⟨_, rfl, k H' _ (fun b o e n => s b o (s2 _ _ e) n) hd' ⟨l, rfl, ?_⟩⟩
          refine SqT.of ?_
          have := s _ _ e2 hl_d
          rw [this, List.map_map]
          rfl
theorem scRecd : FnScope ["plain", "bucket", "key"] ["plain", "bucket"] (defScope sRecd) := ⟨rfl, rfl, rfl, by decide +kernel, rfl, by decide +kernel, by decide +kernel⟩
theorem go_recd (F : GT K mg "_law_record" sRecd ["plain", "bucket"]) (B : Bn mg) : GO P w K mg base CX0 1 "_law_record" ["plain", "bucket"] (spRe K) := by
  obtain ⟨f, fd, F, hm, hb⟩ := F
  refine ⟨f, fd, ?_, hm, F.kp, hb⟩
  refine F.ok scRecd (fun vs H Q E h => ?_) (fun cdv A outer s H vs Q E hr h => ?_)
  · obtain ⟨d, b, tb, rfl, _⟩ := h
    rfl
  · obtain ⟨d, b, tb, rfl, hd, hnd, hlen, k⟩ := h
    have nd := scRecd.nd
    have hu := hu_of hr
    have hsl : sizeLine = 16777216 := sizeLine_eq
    refine ⟨_, (pss_one (ps_ret (pe_tup (pa_cons pe_str (pa_cons (pe_callTy call_tuple_of (by rfl) B.tuple (by decide +kernel) (pa_cons (pe_callB cr_sortedPO (by rfl) B.sorted (by decide +kernel) (pa_cons (pe_lock (pe_lc (own := [("key", 2)]) (g := (gName 2)) (tt := tTest (tOp rEq (tOp (rI (fun _ j => 0 < j) fun i j => .int (i % j)) (tVar 2) (tC (.int 4))) (tVar 1))) rfl nd (pi_keys (pv 0)) (blkOk_by (N := ["plain", "bucket", "key"]) (sc := defScope sRecd) (by decide +kernel)) (fun _ _ _ _ _ => (pg_name (i := 2) nd rfl (Or.inl rfl))) (fun _ _ _ _ _ => pts_one (pt_cmpR op_eq (pe_op op_mod (pv 2) pe_int) (pv 1) (nomark _))) (fun _ _ _ _ _ => (pe_tup (pa_cons (pv 2) (pa_cons (pe_dget hu (pv 0) (pv 2) (fun _ _ => rfl)) pa_nil)))))) pa_nil)) pa_nil)) pa_nil))))), ?_⟩
    refine ⟨d, _, hd, trivial, fun od => ?_⟩
    have hd1 : upd H d (.frz od (.dK (Rt.kvI tb))) d = _ := upd_same
    have off : ∀ c, c ≠ d → upd H d (.frz od (.dK (Rt.kvI tb))) c = H c := fun c n => upd_ne n
    generalize upd H d (.frz od (.dK (Rt.kvI tb))) = H1 at hd1 off ⊢
    have hlk : (Rt.kvI tb).length = tb.length := kvI_len tb
    refine ⟨_, rfl, d, od, rfl, .inl ⟨_, hd1, fun D hD => lc_it (walk_keys (d := d) (o := od) (kvs := Rt.kvI tb)) (fun i H' => ∃ us, H' D = some (.lst us) ∧ us.length ≤ i ∧ PrsV H' us ((inB (tb.take i) b).map vp) ∧ Same H1 H') ⟨[], upd_same, Nat.le_refl _, .nil, up1 hD⟩ (fun i H' _ z => by obtain ⟨_, _, _, _, s⟩ := z; exact s _ _ hd1) ?_ ?_⟩⟩
    · rintro i x H' H'' hi ⟨us, hD', hul, hus, s1⟩ ⟨rfl, kk, vv, hkv, rfl⟩
      have hil : i < tb.length := by omega
      have ekv : kk = (Sum.inl tb[i].1 : Key) ∧ vv = V.int tb[i].2 := by
        unfold Rt.kvI at hkv
        rw [List.getElem?_map, List.getElem?_eq_getElem hil] at hkv
        cases hkv
        exact ⟨rfl, rfl⟩
      obtain ⟨rfl, rfl⟩ := ekv
      have etk : inB (tb.take (i + 1)) b = inB (tb.take i) b ++ (if tb[i].1 % 4 = b then [tb[i]] else []) := by
        unfold inB
        rw [List.take_succ_eq_append_getElem hil, List.filter_append]
        by_cases c : tb[i].1 % 4 = b
        · rw [if_pos c, List.filter_cons, if_pos (decide_eq_true c)]; rfl
        · rw [if_neg c, List.filter_cons, if_neg (by simp [c])]; rfl
      have hval : valV (Rt.kvI tb) (Sum.inl tb[i].1 : Key) = some (V.int tb[i].2) := by
        have e1 : tb.lookup tb[i].1 = some tb[i].2 := (lookup_mem hnd).mpr (List.getElem_mem hil)
        rw [valV_kvI, e1]
        rfl
      have hdf := s1 _ _ hd1
      rw [etk, List.map_append]
      generalize tb[i] = n at *
      refine ⟨rfl, _, rfl, _, _, rfl, rfl, (by show (0 : Int) < 4; decide), _, rfl, rfl, _, rfl, ?_⟩
      by_cases c : n.1 % 4 = b
      · refine iteD (congrArg V.int c) ?_
        have g : DGet H'' d (.int n.1) (some (.int n.2)) := .inl ⟨_, (Sum.inl n.1 : Key), .inr ⟨_, hdf⟩, rfl, hval.symm⟩
        refine ⟨_, rfl, _, rfl, _, rfl, d, _, rfl, g, (by show 2 ≤ sizeLine; omega), fun t ht => ?_⟩
        have s2 : Same H'' _ := up1 (o := HO.tup [kV (Sum.inl n.1 : Key), V.int n.2]) ht
        have e2 : upd H'' t (HO.tup [kV (Sum.inl n.1 : Key), V.int n.2]) t = _ := upd_same
        generalize upd H'' t (HO.tup [kV (Sum.inl n.1 : Key), V.int n.2]) = H2 at s2 e2 ⊢
        have x3 : ExT H2 (upd H2 D (.lst (us ++ [.ref t]))) := Kept.ext (a := D) (fun b o e n => by rw [upd_ne n]; exact e) (s2 _ _ hD')
        refine ⟨us, s2 _ _ hD', by omega, us ++ [.ref t], upd_same, (by rw [List.length_append, List.length_singleton]; omega), ?_, fun b o e => by rw [upd_ne (ne_of_none e hD)]; exact s2 _ _ (s1 b o e)⟩
        rw [if_pos c]
        refine papp ((hus.same s2).ext x3) (.cons ⟨t, rfl, ?_, ⟨_, .flat rfl⟩, _, .flat rfl⟩ .nil)
        exact x3.1 _ _ e2
      · refine iteND (fun e => c (V.int.inj e)) ⟨us, hD', by omega, ?_, s1⟩
        rw [if_neg c]
        simpa using hus
    · rintro H2 ⟨us, hD2, hul, hus, s1⟩
      rw [hlk, List.take_length] at hus
      refine ⟨s1 _ _ hd1, ?_⟩
      have D_d : D ≠ d := fun z => by rw [z, hd1] at hD; cases hD
      have s3 : Same H (upd H2 d (.dK (Rt.kvI tb))) := fun c o e => by
        by_cases hcd : c = d
        · subst hcd
          rw [upd_same, ← e, hd]
        · rw [upd_ne hcd]
          exact s1 _ _ (by rw [off c hcd]; exact e)
      have hD3 : upd H2 d (.dK (Rt.kvI tb)) D = some (.lst us) := by rw [upd_ne D_d]; exact hD2
      have hus3 : PrsV (upd H2 d (.dK (Rt.kvI tb))) us ((inB tb b).map vp) := hus.ext ⟨fun c xs e => by
        rw [upd_ne fun z => by rw [z, s1 _ _ hd1] at e; cases e]; exact e, fun c o xs e => by
        rw [upd_ne fun z => by rw [z, s1 _ _ hd1] at e; cases e]; exact e⟩
      generalize upd H2 d (.dK (Rt.kvI tb)) = H3 at s3 hD3 hus3 ⊢
      have ek : us.map (kH H3) = inB tb b := pmap_k hus3
      have hmem : ∀ x ∈ us, ∃ n, PairV H3 x (vp n) := fun x hx => by
        obtain ⟨p, hp, hf⟩ := pmem hus3 x hx
        obtain ⟨n, _, rfl⟩ := List.mem_map.mp hp
        exact ⟨n, hf⟩
      refine ⟨D, _, kH H3, rfl, SqL.of hD3, fun x hx => ?_, fun ys p srt stb hp => ?_⟩
      · obtain ⟨n, t, rfl, ht, _⟩ := hmem x hx
        exact ⟨t, rfl, by rw [kH_eq ht]; exact ht⟩
      · have s34 := up1 (o := HO.lst ys) hp
        have e4 : upd H3 p (HO.lst ys) p = _ := upd_same
        generalize upd H3 p (HO.lst ys) = H4 at s34 e4 ⊢
        refine ⟨p, _, rfl, .inl ⟨SqL.of e4, fun z hz => ⟨(by show 2 ≤ sizeLine; omega), fun x hx => ?_⟩⟩⟩
        have s45 := s34.trans (up1 (o := HO.tup ys) hz)
        have e5 : upd H4 z (HO.tup ys) z = _ := upd_same
        generalize upd H4 z (HO.tup ys) = H5 at s45 e5 hx ⊢
        have pys : PrsV H3 ys ((ys.map (kH H3)).map vp) := prs_of fun y hy => hmem y (stb.perm.mem_iff.mp hy)
        refine k _ x (ys.map (kH H3)) ((s3.trans s45).trans (up1 hx)) ⟨z, ys, SqT.of upd_same, SqT.of (up1 hx _ _ e5), (pys.same s45).same (up1 hx)⟩ ?_ (List.pairwise_map.mpr srt)
        have := stb.perm.map (kH H3)
        rw [ek] at this
        exact this
end
end Dk

set_option maxHeartbeats 4000000
/-! tables, records, plans: what holds of them -/
namespace Dk
open PySem PySem.Spec PyProof.Rows L2 StX
theorem lex_uniq {a b : Tb} (hp : a.Perm b) (ha : Srtd a) (hb : Srtd b) : a = b := by
  have anti : ∀ x y : Int × Int, SrtO.lexB y x = false → SrtO.lexB x y = false → x = y := fun x y h1 h2 => by
    have h1 := SrtO.lexB_no.mp h1
    have h2 := SrtO.lexB_no.mp h2
    exact Prod.ext (by omega) (by omega)
  exact hp.eq_of_pairwise (fun x y _ _ h1 h2 => anti x y h1 h2) ha hb
theorem inB_nd {t : Tb} {b : Int} (h : (keys t).Nodup) : (keys (inB t b)).Nodup := h.sublist (List.filter_sublist.map _)
theorem inB_len {t : Tb} {b : Int} : (inB t b).length ≤ t.length := List.length_filter_le _ _
theorem inB_look {k : Int} : ∀ {t : Tb}, (inB t (k % 4)).lookup k = t.lookup k
  | [] => rfl
  | (k', v') :: t => by
    unfold inB
    rw [List.filter_cons]
    by_cases c : k' % 4 = k % 4
    · rw [if_pos (decide_eq_true c), List.lookup_cons, List.lookup_cons]
      have ih := inB_look (k := k) (t := t)
      unfold inB at ih
      rw [ih]
    · rw [if_neg (by simp [c]), List.lookup_cons, beq_false_of_ne (fun z => c (by rw [z]))]
      exact inB_look
/-- what the records hold -/
def RecOf (tb : Tb) (nn : Int → Tb) (b : Int) : Prop := (nn b).Perm (inB tb b)
theorem rec_look {tb : Tb} {nn : Int → Tb} {k : Int} (hnd : (keys tb).Nodup) (h : RecOf tb nn (k % 4)) : (nn (k % 4)).lookup k = tb.lookup k := by
  rw [lookup_perm h (inB_nd hnd), inB_look]
theorem os_of {tb : Tb} {nn : Int → Tb} {cl : Cl} (hnd : (keys tb).Nodup) (h : ∀ k ∈ keysOf cl, RecOf tb nn (k % 4)) : osOf cl nn = (keysOf cl).map fun k => tb.lookup k := List.map_congr_left fun k hk => rec_look hnd (h k hk)
def osT (tb : Tb) (cl : Cl) : Os := (keysOf cl).map fun k => tb.lookup k
theorem ans_of (tb : Tb) (cl : Cl) : ansBy cl (osT tb cl) = ansOf tb cl := by
  cases cl with
  | puts ps =>
    show Ans.tup ((keys ps).map fun k => tb.lookup k) = Ans.tup (ps.map fun p => tb.lookup p.1)
    unfold keys
    rw [List.map_map]
    rfl
  | _ => rfl
theorem putI_same {k v : Int} : ∀ {t : Tb}, (keys t).Nodup → t.lookup k = some v → putI t k v = t := fun {t} nd h => by
  have hm := (lookup_mem nd).mp h
  unfold putI
  rw [if_pos (List.any_eq_true.mpr ⟨_, hm, decide_eq_true rfl⟩)]
  have : t.map (fun n => if n.1 = k then (n.1, v) else n) = t.map id := List.map_congr_left fun n hn => by
    by_cases c : n.1 = k
    · rw [if_pos c]
      have h2 := (lookup_mem nd).mpr (show (n.1, n.2) ∈ t from hn)
      rw [c, h] at h2
      rw [Option.some.inj h2]
      rfl
    · rw [if_neg c]
      rfl
  rw [this, List.map_id]
theorem putAll_same : ∀ {ps t : Tb}, (keys t).Nodup → (∀ p ∈ ps, t.lookup p.1 = some p.2) → putAll t ps = t
  | [], _, _, _ => rfl
  | p :: ps, t, nd, h => by
    show putAll (putI t p.1 p.2) ps = t
    rw [putI_same nd (h p List.mem_cons_self)]
    exact putAll_same nd fun q hq => h q (List.mem_cons_of_mem _ hq)
theorem map_eq_all {f g : Int × Int → Option Int} : ∀ {ps : Tb}, ps.map f = ps.map g → ∀ p ∈ ps, f p = g p
  | [], _, p, hp => by cases hp
  | q :: ps, h, p, hp => by
    rw [List.map_cons, List.map_cons] at h
    obtain ⟨h1, h2⟩ := List.cons.inj h
    rcases List.mem_cons.mp hp with e | hp
    · rw [e]; exact h1
    · exact map_eq_all h2 p hp
theorem osT_puts (tb ps : Tb) : osT tb (.puts ps) = ps.map fun p => tb.lookup p.1 := by
  show (keys ps).map _ = _
  unfold keys
  rw [List.map_map]
  rfl
/-- a reason: nothing changes -/
theorem reason_some {tb : Tb} {cl : Cl} {x : Int} (hnd : (keys tb).Nodup) (h : reasonOf cl (osT tb cl) = some x) : aftOf tb cl = tb ∧ x ∈ keysOf cl := by
  cases cl with
  | look k =>
    cases h
    exact ⟨rfl, List.mem_singleton.mpr rfl⟩
  | put k v =>
    have h : (if tb.lookup k = some v then some k else none) = some x := h
    by_cases c : tb.lookup k = some v
    · rw [if_pos c] at h
      cases h
      exact ⟨putI_same hnd c, List.mem_singleton.mpr rfl⟩
    · rw [if_neg c] at h
      cases h
  | take k =>
    have h : (if tb.lookup k = none then some k else none) = some x := h
    by_cases c : tb.lookup k = none
    · rw [if_pos c] at h
      cases h
      exact ⟨wo_none c, List.mem_singleton.mpr rfl⟩
    · rw [if_neg c] at h
      cases h
  | change k o n =>
    have h : (if tb.lookup k ≠ some o ∨ n = o then some k else none) = some x := h
    by_cases c : tb.lookup k ≠ some o ∨ n = o
    · rw [if_pos c] at h
      cases h
      refine ⟨?_, List.mem_singleton.mpr rfl⟩
      show (if tb.lookup x = some o then putI tb x n else tb) = tb
      by_cases c2 : tb.lookup x = some o
      · rw [if_pos c2]
        rcases c with c | c
        · exact absurd c2 c
        · rw [c]
          exact putI_same hnd c2
      · rw [if_neg c2]
    · rw [if_neg c] at h
      cases h
  | move k j =>
    have h : mvR k j [tb.lookup k, tb.lookup j] = some x := h
    have ea : aftOf tb (.move k j) = match tb.lookup k, tb.lookup j with | some v, none => wo tb k ++ [(j, v)] | _, _ => tb := rfl
    rw [ea]
    cases e1 : tb.lookup k with
    | none =>
      rw [e1] at h
      cases h
      exact ⟨rfl, List.mem_cons_self⟩
    | some v =>
      cases e2 : tb.lookup j with
      | none => rw [e1, e2] at h; cases h
      | some u =>
        rw [e1, e2] at h
        cases h
        exact ⟨rfl, List.mem_cons_of_mem _ List.mem_cons_self⟩
  | puts ps =>
    rw [osT_puts] at h
    have h : (if (ps.map fun p => tb.lookup p.1) = ps.map (fun p => some p.2) ∧ oneB (.puts ps) = true then (keys ps).head? else none) = some x := h
    by_cases c : (ps.map fun p => tb.lookup p.1) = ps.map (fun p => some p.2) ∧ oneB (.puts ps) = true
    · rw [if_pos c] at h
      exact ⟨putAll_same hnd (map_eq_all c.1), List.mem_of_head? h⟩
    · rw [if_neg c] at h
      cases h
/-- the whole table, item by item -/
def stpAll (t : Tb) (is : List It) : Tb := is.foldl (fun t n => stp t n.1 n.2) t
theorem wo_inB {t : Tb} {k b : Int} : inB (wo t k) b = wo (inB t b) k := by
  unfold inB wo
  rw [List.filter_filter, List.filter_filter]
  congr 1
  funext n
  exact Bool.and_comm _ _
theorem stp_inB {t : Tb} {k b : Int} {o : Option Int} : inB (stp t k o) b = if k % 4 = b then stp (inB t b) k o else inB t b := by
  have off : k % 4 ≠ b → wo (inB t b) k = inB t b := fun c => wo_not fun z => by
    obtain ⟨n, hn, e⟩ := List.mem_map.mp z
    have := of_decide_eq_true (List.mem_filter.mp hn).2
    have e : n.1 = k := e
    rw [e] at this
    exact c this
  cases o with
  | none =>
    show inB (wo t k) b = _
    rw [wo_inB]
    by_cases c : k % 4 = b
    · rw [if_pos c]; rfl
    · rw [if_neg c]; exact off c
  | some v =>
    show inB (wo t k ++ [(k, v)]) b = _
    have : inB (wo t k ++ [(k, v)]) b = inB (wo t k) b ++ inB [(k, v)] b := List.filter_append ..
    rw [this, wo_inB]
    by_cases c : k % 4 = b
    · rw [if_pos c]
      have : inB [(k, v)] b = [(k, v)] := by unfold inB; rw [List.filter_cons, if_pos (decide_eq_true c)]; rfl
      rw [this]
      rfl
    · rw [if_neg c]
      have : inB [(k, v)] b = [] := by unfold inB; rw [List.filter_cons, if_neg (by simp [c])]; rfl
      rw [this, List.append_nil]
      exact off c
theorem wi_inB {b : Int} : ∀ {is : List It} {t : Tb}, wi (inB t b) b is = inB (stpAll t is) b
  | [], t => rfl
  | n :: is, t => by
    have e : stpAll t (n :: is) = stpAll (stp t n.1 n.2) is := rfl
    rw [wi_cons, e, ← wi_inB, stp_inB]
    by_cases c : n.1 % 4 = b
    · rw [if_pos c, if_pos c]
    · rw [if_neg c, if_neg c]
theorem stpAll_perm : ∀ {is : List It} {a c : Tb}, a.Perm c → (stpAll a is).Perm (stpAll c is)
  | [], _, _, p => p
  | n :: is, a, c, p => stpAll_perm (is := is) (stp_perm p)
theorem putAll_perm : ∀ {ps t : Tb}, (keys t).Nodup → (putAll t ps).Perm (stpAll t (ps.map fun p => (p.1, some p.2)))
  | [], _, _ => .refl _
  | p :: ps, t, nd => by
    show (putAll (putI t p.1 p.2) ps).Perm (stpAll (stp t p.1 (some p.2)) (ps.map fun p => (p.1, some p.2)))
    exact (putAll_perm (putI_nd nd)).trans (stpAll_perm (putI_perm nd))
theorem aft_perm {tb : Tb} {cl : Cl} (hnd : (keys tb).Nodup) (h : reasonOf cl (osT tb cl) = none) : (aftOf tb cl).Perm (stpAll tb (itemsOf cl (osT tb cl))) := by
  cases cl with
  | look k => cases h
  | put k v => exact putI_perm hnd
  | take k => exact .refl _
  | change k o n =>
    have h : (if tb.lookup k ≠ some o ∨ n = o then some k else none) = none := h
    show (if tb.lookup k = some o then putI tb k n else tb).Perm (stp tb k (some n))
    by_cases c : tb.lookup k = some o
    · rw [if_pos c]
      exact putI_perm hnd
    · rw [if_pos (.inl c)] at h
      cases h
  | move k j =>
    have h : mvR k j [tb.lookup k, tb.lookup j] = none := h
    have ea : aftOf tb (.move k j) = match tb.lookup k, tb.lookup j with | some v, none => wo tb k ++ [(j, v)] | _, _ => tb := rfl
    have ei : itemsOf (.move k j) (osT tb (.move k j)) = [(k, none), (j, tb.lookup k)] := rfl
    rw [ea, ei]
    cases e1 : tb.lookup k with
    | none => rw [e1] at h; cases h
    | some v =>
      cases e2 : tb.lookup j with
      | some u => rw [e1, e2] at h; cases h
      | none =>
        show (wo tb k ++ [(j, v)]).Perm (wo (wo tb k) j ++ [(j, v)])
        rw [wo_none (wo_look e2)]
  | puts ps => exact putAll_perm hnd
/-- no reason: each record is the one of the table behind the call -/
theorem rec_next {tb : Tb} {cl : Cl} {nn : Int → Tb} {b : Int} {ms ms' : Tb} (hnd : (keys tb).Nodup) (h : reasonOf cl (osT tb cl) = none) (hr : RecOf tb nn b) (hm : ms.Perm (wi (nn b) b (itemsOf cl (osT tb cl)))) (hs : Srtd ms)
    (hm' : ms'.Perm (inB (aftOf tb cl) b)) (hs' : Srtd ms') : ms = ms' := by
  refine lex_uniq ?_ hs hs'
  refine hm.trans ((wi_perm hr).trans ?_)
  rw [wi_inB]
  exact ((aft_perm hnd h).symm.filter _).trans hm'.symm
theorem eq_no {a t : Tb} {k v : Int} (hm : (k, v) ∈ a) (h : t.lookup k ≠ some v) : Sr.eqTb a t = false := by
  unfold Sr.eqTb
  rw [Bool.and_eq_false_iff]
  refine .inr (List.all_eq_false.mpr ⟨_, hm, fun z => h ?_⟩)
  exact eq_of_beq z
theorem putI_mem {t : Tb} {k v : Int} (hnd : (keys t).Nodup) : (k, v) ∈ putI t k v := (putI_perm hnd).mem_iff.mpr (List.mem_append_right _ List.mem_cons_self)
theorem putI_keep {t : Tb} {k v a c : Int} (hnd : (keys t).Nodup) (hm : (a, c) ∈ t) (n : a ≠ k) : (a, c) ∈ putI t k v := (putI_perm hnd).mem_iff.mpr (List.mem_append_left _ (List.mem_filter.mpr ⟨hm, by simp [n]⟩))
theorem putAll_keep : ∀ {ps t : Tb} {a c : Int}, (keys t).Nodup → (a, c) ∈ t → a ∉ keys ps → (a, c) ∈ putAll t ps
  | [], _, _, _, _, h, _ => h
  | p :: ps, t, a, c, nd, h, n => putAll_keep (ps := ps) (putI_nd nd) (putI_keep nd h fun z => n (by rw [z]; exact List.mem_cons_self)) fun z => n (List.mem_cons_of_mem _ z)
theorem putAll_mem : ∀ {ps t : Tb}, (keys t).Nodup → (keys ps).Nodup → ∀ p ∈ ps, p ∈ putAll t ps
  | [], _, _, _, p, hp => by cases hp
  | q :: ps, t, nd, np, p, hp => by
    have np' : q.1 ∉ keys ps ∧ (keys ps).Nodup := List.nodup_cons.mp np
    rcases List.mem_cons.mp hp with e | hp
    · subst e
      exact putAll_keep (ps := ps) (putI_nd nd) (putI_mem nd) np'.1
    · exact putAll_mem (ps := ps) (putI_nd nd) np'.2 p hp
theorem wo_len {k v : Int} : ∀ {t : Tb}, t.lookup k = some v → (wo t k).length < t.length
  | [], h => by cases h
  | (k', v') :: t, h => by
    rw [List.lookup_cons] at h
    by_cases c : k = k'
    · have e1 : wo ((k', v') :: t) k = wo t k := by unfold wo; rw [List.filter_cons, if_neg (by simp [c])]
      rw [e1, List.length_cons]
      have : (wo t k).length ≤ t.length := List.length_filter_le _ _
      omega
    · rw [beq_false_of_ne c] at h
      have e1 : wo ((k', v') :: t) k = (k', v') :: wo t k := by unfold wo; rw [List.filter_cons, if_pos (by simp; exact fun z => c z.symm)]
      have := wo_len h
      rw [e1, List.length_cons, List.length_cons]
      omega
/-- no reason, one bucket: something changes -/
theorem reason_none {tb : Tb} {cl : Cl} (hnd : (keys tb).Nodup) (ok : cl.ok) (h : reasonOf cl (osT tb cl) = none) (h1 : oneB cl = true) : Sr.eqTb (aftOf tb cl) tb = false := by
  cases cl with
  | look k => cases h
  | put k v =>
    have h : (if tb.lookup k = some v then some k else none) = none := h
    by_cases c : tb.lookup k = some v
    · rw [if_pos c] at h; cases h
    · exact eq_no (putI_mem hnd) c
  | take k =>
    have h : (if tb.lookup k = none then some k else none) = none := h
    cases c : tb.lookup k with
    | none => rw [if_pos c] at h; cases h
    | some v =>
      have : (wo tb k).length < tb.length := wo_len c
      show (List.length (wo tb k) == List.length tb && _) = false
      rw [Bool.and_eq_false_iff]
      refine .inl (beq_false_of_ne (by omega))
  | change k o n =>
    have h : (if tb.lookup k ≠ some o ∨ n = o then some k else none) = none := h
    by_cases c : tb.lookup k ≠ some o ∨ n = o
    · rw [if_pos c] at h; cases h
    · have c1 : tb.lookup k = some o := Classical.byContradiction fun z => c (.inl z)
      have c2 : n ≠ o := fun z => c (.inr z)
      have ea : aftOf tb (.change k o n) = putI tb k n := by
        show (if tb.lookup k = some o then putI tb k n else tb) = _
        rw [if_pos c1]
      rw [ea]
      exact eq_no (putI_mem hnd) (by rw [c1]; exact fun z => c2 (Option.some.inj z).symm)
  | move k j =>
    have h : mvR k j [tb.lookup k, tb.lookup j] = none := h
    have ea : aftOf tb (.move k j) = match tb.lookup k, tb.lookup j with | some v, none => wo tb k ++ [(j, v)] | _, _ => tb := rfl
    rw [ea]
    cases e1 : tb.lookup k with
    | none => rw [e1] at h; cases h
    | some v =>
      cases e2 : tb.lookup j with
      | some u => rw [e1, e2] at h; cases h
      | none => exact eq_no (k := j) (v := v) (List.mem_append_right _ List.mem_cons_self) (by rw [e2]; exact nofun)
  | puts ps =>
    rw [osT_puts] at h
    have h : (if (ps.map fun p => tb.lookup p.1) = ps.map (fun p => some p.2) ∧ oneB (.puts ps) = true then (keys ps).head? else none) = none := h
    by_cases c : (ps.map fun p => tb.lookup p.1) = ps.map (fun p => some p.2)
    · rw [if_pos ⟨c, h1⟩] at h
      have := ok.1
      cases ps with
      | nil => cases this
      | cons p ps => cases h
    · have : ∃ p ∈ ps, tb.lookup p.1 ≠ some p.2 := Classical.byContradiction fun z => c (List.map_congr_left fun p hp => Classical.byContradiction fun z2 => z ⟨p, hp, z2⟩)
      obtain ⟨p, hp, hne⟩ := this
      exact eq_no (k := p.1) (v := p.2) (putAll_mem hnd ok.2.2 p hp) hne
end Dk

set_option maxHeartbeats 8000000
/-! a plan told alone -/
namespace Dk
open PySem PySem.Spec PyProof.Rows L2 StX
abbrev sAlone : Stmt := top 28
abbrev NAl : List Str := ["call", "wish", "records", "others", "bucket", "told", "key"]
def full (b : Int) : Tb := (List.range 10).map fun j : Nat => (b + (j : Int) * 4, 1)
theorem full_srt (b : Int) : Srtd (full b) := by
  refine List.pairwise_map.mpr (List.pairwise_lt_range.imp fun {i j} h => ?_)
  refine SrtO.lexB_no.mpr ?_
  show ¬ (b + (j : Int) * 4 < b + (i : Int) * 4 ∨ _)
  omega
theorem rgC {b : Int} (h0 : 0 ≤ b) (h4 : b < 4) : RgC b 40 4 10 := by
  rcases (show b = 0 ∨ b = 1 ∨ b = 2 ∨ b = 3 by omega) with rfl | rfl | rfl | rfl <;> exact ⟨by decide, by decide, by decide, by decide⟩
/-- an answer as data -/
def ansE : Ans → PyData
  | .bl b => .bool b
  | .val o => oD o
  | .tup os => .tuple (os.map oD)
theorem ansE_ok (a : Ans) : PyData.canLay0 (ansE a) = true ∧ PyData.depth (ansE a) ≤ 3 := by
  cases a with
  | bl b => exact ⟨by simp [ansE, PyData.canLay0], by simp [ansE, PyData.depth]⟩
  | val o => cases o <;> exact ⟨by simp [ansE, oD, PyData.canLay0], by simp [ansE, oD, PyData.depth]⟩
  | tup os =>
    have h := oD_depth os
    refine ⟨by simp only [ansE, PyData.canLay0]; exact oD_lay os, ?_⟩
    simp only [ansE, PyData.depth]
    omega
theorem AnsAt.dp {K : PySem.W.Frag} {H : Hp} {v : V} {a : Ans} (h : AnsAt K H v a) : Dp K H v (ansE a) := by
  cases a with
  | bl b =>
    have h : v = _ := h
    subst h
    exact .bl b
  | val o =>
    have h : v = _ := h
    subst h
    cases o with
    | none => exact .non
    | some i => exact .int i
  | tup os =>
    obtain ⟨t, rfl, h⟩ := h
    exact .tup h (oD_all os)
theorem shaped_of {d : PyData} (h1 : PyData.canLay0 d = true) (h2 : PyData.depth d ≤ 64) : SeqAt.shaped d = true := by
  show (PyData.canLay0 d && decide (PyData.depth d ≤ 64)) = true
  rw [Bool.and_eq_true]
  exact ⟨h1, decide_eq_true h2⟩
theorem eqv_sh {d : PyData} (h : SeqAt.shaped d = true) : PyData.eqv d d = true := SeqAt.eqv_refl _ (SeqAt.canLay_of_shaped h)
theorem two_sh (a : Ans) : SeqAt.shaped (.tuple [.str "answer", ansE a]) = true := by
  obtain ⟨h1, h2⟩ := ansE_ok a
  refine shaped_of ?_ ?_
  · simp only [PyData.canLay0, PyData.canLayAll0, h1, Bool.and_true]
    decide +kernel
  · simp only [PyData.depth, PyData.depthAll]
    omega
theorem three_sh (a : Ans) (i : Int) : SeqAt.shaped (.tuple [.str "answer", ansE a, .int i]) = true := by
  obtain ⟨h1, h2⟩ := ansE_ok a
  refine shaped_of ?_ ?_
  · simp only [PyData.canLay0, PyData.canLayAll0, h1, Bool.and_true]
    decide +kernel
  · simp only [PyData.depth, PyData.depthAll]
    omega
def notMove : Cl → Prop
  | .move _ _ => False
  | _ => True
theorem one_bucket {cl : Cl} {os : Os} {x : Int} (hm : notMove cl) (h : reasonOf cl os = some x) : ∀ k ∈ keysOf cl, k % 4 = x % 4 := by
  cases cl with
  | move k j => exact hm.elim
  | look k => cases h; intro a ha; rw [List.mem_singleton.mp ha]
  | put k v =>
    have h : (if os.getD 0 none = some v then some k else none) = some x := h
    split at h
    · cases h; intro a ha; rw [List.mem_singleton.mp ha]
    · cases h
  | take k =>
    have h : (if os.getD 0 none = none then some k else none) = some x := h
    split at h
    · cases h; intro a ha; rw [List.mem_singleton.mp ha]
    · cases h
  | change k o n =>
    have h : (if os.getD 0 none ≠ some o ∨ n = o then some k else none) = some x := h
    split at h
    · cases h; intro a ha; rw [List.mem_singleton.mp ha]
    · cases h
  | puts ps =>
    have h : (if os = ps.map (fun p => some p.2) ∧ oneB (.puts ps) = true then (keys ps).head? else none) = some x := h
    split at h
    · rename_i c
      intro a ha
      have := of_decide_eq_true (List.all_eq_true.mp c.2 a ha)
      have e : (keysOf (.puts ps)).getD 0 0 = x := by
        show (keys ps).getD 0 0 = x
        cases e : keys ps with
        | nil => rw [e] at h; cases h
        | cons y ys => rw [e] at h; cases h; rfl
      rw [e] at this
      exact this
    · cases h
/-- the records of a call in a dict -/
structure RecsD (K : PySem.W.Frag) (H : Hp) (d : Addr) (kvs : List (Key × V)) (cl : Cl) (nn : Int → Tb) : Prop where
  d : H d = some (.dK kvs)
  l : kvs.length ≤ 4
  b : ∀ p ∈ kvs, ∃ b : Int, p.1 = Sum.inl b ∧ 0 ≤ b ∧ b < 4
  r : ∀ k ∈ keysOf cl, ∃ r, valV kvs (Sum.inl (k % 4) : Key) = some (.ref r) ∧ Rec K H r ((nn (k % 4)).map vp) ∧ (nn (k % 4)).length < 500 ∧ Srtd (nn (k % 4))
theorem RecsD.at {K : PySem.W.Frag} {H : Hp} {d : Addr} {kvs : List (Key × V)} {cl : Cl} {nn : Int → Tb} (h : RecsD K H d kvs cl nn) : RecsAt K H d cl nn := ⟨kvs, h.d, h.r⟩
theorem RecsD.same {K : PySem.W.Frag} {H H' : Hp} {d : Addr} {kvs : List (Key × V)} {cl : Cl} {nn : Int → Tb} (h : RecsD K H d kvs cl nn) (s : Same H H') : RecsD K H' d kvs cl nn := ⟨s _ _ h.d, h.l, h.b, fun k hk => let ⟨r, a, b, c⟩ := h.r k hk; ⟨r, a, b.same s, c⟩⟩
theorem valV_mem : ∀ {kvs : List (Key × V)} {k : Key} {v : V}, valV kvs k = some v → k ∈ kvs.map (·.1)
  | [], _, _, h => by cases h
  | p :: kvs, k, v, h => by
    by_cases c : p.1 = k
    · rw [← c]; exact List.mem_cons_self
    · rw [valV_neg c] at h
      exact List.mem_cons_of_mem _ (valV_mem h)
/-- the answer's plan, told again with other records beside -/
def AnsPlan (K : PySem.W.Frag) (H : Hp) (p : Addr) (a : Ans) (i : Int) : Prop := ∃ va, SqT K H p [.str "answer", va, .int i] ∧ AnsAt K H va a
theorem AnsPlan.same {K : PySem.W.Frag} {H H' : Hp} {p : Addr} {a : Ans} {i : Int} (h : AnsPlan K H p a i) (s : Same H H') : AnsPlan K H' p a i := let ⟨va, h1, h2⟩ := h; ⟨va, h1.same s, h2.same s⟩
theorem alone_ans {cl : Cl} {nn nn' : Int → Tb} {x : Int} (h : reasonOf cl (osOf cl nn) = some x) (e : nn' (x % 4) = nn (x % 4)) :
    (notMove cl → osOf cl nn' = osOf cl nn) ∧ (∀ k j, cl = .move k j → ∃ x', reasonOf cl (osOf cl nn') = some x' ∧ ansBy cl (osOf cl nn') = .bl false ∧ (x % 4 ≠ j % 4 → x' = k ∧ x % 4 = k % 4)) := by
  refine ⟨fun hm => List.map_congr_left fun k hk => by rw [one_bucket hm h k hk, e], fun k j ec => ?_⟩
  subst ec
  have h : mvR k j [(nn (k % 4)).lookup k, (nn (j % 4)).lookup j] = some x := h
  show ∃ x', mvR k j [(nn' (k % 4)).lookup k, (nn' (j % 4)).lookup j] = some x' ∧ Ans.bl (((nn' (k % 4)).lookup k).isSome && ((nn' (j % 4)).lookup j).isNone) = .bl false ∧ _
  cases e1 : (nn (k % 4)).lookup k with
  | none =>
    rw [e1] at h
    cases h
    rw [e, e1]
    exact ⟨_, rfl, rfl, fun _ => ⟨rfl, rfl⟩⟩
  | some v =>
    cases e2 : (nn (j % 4)).lookup j with
    | none => rw [e1, e2] at h; cases h
    | some u =>
      rw [e1, e2] at h
      cases h
      rw [e, e2]
      cases (nn' (k % 4)).lookup k with
      | none => exact ⟨_, rfl, rfl, fun c => absurd rfl c⟩
      | some w => exact ⟨_, rfl, rfl, fun c => absurd rfl c⟩
def spAl (K : PySem.W.Frag) : Sp := fun vs H Q _ => ∃ (c wp d : Addr) (cl : Cl) (nn : Int → Tb) (kvs : List (Key × V)) (x : Int), vs = [.ref c, .ref wp, .ref d] ∧ CallAt K H c cl ∧ cl.ok ∧ RecsD K H d kvs cl nn ∧
  reasonOf cl (osOf cl nn) = some x ∧ x ∈ keysOf cl ∧ AnsPlan K H wp (ansBy cl (osOf cl nn)) (x % 4) ∧ ∀ H', Same H H' → Q (.bl true) H'
/-- what the loop over the records has made -/
structure Oth (K : PySem.W.Frag) (H : Hp) (O : Addr) (kvs : List (Key × V)) (x4 : Int) (i : Nat) (kv' : List (Key × V)) : Prop where
  o : H O = some (.dK kv')
  l : kv'.length ≤ kvs.length + i
  f : ∀ b : Int, b ≠ x4 → (Sum.inl b : Key) ∈ (kvs.take i).map (·.1) → ∃ r, valV kv' (Sum.inl b : Key) = some (.ref r) ∧ Rec K H r ((full b).map vp)
  n : ∀ b : Int, (b = x4 ∨ (Sum.inl b : Key) ∉ (kvs.take i).map (·.1)) → valV kv' (Sum.inl b : Key) = valV kvs (Sum.inl b : Key)
section
variable {P : Program} {w : World} {K : PySem.W.Frag} {mg : Str → Option Value} {base : Heap}
theorem scAlone : FnScope NAl ["call", "wish", "records"] (defScope sAlone) := ⟨rfl, rfl, rfl, by decide +kernel, rfl, by decide +kernel, by decide +kernel⟩
theorem go_alone (F : GT K mg "_law_alone" sAlone ["call", "wish", "records"]) (B : Bn mg) (GPl : GO P w K mg base CX0 4 "plan" ["call", "records"] (spPlan K)) : GO P w K mg base CX0 5 "_law_alone" ["call", "wish", "records"] (spAl K) := by
  obtain ⟨f, fd, F, hm, hb⟩ := F
  refine ⟨f, fd, ?_, hm, F.kp, hb⟩
  refine F.ok scAlone (fun vs H Q E h => ?_) (fun cdv A outer s H vs Q E hr h => ?_)
  · obtain ⟨c, wp, d, cl, nn, kvs, x, rfl, _⟩ := h
    rfl
  · obtain ⟨c, wp, d, cl, nn, kvs, x, rfl, hc, ok, hR, hre, hx, hW, k⟩ := h
    have nd := scAlone.nd
    have hu := hu_of hr
    have hsl : sizeLine = 16777216 := sizeLine_eq
    have hrPl : Room 4 _ := hr
    refine ⟨_, (pss_cons (ps_set (i := 3) nd rfl (Or.inl rfl) (pe_callTy call_dictD (by rfl) B.dict (by decide +kernel) (pa_cons (pv 2) pa_nil)))
  (pss_cons (ps_lock (ps_for PassesOwn.never rfl (pi_keys (pv 2)) (pg_name (i := 4) nd rfl (Or.inl rfl))
  (pss_one (ps_if (pt_cmpR op_ne (pv 4) (pe_ix ix_tup (pv 1) pe_int (fun _ _ => rfl)) (nomark _))
  (pss_one (ps_dput hu (pv 3) (pv 4) (pe_tup (pa_cons pe_str (pa_cons (pe_callTy call_tuple_of (by rfl) B.tuple (by decide +kernel) (pa_cons (pe_lc (own := [("key", 6)]) (g := (gName 6)) (tt := tYes) rfl nd (pi_range3 (by rfl) B.range (pa_cons (pv 4) (pa_cons pe_int (pa_cons pe_int pa_nil)))) (blkOk_by (N := ["call", "wish", "records", "others", "bucket", "told", "key"]) (sc := defScope sAlone) (by decide +kernel)) (fun _ _ _ _ _ => (pg_name (i := 6) nd rfl (Or.inl rfl))) (fun _ _ _ _ _ => pts_nil) (fun _ _ _ _ _ => (pe_tup (pa_cons (pv 6) (pa_cons pe_int pa_nil))))) pa_nil)) pa_nil))) rfl))
  pss_nil))))
  (pss_cons (ps_set (i := 5) nd rfl (Or.inl rfl) (pc_ GPl hrPl (pa_cons (pv 0) (pa_cons (pv 3) pa_nil))))
  (pss_cons (ps_if (PW.pt (pw_and (pt_cmpR op_eq (pe_ix ix_tup (pv 0) pe_int (fun _ _ => rfl)) pe_str (nomark _)) (pw_and1 (pt_cmpR op_ne (pe_ix ix_tup (pv 1) pe_int (fun _ _ => rfl)) (pe_op op_mod (pe_ix ix_tup (pv 0) pe_int (fun _ _ => rfl)) pe_int) (nomark _)))))
  (pss_one (ps_ret (pe_cmpR (op_eqD hr.units) (pv 5) (pe_tup (pa_cons pe_str (pa_cons pe_bl (pa_cons (pe_ix ix_tup (pv 1) pe_int (fun _ _ => rfl)) pa_nil)))) (nomark _))))
  pss_nil)
  (pss_cons (ps_if (pt_cmpR op_eq (pe_ix ix_tup (pv 0) pe_int (fun _ _ => rfl)) pe_str (nomark _))
  (pss_one (ps_ret (pe_cmpR Sr.op_isB (pe_ix ix_tup (pv 5) pe_int (fun _ _ => rfl)) pe_bl (nomark _))))
  pss_nil)
  (pss_one (ps_ret (pe_cmpR (op_eqD hr.units) (pe_slice sl_tup (pv 5) po_none (po_some pe_int)) (pe_slice sl_tup (pv 1) po_none (po_some pe_int)) (nomark _))))))))), ?_⟩
    -- others
    refine ⟨_, rfl, d, _, rfl, .inl hR.d, fun O hO => ?_⟩
    have s1 := up1 (o := HO.dK kvs) hO
    have e1 : upd H O (HO.dK kvs) O = _ := upd_same
    have newO : ∀ {b u}, H b = some u → b ≠ O := fun e => ne_of_none e hO
    generalize upd H O (HO.dK kvs) = H1 at s1 e1 ⊢
    have hd1 := s1 _ _ hR.d
    have O_d : O ≠ d := (newO hR.d).symm
    -- the loop
    refine ⟨d, _, hd1, trivial, fun od => ?_⟩
    have hdL : upd H1 d (.frz od (.dK kvs)) d = _ := upd_same
    have offL : ∀ b, b ≠ d → upd H1 d (.frz od (.dK kvs)) b = H1 b := fun b n => upd_ne n
    generalize upd H1 d (.frz od (.dK kvs)) = HL at hdL offL ⊢
    have hOL : HL O = some (.dK kvs) := by rw [offL _ O_d]; exact e1
    refine ⟨_, rfl, d, od, rfl, .inl ⟨_, hdL, for_it (walk_keys (d := d) (o := od) (kvs := kvs)) (fun i σ H' => ∃ x4 kv', σ = [some (.ref c), some (.ref wp), some (.ref d), some (.ref O), x4, none, none] ∧ Oth K H' O kvs (x % 4) i kv' ∧ Kept O HL H') ⟨_, _, rfl, ⟨hOL, Nat.le_refl _, fun b _ hb => by simp at hb, fun b _ => rfl⟩, fun b o e _ => e⟩ (fun i σ H' _ z => by obtain ⟨_, _, _, _, s⟩ := z; exact s _ _ hdL O_d.symm) ?_ ?_⟩⟩
    · rintro i v σ H' H'' hi ⟨x4, kv', rfl, R, kp⟩ ⟨rfl, kk, vv, hkv, rfl⟩
      obtain ⟨b, eb, b0, b4⟩ := hR.b _ (List.mem_of_getElem? hkv)
      have eb : kk = Sum.inl b := eb
      subst eb
      have hwp : ∃ va, SqT K H'' wp [.str "answer", va, .int (x % 4)] := by
        obtain ⟨va, h1, _⟩ := hW
        have h1 := h1.same s1
        refine ⟨va, ?_⟩
        have x1 : ExT H1 H'' := ⟨fun a xs e => kp _ _ (by rw [offL a (ne_of e hd1 (by intro z; cases z))]; exact e) (ne_of e e1 (by intro z; cases z)), fun a o xs e => kp _ _ (by rw [offL a (ne_of e hd1 (by intro z; cases z))]; exact e) (ne_of e e1 (by intro z; cases z))⟩
        exact h1.extT x1
      obtain ⟨va, hwp⟩ := hwp
      have htk : (kvs.take (i + 1)).map (·.1) = (kvs.take i).map (·.1) ++ [(Sum.inl b : Key)] := by
        have hil : i < kvs.length := hi
        rw [List.take_succ_eq_append_getElem hil, List.map_append]
        have : kvs[i] = (Sum.inl b, vv) := by rw [List.getElem?_eq_getElem hil] at hkv; exact Option.some.inj hkv
        rw [this]
        rfl
      refine ⟨_, rfl, _, rfl, wp, _, 2, _, rfl, rfl, hwp, at2, rfl, _, rfl, ?_⟩
      by_cases cb : b = x % 4
      · refine iteNS (congrArg V.int cb) ⟨_, kv', rfl, ⟨R.o, Nat.le_trans R.l (by omega), fun b' hb' hm => R.f b' hb' ?_, fun b' hb' => R.n b' ?_⟩, kp⟩
        · rw [htk] at hm
          rcases List.mem_append.mp hm with h | h
          · exact h
          · exact absurd ((Sum.inl.inj (List.mem_singleton.mp h)).trans cb) hb'
        · rcases hb' with h | h
          · exact .inl h
          · exact .inr fun z => h (by rw [htk]; exact List.mem_append_left _ z)
      · refine iteNT (fun z => cb (V.int.inj z)) ?_
        refine ⟨_, rfl, b, 40, 4, 10, rfl, rgC b0 b4, fun D hD => lc_it (walk_rangeC (lo := b) (c := 4) (n := 10)) (fun j H2 => ∃ us, H2 D = some (.lst us) ∧ us.length = j ∧ PrsV H2 us (((List.range j).map fun j : Nat => (b + (j : Int) * 4, (1 : Int))).map vp) ∧ Same H'' H2) ⟨[], upd_same, rfl, .nil, up1 hD⟩ (fun _ _ _ _ => trivial) ?_ ?_⟩
        · rintro j y H2 H3 hj ⟨us, hD2, hul, hus, s2⟩ ⟨rfl, rfl⟩
          refine ⟨rfl, _, rfl, (by show 2 ≤ sizeLine; omega), fun t ht => ?_⟩
          have s3 := up1 (o := HO.tup [V.int (b + (j : Int) * 4), V.int 1]) ht
          have e3 : upd H3 t (HO.tup [V.int (b + (j : Int) * 4), V.int 1]) t = _ := upd_same
          generalize upd H3 t (HO.tup [V.int (b + (j : Int) * 4), V.int 1]) = H4 at s3 e3 ⊢
          have x4' : ExT H4 (upd H4 D (.lst (us ++ [.ref t]))) := Kept.ext (a := D) (fun b o e n => by rw [upd_ne n]; exact e) (s3 _ _ hD2)
          refine ⟨us, s3 _ _ hD2, by omega, us ++ [.ref t], upd_same, (by rw [List.length_append, List.length_singleton, hul]), ?_, fun b o e => by rw [upd_ne (ne_of_none e hD)]; exact s3 _ _ (s2 _ _ e)⟩
          rw [List.range_succ, List.map_append, List.map_append]
          exact papp ((hus.same s3).ext x4') (.cons ⟨t, rfl, x4'.1 _ _ e3, ⟨_, .flat rfl⟩, _, .flat rfl⟩ .nil)
        · rintro H2 ⟨us, hD2, hul, hus, s2⟩
          refine ⟨D, _, rfl, .inl ⟨SqL.of hD2, fun q hq => ⟨(by show 2 ≤ sizeLine; omega), fun t ht => ?_⟩⟩⟩
          have s3 := up1 (o := HO.tup us) hq
          have e3 : upd H2 q (HO.tup us) q = _ := upd_same
          generalize upd H2 q (HO.tup us) = H3 at s3 e3 ht ⊢
          have s4 := up1 (o := HO.tup [V.str "items", V.ref q]) ht
          have e4 : upd H3 t (HO.tup [V.str "items", V.ref q]) t = _ := upd_same
          generalize upd H3 t (HO.tup [V.str "items", V.ref q]) = H4 at s4 e4 ⊢
          have s24 := s3.trans s4
          have s14 := s2.trans s24
          have o4 := s14 _ _ R.o
          have hll := R.l
          have hl4 := hR.l
          refine ⟨_, rfl, _, rfl, O, _, rfl, DPut.k (k := (Sum.inl b : Key)) o4 (by have : i < kvs.length := hi; omega), ?_⟩
          have x5 : ExT H4 (upd H4 O (.dK (putK kv' (Sum.inl b) (.ref t)))) := Kept.extD (a := O) (fun b o e n => by rw [upd_ne n]; exact e) o4
          have hrec : Rec K (upd H4 O (.dK (putK kv' (Sum.inl b) (.ref t)))) t ((full b).map vp) := ⟨q, us, (SqT.of e4).extT x5, (SqT.of (s4 _ _ e3)).extT x5, (hus.same s24).ext x5⟩
          refine ⟨_, _, rfl, ⟨upd_same, Nat.le_trans (length_putK _ _ _) (by omega), fun b' hb' hm => ?_, fun b' hb' => ?_⟩, fun a o e n => by rw [upd_ne n]; exact s14 _ _ (kp _ _ e n)⟩
          · rw [valV_put]
            by_cases c2 : b' = b
            · subst c2
              rw [if_pos rfl]
              exact ⟨t, rfl, hrec⟩
            · rw [if_neg fun z => c2 (Sum.inl.inj z)]
              obtain ⟨r, h1, h2⟩ := R.f b' hb' (by
                rw [htk] at hm
                rcases List.mem_append.mp hm with h | h
                · exact h
                · exact absurd (Sum.inl.inj (List.mem_singleton.mp h)) c2)
              exact ⟨r, h1, (h2.same s14).ext x5⟩
          · have c2 : b' ≠ b := fun z => by
              rcases hb' with h | h
              · exact cb (z.symm.trans h)
              · exact h (by rw [htk, z]; exact List.mem_append_right _ (List.mem_singleton.mpr rfl))
            rw [valV_put, if_neg fun z => c2 (Sum.inl.inj z)]
            refine R.n b' ?_
            rcases hb' with h | h
            · exact .inl h
            · exact .inr fun z => h (by rw [htk]; exact List.mem_append_left _ z)
    · rintro σ H' ⟨x4, kv', rfl, R, kp⟩
      have hd' := kp _ _ hdL O_d.symm
      refine ⟨hd', ?_⟩
      have s2 : Same H (upd H' d (.dK kvs)) := fun a o e => by
        by_cases had : a = d
        · subst had
          rw [upd_same, ← e, hR.d]
        · rw [upd_ne had]
          exact kp _ _ (by rw [offL a had]; exact s1 _ _ e) (newO e)
      have x2 : ExT H' (upd H' d (.dK kvs)) := ⟨fun a xs e => by rw [upd_ne fun z => by rw [z, hd'] at e; cases e]; exact e, fun a o xs e => by rw [upd_ne fun z => by rw [z, hd'] at e; cases e]; exact e⟩
      have o2 : upd H' d (.dK kvs) O = some (.dK kv') := by rw [upd_ne O_d]; exact R.o
      have R2 : ∀ b : Int, b ≠ x % 4 → (Sum.inl b : Key) ∈ kvs.map (·.1) → ∃ r, valV kv' (Sum.inl b : Key) = some (.ref r) ∧ Rec K (upd H' d (.dK kvs)) r ((full b).map vp) := fun b h1 h2 => by
        obtain ⟨r, a, c⟩ := R.f b h1 (by rw [List.take_length]; exact h2)
        exact ⟨r, a, c.ext x2⟩
      have R3 := R.n (x % 4) (.inl rfl)
      generalize upd H' d (.dK kvs) = H2 at s2 o2 R2 ⊢
      have hR2 := hR.same s2
      have hW2 := hW.same s2
      have hc2 := hc.same s2
      have k2 : ∀ H3, Same H2 H3 → Q (.bl true) H3 := fun H3 s3 => k H3 (s2.trans s3)
      obtain ⟨nn', hnn1, hnn2⟩ : ∃ nn' : Int → Tb, nn' (x % 4) = nn (x % 4) ∧ ∀ b, b ≠ x % 4 → nn' b = full b := ⟨fun b => if b = x % 4 then nn b else full b, if_pos rfl, fun b h => if_neg h⟩
      have hRA : RecsAt K H2 O cl nn' := ⟨kv', o2, fun a ha => by
        obtain ⟨r, hv, hr1, hl1, hs1⟩ := hR2.r a ha
        by_cases c1 : a % 4 = x % 4
        · rw [c1] at hv hr1 hl1 hs1 ⊢
          rw [hnn1]
          exact ⟨r, R3.trans hv, hr1, hl1, hs1⟩
        · rw [hnn2 _ c1]
          obtain ⟨r', h1, h2⟩ := R2 _ c1 (valV_mem hv)
          exact ⟨r', h1, h2, by unfold full; rw [List.length_map, List.length_range]; omega, full_srt _⟩⟩
      have ha := alone_ans hre hnn1
      by_cases hm : notMove cl
      · have eo := ha.1 hm
        have hz : ∀ H3, Same H2 H3 → ∃ z ys, SqT K H3 c (.str z :: ys) ∧ z ≠ "move" := fun H3 s3 => by
          have hc3 := hc2.same s3
          cases cl with
          | move => exact hm.elim
          | puts ps => obtain ⟨q, ts, h1, _⟩ := hc3; exact ⟨_, _, h1, by decide⟩
          | look => exact ⟨_, _, hc3, by decide⟩
          | put => exact ⟨_, _, hc3, by decide⟩
          | take => exact ⟨_, _, hc3, by decide⟩
          | change => exact ⟨_, _, hc3, by decide⟩
        refine ⟨_, rfl, _, rfl, c, O, cl, nn', rfl, hc2, ok, hRA, fun x' hx' H3 p va' s3 hp hva' => ?_, fun hn => ?_⟩
        rotate_left
        · rw [eo, hre] at hn
          cases hn
        rw [eo] at hx' hva'
        obtain ⟨z, ys, hc3, hz⟩ := hz H3 s3
        obtain ⟨va, hw1, hw2⟩ := hW2.same s3
        refine ⟨_, rfl, c, _, 0, _, rfl, rfl, hc3, at0, rfl, _, rfl, iteND (fun e => hz (V.str.inj e)) (iteF ⟨_, rfl, c, _, 0, _, rfl, rfl, hc3, at0, rfl, _, rfl, iteND (fun e => hz (V.str.inj e)) ?_⟩)⟩
        refine ⟨_, rfl, _, rfl, p, _, rfl, hp, (by show ¬ ((0 : Nat) = 0 ∧ (2 : Nat) = 3); decide), fun p1 hp1 => ?_⟩
        have s4 : Same H3 (upd H3 p1 (.tup [.str "answer", va'])) := up1 hp1
        have e4 : upd H3 p1 (.tup [.str "answer", va']) p1 = _ := upd_same
        show _
        have ec : ∀ u i : V, cutV [.str "answer", u, i] none (some 2) = [.str "answer", u] := fun u i => rfl
        rw [ec]
        generalize upd H3 p1 (.tup [.str "answer", va']) = H4 at s4 e4 ⊢
        refine ⟨_, rfl, _, rfl, wp, _, rfl, hw1.same s4, (by show ¬ ((0 : Nat) = 0 ∧ (2 : Nat) = 3); decide), fun p2 hp2 => ?_⟩
        rw [ec]
        have s5 : Same H4 (upd H4 p2 (.tup [.str "answer", va])) := up1 hp2
        have e5 : upd H4 p2 (.tup [.str "answer", va]) p2 = _ := upd_same
        generalize upd H4 p2 (.tup [.str "answer", va]) = H5 at s5 e5 ⊢
        refine ⟨.tuple [.str "answer", ansE _], .tuple [.str "answer", ansE _], .tup (SqT.of (s5 _ _ e4)) (.cons (.str _) (.cons ((hva'.same s4).same s5).dp .nil)), .tup (SqT.of e5) (.cons (.str _) (.cons ((hw2.same s4).same s5).dp .nil)), two_sh _, two_sh _, ?_⟩
        rw [eqv_sh (two_sh _)]
        exact k2 H5 (s3.trans (s4.trans s5))
      · cases cl with
        | move a j =>
          obtain ⟨x', hx1, hx2, hx3⟩ := ha.2 a j rfl
          refine ⟨_, rfl, _, rfl, c, O, _, nn', rfl, hc2, ok, hRA, fun x'' hx' H3 p va' s3 hp hva' => ?_, fun hn => ?_⟩
          rotate_left
          · rw [hx1] at hn
            cases hn
          rw [hx1] at hx'
          cases hx'
          rw [hx2] at hva'
          have hva' : va' = .bl false := hva'
          subst hva'
          have hc3 := hc2.same s3
          obtain ⟨va, hw1, hw2⟩ := hW2.same s3
          refine ⟨_, rfl, c, _, 0, _, rfl, rfl, hc3, at0, rfl, _, rfl, iteD rfl ?_⟩
          refine ⟨_, rfl, wp, _, 2, _, rfl, rfl, hw1, at2, _, rfl, c, _, 2, _, rfl, rfl, hc3, at2, _, _, rfl, rfl, (by show (0 : Int) < 4; decide), rfl, _, rfl, ?_⟩
          by_cases c1 : x % 4 = j % 4
          · refine iteNS (congrArg V.int c1) ⟨_, rfl, c, _, 0, _, rfl, rfl, hc3, at0, rfl, _, rfl, iteD rfl ?_⟩
            exact ⟨_, rfl, p, _, 1, _, rfl, rfl, hp, at1, false, false, rfl, rfl, k2 H3 s3⟩
          · obtain ⟨rfl, h4⟩ := hx3 c1
            refine iteNT (fun z => c1 (V.int.inj z)) ?_
            refine ⟨_, rfl, _, rfl, wp, _, 2, _, rfl, rfl, hw1, at2, (by show 3 ≤ sizeLine; omega), fun p2 hp2 => ?_⟩
            have s4 := up1 (o := HO.tup [V.str "answer", V.bl false, V.int (x % 4)]) hp2
            have e4 : upd H3 p2 (HO.tup [V.str "answer", V.bl false, V.int (x % 4)]) p2 = _ := upd_same
            generalize upd H3 p2 (HO.tup [V.str "answer", V.bl false, V.int (x % 4)]) = H4 at s4 e4 ⊢
            rw [← h4] at hp
            refine ⟨.tuple [.str "answer", ansE (.bl false), .int (x % 4)], .tuple [.str "answer", ansE (.bl false), .int (x % 4)], .tup (hp.same s4) (.cons (.str _) (.cons (.bl _) (.cons (.int _) .nil))), .tup (SqT.of e4) (.cons (.str _) (.cons (.bl _) (.cons (.int _) .nil))), three_sh _ _, three_sh _ _, ?_⟩
            rw [eqv_sh (three_sh _ _)]
            exact k2 H4 (s3.trans s4)
        | _ => exact absurd trivial hm
end
end Dk

set_option maxHeartbeats 16000000
/-! the law k14 -/
namespace Dk
open PySem PySem.Spec PyProof.Rows L2 StX
abbrev sLaw : Stmt := top 29
abbrev NLw : List Str := ["script", "tape", "plain", "turn", "call", "buckets", "key", "records", "kept", "wish", "before", "due", "rows", "bucket", "pair"]
theorem inV_int (k : Int) : ∀ bs : List Int, inV (.int k) (bs.map V.int) = decide (k ∈ bs)
  | [] => by simp [inV]
  | b :: bs => by
    have ih := inV_int k bs
    unfold inV at ih ⊢
    rw [List.map_cons, List.any_cons, ih]
    by_cases c : b = k
    · subst c
      simp [eqV]
    · have c2 : k ≠ b := fun z => c z.symm
      simp [eqV, c, c2]
theorem flat_int (bs : List Int) : (bs.map V.int).all flatV = true := List.all_eq_true.mpr fun v hv => by
  obtain ⟨b, _, rfl⟩ := List.mem_map.mp hv
  rfl
/-- the record of a table's bucket -/
noncomputable def recT (tb : Tb) (b : Int) : Tb := open Classical in if h : ∃ ns : Tb, ns.Perm (inB tb b) ∧ Srtd ns then h.choose else []
theorem recT_eq {tb : Tb} {b : Int} {ms : Tb} (h1 : ms.Perm (inB tb b)) (h2 : Srtd ms) : ms = recT tb b := by
  have h : ∃ ns : Tb, ns.Perm (inB tb b) ∧ Srtd ns := ⟨ms, h1, h2⟩
  unfold recT
  rw [dif_pos h]
  exact lex_uniq (h1.trans h.choose_spec.1.symm) h2 h.choose_spec.2
/-- buckets as they are met -/
structure Met (bs ks : List Int) : Prop where
  nd : bs.Nodup
  m : ∀ b, b ∈ bs ↔ b ∈ ks.map (· % 4)
  l : bs.length ≤ ks.length
theorem asc_nd {bs : List Int} (h : bs.Pairwise (· < ·)) : bs.Nodup := h.imp fun h => by omega
theorem asc_le {bs : List Int} (h : bs.Pairwise (· < ·)) : bs.Pairwise (· ≤ ·) := h.imp fun h => by omega
theorem bks_eq {cl : Cl} {bs b2 : List Int} (h : BksOf cl bs) (hp : b2.Pairwise (· ≤ ·)) (hn : b2.Nodup) (hm : ∀ b, b ∈ b2 ↔ b ∈ (keysOf cl).map (· % 4)) : bs = b2 := by
  refine PySem.W.ksm_same ?_ (asc_le h.1) hp
  exact (List.perm_ext_iff_of_nodup (asc_nd h.1) hn).mpr fun b => (h.2 b).trans (hm b).symm
theorem iDl_shaped (bs : List Int) : SeqAt.shaped (.list (bs.map PyData.int)) = true := by rw [iD_oD]; exact oDl_shaped _
/-- a record as data -/
def recE (ns : Tb) : PyData := .tuple [.str "items", .tuple (ns.map fun n => .tuple [.int n.1, .int n.2])]
def rowE (tb : Tb) (b : Int) (ns : Tb) : PyData := .tuple [.int b, recE ns]
theorem prE_ok : ∀ ns : Tb, PyData.canLayAll0 (ns.map fun n => PyData.tuple [.int n.1, .int n.2]) = true ∧ PyData.depthAll (ns.map fun n => PyData.tuple [.int n.1, .int n.2]) ≤ 3
  | [] => ⟨by simp [PyData.canLayAll0], by simp [PyData.depthAll]⟩
  | n :: ns => by
    obtain ⟨h1, h2⟩ := prE_ok ns
    refine ⟨by simp [PyData.canLayAll0, PyData.canLay0, h1], ?_⟩
    simp only [List.map_cons, PyData.depthAll, PyData.depth]
    omega
theorem recE_ok (ns : Tb) : PyData.canLay0 (recE ns) = true ∧ PyData.depth (recE ns) ≤ 6 := by
  obtain ⟨h1, h2⟩ := prE_ok ns
  unfold recE
  refine ⟨?_, ?_⟩
  · simp only [PyData.canLay0, PyData.canLayAll0, h1, Bool.and_true]
    decide +kernel
  · simp only [PyData.depth, PyData.depthAll]
    omega
theorem rowsE_ok (f : Int → Tb) : ∀ bs : List Int, PyData.canLayAll0 (bs.map fun b => PyData.tuple [.int b, recE (f b)]) = true ∧ PyData.depthAll (bs.map fun b => PyData.tuple [.int b, recE (f b)]) ≤ 8
  | [] => ⟨by simp [PyData.canLayAll0], by simp [PyData.depthAll]⟩
  | b :: bs => by
    obtain ⟨h1, h2⟩ := rowsE_ok f bs
    obtain ⟨h3, h4⟩ := recE_ok (f b)
    refine ⟨by simp [PyData.canLayAll0, PyData.canLay0, h1, h3], ?_⟩
    simp only [List.map_cons, PyData.depthAll, PyData.depth]
    omega
def chE (a : Ans) (f : Int → Tb) (bs : List Int) : PyData := .tuple [.str "change", ansE a, .list (bs.map fun b => PyData.tuple [.int b, recE (f b)])]
theorem chE_sh (a : Ans) (f : Int → Tb) (bs : List Int) : SeqAt.shaped (chE a f bs) = true := by
  obtain ⟨h1, h2⟩ := ansE_ok a
  obtain ⟨h3, h4⟩ := rowsE_ok f bs
  unfold chE
  refine shaped_of ?_ ?_
  · simp only [PyData.canLay0, PyData.canLayAll0, h1, h3, Bool.and_true]
    decide +kernel
  · simp only [PyData.depth, PyData.depthAll]
    omega
theorem prs_dp {K : PySem.W.Frag} {H : Hp} : ∀ {ts : List V} {ns : Tb}, PrsV H ts (ns.map vp) → DpAll K H ts (ns.map fun n => PyData.tuple [.int n.1, .int n.2])
  | _, [], .nil => .nil
  | _, n :: ns, .cons h t => by
    obtain ⟨u, rfl, h1, _⟩ := h
    exact .cons (.tup (SqT.of h1) (.cons (.int _) (.cons (.int _) .nil))) (prs_dp t)
theorem Rec.dp {K : PySem.W.Frag} {H : Hp} {r : Addr} {ns : Tb} (h : Rec K H r (ns.map vp)) : Dp K H (.ref r) (recE ns) := by
  obtain ⟨q, ts, h1, h2, h3⟩ := h
  exact .tup h1 (.cons (.str _) (.cons (.tup h2 (prs_dp h3)) .nil))
/-- a row (bucket, record) -/
def RowR (K : PySem.W.Frag) (H : Hp) (f : Int → Tb) (v : V) (b : Int) : Prop := ∃ t r, v = .ref t ∧ SqT K H t [.int b, .ref r] ∧ Rec K H r ((f b).map vp)
theorem RowR.ext {K : PySem.W.Frag} {H H' : Hp} {f : Int → Tb} {v : V} {b : Int} (h : RowR K H f v b) (s : ExT H H') : RowR K H' f v b := by
  obtain ⟨t, r, e, h1, h2⟩ := h
  exact ⟨t, r, e, h1.extT s, h2.ext s⟩
theorem rowsR_dp {K : PySem.W.Frag} {H : Hp} {f : Int → Tb} : ∀ {vs : List V} {bs : List Int}, Paired (RowR K H f) vs bs → DpAll K H vs (bs.map fun b => PyData.tuple [.int b, recE (f b)])
  | _, _, .nil => .nil
  | _, _, .cons h t => by
    obtain ⟨u, r, rfl, h1, h2⟩ := h
    exact .cons (.tup h1 (.cons (.int _) (.cons h2.dp .nil))) (rowsR_dp t)
theorem pairedM {α β : Type} {F G : α → β → Prop} : ∀ {xs : List α} {ys : List β}, Paired F xs ys → (∀ a, ∀ b ∈ ys, F a b → G a b) → Paired G xs ys
  | _, _, .nil, _ => .nil
  | _, _, .cons r t, h => .cons (h _ _ List.mem_cons_self r) (pairedM t fun a b hb => h a b (List.mem_cons_of_mem _ hb))
/-- a dict of the records, from its rows -/
theorem rows_kvs {K : PySem.W.Frag} {H : Hp} {f : Int → Tb} : ∀ {vs : List V} {bs : List Int}, Paired (RowR K H f) vs bs → ∃ (ps : List Addr) (kvs : List (Key × V)), vs = ps.map V.ref ∧ Paired (fun p (kv : Key × V) => SqT K H p [kV kv.1, kv.2]) ps kvs ∧ kvs.map (·.1) = bs.map Sum.inl ∧ ∀ p ∈ kvs, ∃ (b : Int) (r : Addr), b ∈ bs ∧ p = (Sum.inl b, V.ref r) ∧ Rec K H r ((f b).map vp)
  | _, _, .nil => ⟨[], [], rfl, .nil, rfl, fun p hp => by cases hp⟩
  | _, _, .cons (b := b) h t => by
    obtain ⟨u, r, rfl, h1, h2⟩ := h
    obtain ⟨ps, kvs, rfl, h3, h4, h5⟩ := rows_kvs t
    refine ⟨u :: ps, (Sum.inl b, V.ref r) :: kvs, rfl, .cons h1 h3, by rw [List.map_cons, h4]; rfl, fun p hp => ?_⟩
    rcases List.mem_cons.mp hp with e | hp
    · exact ⟨b, r, List.mem_cons_self, e, h2⟩
    · obtain ⟨b', r', hb, e, h⟩ := h5 p hp
      exact ⟨b', r', List.mem_cons_of_mem _ hb, e, h⟩
theorem merge_nd : ∀ {ks a : List (Key × V)}, ((a ++ ks).map (·.1)).Nodup → mergeK a ks = a ++ ks
  | [], a, _ => (List.append_nil a).symm
  | p :: ks, a, h => by
    have hn : valV a p.1 = none := by
      cases e : valV a p.1 with
      | none => rfl
      | some v =>
        rw [List.map_append] at h
        exact absurd rfl ((List.nodup_append.mp h).2.2 _ (valV_mem e) _ List.mem_cons_self)
    show mergeK (putK a p.1 p.2) ks = _
    rw [putK_new p.2 hn, merge_nd (by rw [List.append_assoc]; exact h), List.append_assoc]
    rfl
theorem recT_ok (tb : Tb) (b : Int) : (recT tb b).Perm (inB tb b) ∧ Srtd (recT tb b) := by
  have h : ∃ ns : Tb, ns.Perm (inB tb b) ∧ Srtd ns := by
    refine ⟨(inB tb b).mergeSort (fun a c => !SrtO.lexB c a), List.mergeSort_perm _ _, ?_⟩
    have := List.pairwise_mergeSort (le := fun a c : Int × Int => !SrtO.lexB c a) (fun a c e h1 h2 => by
      have h1 : SrtO.lexB c a = false := by simpa using h1
      have h2 : SrtO.lexB e c = false := by simpa using h2
      have h1 := SrtO.lexB_no.mp h1
      have h2 := SrtO.lexB_no.mp h2
      have : SrtO.lexB e a = false := SrtO.lexB_no.mpr (by omega)
      simpa using this) (fun a c => by
      rw [Bool.or_eq_true]
      by_cases z : SrtO.lexB c a = false
      · exact .inl (by simpa using z)
      · refine .inr ?_
        have z : ¬ ¬ _ := fun y => z (SrtO.lexB_no.mpr y)
        have : SrtO.lexB a c = false := SrtO.lexB_no.mpr (by omega)
        simpa using this) (inB tb b)
    exact this.imp fun h => by simpa using h
  unfold recT
  rw [dif_pos h]
  exact h.choose_spec
theorem TapeAt.kept {H H' : Hp} {tp sp b : Addr} {ns : List Int} {pos : Nat} {rest seed : Int} (T : TapeAt H tp sp ns pos rest seed) (k : Kept b H H') (h1 : tp ≠ b) (h2 : sp ≠ b) : TapeAt H' tp sp ns pos rest seed := ⟨k _ _ T.t h1, k _ _ T.s h2, T.r, T.s0, T.s1⟩
def isBl : Ans → Bool
  | .bl _ => true
  | _ => false
theorem ans_isi {K : PySem.W.Frag} {H : Hp} {v : V} {a : Ans} (h : AnsAt K H v a) : ∃ t, TyX K H v t ∧ PySem.W.kitOne K t (.type "bool") = some (isBl a) := by
  cases a with
  | bl b =>
    have h : v = _ := h
    subst h
    exact ⟨_, .base (.bl b), kit_ty (show kitB "bool" "bool" = some true by decide +kernel)⟩
  | val o =>
    have h : v = _ := h
    subst h
    cases o with
    | none => exact ⟨_, .base .non, kit_ty (show kitB "NoneType" "bool" = some false by decide +kernel)⟩
    | some i => exact ⟨_, .base (.int i), kit_ty (show kitB "int" "bool" = some false by decide +kernel)⟩
  | tup os =>
    obtain ⟨t, rfl, h⟩ := h
    exact ⟨_, tyT h, kit_ty (show kitB "tuple" "bool" = some false by decide +kernel)⟩
theorem ansE_sh (a : Ans) : SeqAt.shaped (ansE a) = true := shaped_of (ansE_ok a).1 (by have := (ansE_ok a).2; omega)
theorem same_dict {tb : Tb} (h : (keys tb).Nodup) : ∀ p ∈ Rt.kvI tb, valV (Rt.kvI tb) p.1 = some p.2 ∧ flatB p.2 = true := fun p hp => ⟨val_nodup (kvI_nd h) p hp, kvI_flat tb p hp⟩
theorem noMove {z : Str} (h : z ≠ "move") : (if decide (V.str z = V.str "move") = true then (1 : Int) else 0) = 0 := by
  rw [decide_eq_false fun e => h (V.str.inj e)]
  rfl
theorem AnsPlan.ext {K : PySem.W.Frag} {H H' : Hp} {p : Addr} {a : Ans} {i : Int} (h : AnsPlan K H p a i) (s : ExT H H') : AnsPlan K H' p a i := let ⟨va, h1, h2⟩ := h; ⟨va, h1.extT s, h2.ext s⟩
theorem RecsD.kept {K : PySem.W.Frag} {H H' : Hp} {d : Addr} {kvs : List (Key × V)} {cl : Cl} {nn : Int → Tb} (h : RecsD K H d kvs cl nn) (e : H' d = H d) (s : ExT H H') : RecsD K H' d kvs cl nn := ⟨e.trans h.d, h.l, h.b, fun k hk => let ⟨r, a, b, c⟩ := h.r k hk; ⟨r, a, b.ext s, c⟩⟩
theorem for_use {K : PySem.W.Frag} {te : TE} {g : TG} {tb ts : TS} {D : Ends} {σ : L2.St} {H : Hp} (okk : Addr → Hp → Prop) (h1 : ∀ Q' : VK, (∀ l H8, okk l H8 → Q' (.ref l) H8) → te σ H Q') (h2 : ∀ l H8, okk l H8 → tSeq (tFor (iList K (tC (.ref l))) g tb) ts D σ H8) : tSeq (tFor (iList K te) g tb) ts D σ H := h1 _ fun l H8 h => h2 l H8 h
def spLaw (K : PySem.W.Frag) : Sp := fun vs H Q _ => ∃ (a : Addr) (ns : List Int), vs = [.ref a] ∧ SqL K H a (ns.map V.int) ∧ ns.length ≤ 63 ∧ ∀ H', Q (.bl true) H'
section
variable {P : Program} {w : World} {K : PySem.W.Frag} {mg : Str → Option Value} {base : Heap}
theorem scLaw : FnScope NLw ["script"] (defScope sLaw) := ⟨rfl, rfl, rfl, by decide +kernel, rfl, by decide +kernel, by decide +kernel⟩
theorem ok_law {f : Addr} {fd : FuncData} (F : Fun K "law" "law" sLaw f fd) (B : Bn mg) (GNx : GO P w K mg base CX0 1 "_law_next" ["tape", "many"] spNext) (GCa : GO P w K mg base CX0 2 "_law_call" ["tape"] (spCa K)) (GIc : GO P w K mg base CX0 4 "is_call" ["value"] (spIsCall K))
    (GBo : GO P w K mg base CX0 2 "buckets_of" ["call"] (spBkts K)) (GRe : GO P w K mg base CX0 1 "_law_record" ["plain", "bucket"] (spRe K)) (GPl : GO P w K mg base CX0 4 "plan" ["call", "records"] (spPlan K)) (GDo : GO P w K mg base CX0 1 "_law_does" ["plain", "call"] (spDoes K))
    (GAl : GO P w K mg base CX0 5 "_law_alone" ["call", "wish", "records"] (spAl K)) : FnOk P w K mg base CX0 6 f fd ["script"] (spLaw K) := by
  refine F.ok scLaw (fun vs H Q E h => ?_) (fun cdv A outer s H vs Q E hr h => ?_)
  · obtain ⟨a, ns, rfl, _⟩ := h
    rfl
  · obtain ⟨a, ss, rfl, hS, hlen, kQ⟩ := h
    have nd := scLaw.nd
    have hrN : Room 1 _ := hr.mono (by decide)
    have hrC : Room 2 _ := hr.mono (by decide)
    have hrIc : Room 4 _ := hr.mono (by decide)
    have hrBo : Room 2 _ := hr.mono (by decide)
    have hrR : Room 1 _ := hr.mono (by decide)
    have hrPl : Room 4 _ := hr.mono (by decide)
    have hrD : Room 1 _ := hr.mono (by decide)
    have hrA : Room 5 _ := hr
    have hu := hu_of hr
    have hu0 := Nat.lt_of_succ_lt hu
    have hsl : sizeLine = 16777216 := sizeLine_eq
    refine ⟨_, (pss_cons (ps_set (i := 1) nd rfl (Or.inl rfl) (pe_lst (pa_cons (pe_callTy call_list_of (by rfl) B.list (by decide +kernel) (pa_cons (pv 0) pa_nil)) (pa_cons pe_int (pa_cons pe_int (pa_cons pe_int pa_nil))))))
  (pss_cons (ps_set (i := 2) nd rfl (Or.inr rfl) pe_dnewK)
  (pss_cons (ps_for PassesOwn.never rfl (pi_range1 (by rfl) B.range (pa_cons (pe_op op_add pe_int (pc_ GNx hrN (pa_cons (pv 1) (pa_cons pe_int pa_nil)))) pa_nil)) (pg_name (i := 3) nd rfl (Or.inl rfl))
  (pss_cons (ps_set (i := 4) nd rfl (Or.inl rfl) (pc_ GCa hrC (pa_cons (pv 1) pa_nil)))
  (pss_cons (ps_set (i := 5) nd rfl (Or.inl rfl) (pe_lst pa_nil))
  (pss_cons (ps_for PassesOwn.never rfl (pi_list (pe_ifExp (pt_cmpR op_eq (pe_ix ix_tup (pv 4) pe_int (fun _ _ => rfl)) pe_str (nomark _)) (pe_callTy call_list_of (by rfl) B.list (by decide +kernel) (pa_cons (pe_lc (own := [("pair", 14)]) (g := (gName 14)) (tt := tYes) (te := (tOp (rIxT K) (tVar 14) (tC (.int 0)))) rfl nd (pi_tup (pe_ix ix_tup (pv 4) pe_int (fun _ _ => rfl))) (blkOk_by (N := ["script", "tape", "plain", "turn", "call", "buckets", "key", "records", "kept", "wish", "before", "due", "rows", "bucket", "pair"]) (sc := defScope sLaw) (by decide +kernel)) (fun _ _ _ _ _ => (pg_name (i := 14) nd rfl (Or.inl rfl))) (fun _ _ _ _ _ => pts_nil) (fun _ _ _ _ _ => (pe_ix ix_tup (pv 14) pe_int (fun _ _ => rfl)))) pa_nil)) (pe_callTy call_list_of (by rfl) B.list (by decide +kernel) (pa_cons (pe_slice sl_tup (pv 4) (po_some pe_int) (po_some (pe_op op_add pe_int (pe_callTy call_int1 (by rfl) B.int (by decide +kernel) (pa_cons (pe_cmpR op_eq (pe_ix ix_tup (pv 4) pe_int (fun _ _ => rfl)) pe_str (nomark _)) pa_nil))))) pa_nil)))) (pg_name (i := 6) nd rfl (Or.inl rfl))
  (pss_one (ps_if (pt_cmpR op_notIn_seq (pe_op op_mod (pv 6) pe_int) (pv 5) (by with_unfolding_all rfl))
  (pss_one (ps_expr (pe_bm PySem.F.plainAttrs_list PySem.F.slot_list_append PySem.F.type_list_append mt_append (pv 5) (pa_cons (pe_op op_mod (pv 6) pe_int) pa_nil))))
  pss_nil)))
  (pss_cons (ps_if (PW.pt (pw_or (pt_cmpR Sr.op_notB (pc_ GIc hrIc (pa_cons (pv 4) pa_nil)) pe_bl (nomark _)) (pw_or1 (pt_cmpR (op_neD hr.units) (pc_ GBo hrBo (pa_cons (pv 4) pa_nil)) (pe_callB cr_sortedI (by rfl) B.sorted (by decide +kernel) (pa_cons (pv 5) pa_nil)) (nomark _)))))
  (pss_one (ps_ret pe_bl))
  pss_nil)
  (pss_cons (ps_set (i := 7) nd rfl (Or.inl rfl) (pe_callTy (call_dictP rfl) (by rfl) B.dict (by decide +kernel) (pa_cons (pe_lc (own := [("bucket", 13)]) (g := (gName 13)) (tt := tYes) rfl nd (pi_list (pv 5)) (blkOk_by (N := ["script", "tape", "plain", "turn", "call", "buckets", "key", "records", "kept", "wish", "before", "due", "rows", "bucket", "pair"]) (sc := defScope sLaw) (by decide +kernel)) (fun _ _ _ _ _ => (pg_name (i := 13) nd rfl (Or.inl rfl))) (fun _ _ _ _ _ => pts_nil) (fun _ _ _ _ _ => (pe_tup (pa_cons (pv 13) (pa_cons (pc_ GRe hrR (pa_cons (pv 2) (pa_cons (pv 13) pa_nil))) pa_nil))))) pa_nil)))
  (pss_cons (ps_set (i := 8) nd rfl (Or.inl rfl) (pe_callTy call_dictD (by rfl) B.dict (by decide +kernel) (pa_cons (pv 7) pa_nil)))
  (pss_cons (ps_set (i := 9) nd rfl (Or.inl rfl) (pc_ GPl hrPl (pa_cons (pv 4) (pa_cons (pv 7) pa_nil))))
  (pss_cons (ps_set (i := 10) nd rfl (Or.inl rfl) (pe_callTy call_dictD (by rfl) B.dict (by decide +kernel) (pa_cons (pv 2) pa_nil)))
  (pss_cons (ps_set (i := 11) nd rfl (Or.inl rfl) (pc_ GDo hrD (pa_cons (pv 2) (pa_cons (pv 4) pa_nil))))
  (pss_cons (ps_if (PW.pt (pw_or (pt_cmpR (Sr.op_neR hu0) (pv 7) (pv 8) (nomark _)) (pw_or (pt_cmpR (op_neD hr.units) (pe_ix ix_tup (pv 9) pe_int (fun _ _ => rfl)) (pv 11) (nomark _)) (pw_or1 (pt_cmpR op_ne (pe_callB call_isi (by rfl) B.isi (by decide +kernel) (pa_cons (pe_ix ix_tup (pv 9) pe_int (fun _ _ => rfl)) (pa_cons (pe_bltn (v := .ty "bool") (by rfl) B.bool (by decide +kernel) rfl) pa_nil))) (pe_callB call_isi (by rfl) B.isi (by decide +kernel) (pa_cons (pv 11) (pa_cons (pe_bltn (v := .ty "bool") (by rfl) B.bool (by decide +kernel) rfl) pa_nil))) (nomark _))))))
  (pss_one (ps_ret pe_bl))
  pss_nil)
  (pss_one (ps_if (pt_cmpR op_eq (pe_ix ix_tup (pv 9) pe_int (fun _ _ => rfl)) pe_str (nomark _))
  (pss_one (ps_if (PW.pt (pw_or (pt_cmpR (op_ne_dictA hu0) (pv 2) (pv 10) (nomark _)) (pw_or (pt_cmpR op_notIn_seq (pe_ix ix_tup (pv 9) pe_int (fun _ _ => rfl)) (pv 5) (by with_unfolding_all rfl)) (pw_or (pt_cmpR op_ne (pe_callB call_len_seq (by rfl) B.len PySem.boot_len (pa_cons (pv 9) pa_nil)) pe_int (nomark _)) (pw_or1 (pt_not (pt_val (pc_ GAl hrA (pa_cons (pv 4) (pa_cons (pv 9) (pa_cons (pv 7) pa_nil)))))))))))
  (pss_one (ps_ret pe_bl))
  pss_nil))
  (pss_cons (ps_setLc (i := 12) (own := [("bucket", 13)]) (g := (gName 13)) (tt := tYes) rfl nd rfl rfl (sw_true rfl rfl rfl (by decide +kernel)) (pi_list (pe_callB cr_sortedI (by rfl) B.sorted (by decide +kernel) (pa_cons (pv 5) pa_nil))) (blkOk_by (N := ["script", "tape", "plain", "turn", "call", "buckets", "key", "records", "kept", "wish", "before", "due", "rows", "bucket", "pair"]) (sc := defScope sLaw) (by decide +kernel)) (fun _ _ _ _ _ => (pg_name (i := 13) nd rfl (Or.inl rfl))) (fun _ _ _ _ _ => pts_nil) (fun _ _ _ _ _ => (pe_tup (pa_cons (pv 13) (pa_cons (pc_ GRe hrR (pa_cons (pv 2) (pa_cons (pv 13) pa_nil))) pa_nil)))))
  (pss_one (ps_if (PW.pt (pw_or (pt_cmpR (op_neD hr.units) (pv 9) (pe_tup (pa_cons pe_str (pa_cons (pv 11) (pa_cons (pv 12) pa_nil)))) (nomark _)) (pw_or1 (PW.pt (pw_and (pt_cmpR (Sr.op_eqI hu0) (pv 2) (pv 10) (nomark _)) (pw_and1 (pt_cmpR op_eq (pe_callB call_len_seq (by rfl) B.len PySem.boot_len (pa_cons (pv 5) pa_nil)) pe_int (nomark _))))))))
  (pss_one (ps_ret pe_bl))
  pss_nil))))))))))))))))
  (pss_one (ps_ret pe_bl))))), ?_⟩
    -- tape
    refine ⟨_, rfl, a, _, rfl, .inl hS, fun sp hsp => ?_⟩
    have s1 := up1 (o := HO.lst (ss.map V.int)) hsp
    have e1 : upd H sp (HO.lst (ss.map V.int)) sp = _ := upd_same
    generalize upd H sp (HO.lst (ss.map V.int)) = H1 at s1 e1 ⊢
    refine ⟨(by show 4 ≤ sizeLine; omega), fun tp htp => ?_⟩
    have s2 := up1 (o := HO.lst [.ref sp, .int 0, .int 0, .int 5]) htp
    have e2 : upd H1 tp (HO.lst [.ref sp, .int 0, .int 0, .int 5]) tp = _ := upd_same
    generalize upd H1 tp (HO.lst [.ref sp, .int 0, .int 0, .int 5]) = H2 at s2 e2 ⊢
    have T2 : TapeAt H2 tp sp ss 0 0 5 := ⟨e2, s2 _ _ e1, by decide, by decide, by decide⟩
    -- plain
    intro d hd
    have s3 := up1 (o := HO.dK []) hd
    have e3 : upd H2 d (HO.dK []) d = _ := upd_same
    have d_tp : d ≠ tp := (ne_of_none T2.t hd).symm
    generalize upd H2 d (HO.dK []) = H3 at s3 e3 ⊢
    have T3 := T2.same s3
    refine ⟨_, rfl, tp, sp, ss, 0, 0, 5, 20, rfl, T3, by decide, by decide, hlen, fun m H4 pos4 rest4 seed4 m0 m20 T4 k4 => ?_⟩
    have d4 := k4 _ _ e3 d_tp
    refine ⟨_, _, rfl, rfl, _, rfl, by omega, by omega, for_range (lo := 0) (n := (1 + m).toNat) (fun i σ H' => ∃ (x3 x4 x5 x6 x7 x8 x9 x10 x11 x12 x13 x14 : Option V) (tb : Tb) (pos : Nat) (rest seed : Int), σ = [some (.ref a), some (.ref tp), some (.ref d), x3, x4, x5, x6, x7, x8, x9, x10, x11, x12, x13, x14] ∧ H' d = some (.dK (Rt.kvI tb)) ∧ (keys tb).Nodup ∧ tb.length ≤ 3 * i ∧ TapeAt H' tp sp ss pos rest seed) ⟨_, _, _, _, _, _, _, _, _, _, _, _, [], _, _, _, rfl, d4, List.nodup_nil, Nat.le_refl _, T4⟩ ?_ ?_⟩
    · rintro i σ H5 hi ⟨x3, x4, x5, x6, x7, x8, x9, x10, x11, x12, x13, x14, tb, pos, rest, seed, rfl, d5, hnd, htl, T5⟩
      have hi : i < 21 := by omega
      have htl5 : tb.length < 500 := by omega
      -- call
      refine ⟨_, rfl, tp, sp, ss, pos, rest, seed, rfl, T5, hlen, fun H6 c cl pos6 rest6 seed6 T6 k6 hc6 ok hb6 => ?_⟩
      have d6 := k6 _ _ d5 d_tp
      -- buckets
      refine ⟨(by show 0 ≤ sizeLine; omega), fun Bk hBk => ?_⟩
      have s7 := up1 (o := HO.lst []) hBk
      have e7 : upd H6 Bk (HO.lst []) Bk = _ := upd_same
      have Bk_none : ∀ {b u}, H6 b = some u → b ≠ Bk := fun e => ne_of_none e hBk
      generalize upd H6 Bk (HO.lst []) = H7 at s7 e7 ⊢
      have hc7 := hc6.same s7
      -- the keys
      dsimp only [gName]
      refine for_use (fun l H8 => Same H7 H8 ∧ H8 l = some (.lst ((keysOf cl).map V.int))) ?_ ?_
      · intro Q' kq
        cases cl with
        | look x =>
          refine ⟨_, rfl, c, _, 0, _, rfl, rfl, hc7, at0, rfl, _, rfl, iteND (by decide) ?_⟩
          refine ⟨_, rfl, _, rfl, _, rfl, c, _, 0, _, rfl, rfl, hc7, at0, rfl, .inr ⟨_, rfl, ?_⟩⟩
          rw [noMove (by decide)]
          exact ⟨_, _, rfl, rfl, _, rfl, c, _, rfl, hc7, (by show ¬ ((1 : Nat) = 0 ∧ (2 : Nat) = 2); decide), fun p hp => ⟨p, _, rfl, .inr (SqT.of upd_same), fun l hl => kq l _ ⟨(up1 hp).trans (up1 hl), upd_same⟩⟩⟩
        | put x v =>
          refine ⟨_, rfl, c, _, 0, _, rfl, rfl, hc7, at0, rfl, _, rfl, iteND (by decide) ?_⟩
          refine ⟨_, rfl, _, rfl, _, rfl, c, _, 0, _, rfl, rfl, hc7, at0, rfl, .inr ⟨_, rfl, ?_⟩⟩
          rw [noMove (by decide)]
          exact ⟨_, _, rfl, rfl, _, rfl, c, _, rfl, hc7, (by show ¬ ((1 : Nat) = 0 ∧ (2 : Nat) = 3); decide), fun p hp => ⟨p, _, rfl, .inr (SqT.of upd_same), fun l hl => kq l _ ⟨(up1 hp).trans (up1 hl), upd_same⟩⟩⟩
        | take x =>
          refine ⟨_, rfl, c, _, 0, _, rfl, rfl, hc7, at0, rfl, _, rfl, iteND (by decide) ?_⟩
          refine ⟨_, rfl, _, rfl, _, rfl, c, _, 0, _, rfl, rfl, hc7, at0, rfl, .inr ⟨_, rfl, ?_⟩⟩
          rw [noMove (by decide)]
          exact ⟨_, _, rfl, rfl, _, rfl, c, _, rfl, hc7, (by show ¬ ((1 : Nat) = 0 ∧ (2 : Nat) = 2); decide), fun p hp => ⟨p, _, rfl, .inr (SqT.of upd_same), fun l hl => kq l _ ⟨(up1 hp).trans (up1 hl), upd_same⟩⟩⟩
        | change x o n =>
          refine ⟨_, rfl, c, _, 0, _, rfl, rfl, hc7, at0, rfl, _, rfl, iteND (by decide) ?_⟩
          refine ⟨_, rfl, _, rfl, _, rfl, c, _, 0, _, rfl, rfl, hc7, at0, rfl, .inr ⟨_, rfl, ?_⟩⟩
          rw [noMove (by decide)]
          exact ⟨_, _, rfl, rfl, _, rfl, c, _, rfl, hc7, (by show ¬ ((1 : Nat) = 0 ∧ (2 : Nat) = 4); decide), fun p hp => ⟨p, _, rfl, .inr (SqT.of upd_same), fun l hl => kq l _ ⟨(up1 hp).trans (up1 hl), upd_same⟩⟩⟩
        | move x j =>
          refine ⟨_, rfl, c, _, 0, _, rfl, rfl, hc7, at0, rfl, _, rfl, iteND (by decide) ?_⟩
          refine ⟨_, rfl, _, rfl, _, rfl, c, _, 0, _, rfl, rfl, hc7, at0, rfl, .inr ⟨_, rfl, ?_⟩⟩
          rw [show (if decide (V.str "move" = V.str "move") = true then (1 : Int) else 0) = 1 from rfl]
          exact ⟨_, _, rfl, rfl, _, rfl, c, _, rfl, hc7, (by show ¬ ((1 : Nat) = 0 ∧ (3 : Nat) = 3); decide), fun p hp => ⟨p, _, rfl, .inr (SqT.of upd_same), fun l hl => kq l _ ⟨(up1 hp).trans (up1 hl), upd_same⟩⟩⟩
        | puts ps =>
          obtain ⟨q, ts, h1, h2, h3⟩ := id hc7
          have hln := plen h3
          have hl3 := ok.2.1
          refine ⟨_, rfl, c, _, 0, _, rfl, rfl, h1, at0, rfl, _, rfl, iteD rfl ⟨_, rfl, c, _, 1, _, rfl, rfl, h1, at1, q, rfl, ⟨_, h2.sq⟩, fun D hD => lc_tup (K := K) (a := q) (xs := ts) (fun i H' => H' D = some (.lst (((keys ps).take i).map V.int)) ∧ Same H7 H') ⟨upd_same, up1 hD⟩ (fun i H' _ z => h2.sq.same z.2) ?_ ?_⟩⟩
          · rintro j v H' hj ⟨hD', sD⟩
            obtain ⟨n, hn, t, rfl, ht⟩ := pget h3 hj
            have hjl : j < (keys ps).length := by unfold keys; rw [List.length_map]; exact (List.getElem?_eq_some_iff.mp hn).1
            have hkl : (keys ps).length ≤ 3 := (keys_len (cl := .puts ps) ok).2
            refine ⟨rfl, _, rfl, t, _, 0, _, rfl, rfl, ht.same sD, at0, _, hD', (by rw [List.length_map, List.length_take]; omega), ?_, fun b o e => by rw [upd_ne (ne_of_none e hD)]; exact sD b o e⟩
            rw [upd_same, List.take_succ_eq_append_getElem hjl, List.map_append]
            have : (keys ps)[j] = n.1 := by
              have : (keys ps)[j]? = some n.1 := by unfold keys; rw [List.getElem?_map, hn]; rfl
              rw [List.getElem?_eq_getElem hjl] at this
              exact Option.some.inj this
            rw [this]
            rfl
          · rintro H' ⟨hD', sD⟩
            have hkl : (keys ps).length = ts.length := by unfold keys; rw [List.length_map]; omega
            rw [← hkl, List.take_length] at hD'
            exact ⟨D, _, rfl, .inl (SqL.of hD'), fun l hl => kq l _ ⟨sD.trans (up1 hl), upd_same⟩⟩
      rintro l H8 ⟨s8, hl8⟩
      have e8 := s8 _ _ e7
      have hk13 := keys_len ok
      have l_Bk : l ≠ Bk := ne_of hl8 e8 (by
        intro z
        have z := congrArg (fun o => match o with | HO.lst xs => xs.length | _ => 0) z
        have z : ((keysOf cl).map V.int).length = 0 := z
        rw [List.length_map] at z
        omega)
      refine ⟨l, rfl, ⟨_, SqL.of hl8⟩, for_list (xs := (keysOf cl).map V.int) (fun j σ H' => ∃ (x6 : Option V) (bs : List Int), σ = [some (.ref a), some (.ref tp), some (.ref d), some (.int (0 + (i : Int))), some (.ref c), some (.ref Bk), x6, x7, x8, x9, x10, x11, x12, x13, x14] ∧ H' Bk = some (.lst (bs.map V.int)) ∧ Met bs ((keysOf cl).take j) ∧ Kept Bk H8 H') ⟨_, [], rfl, e8, ⟨List.nodup_nil, fun b => by simp, Nat.le_refl _⟩, fun b o e _ => e⟩ (fun j σ H' _ z => by obtain ⟨_, _, _, _, _, s⟩ := z; exact SqL.of (s _ _ hl8 l_Bk)) ?_ ?_⟩
      · rintro j v σ H' hj ⟨x6, bs, rfl, hB, M, kB⟩
        have hjl : j < (keysOf cl).length := by
          have := (List.getElem?_eq_some_iff.mp hj).1
          rw [List.length_map] at this
          exact this
        rw [List.getElem?_map, List.getElem?_eq_getElem hjl] at hj
        cases hj
        have etk : (keysOf cl).take (j + 1) = (keysOf cl).take j ++ [(keysOf cl)[j]] := List.take_succ_eq_append_getElem hjl
        have hMl := M.l
        rw [List.length_take] at hMl
        generalize (keysOf cl)[j] = q at *
        refine ⟨_, rfl, _, _, rfl, rfl, (by show (0 : Int) < 4; decide), _, rfl, Bk, _, rfl, .inl (SqL.of hB), rfl, flat_int bs, _, rfl, ?_⟩
        rw [show (if (true : Bool) = true then !inV (V.int (q % 4)) (bs.map V.int) else inV (V.int (q % 4)) (bs.map V.int)) = !decide (q % 4 ∈ bs) by rw [if_pos rfl, inV_int]]
        by_cases hq : q % 4 ∈ bs
        · refine iteNS hq ⟨_, bs, rfl, hB, ⟨M.nd, fun b => ?_, ?_⟩, kB⟩
          · rw [etk, List.map_append, List.mem_append, ← M.m]
            refine ⟨.inl, fun h => h.elim id fun h => ?_⟩
            rw [List.mem_singleton.mp h]
            exact hq
          · have := M.l
            rw [etk, List.length_append]
            omega
        · refine iteNT hq ⟨_, rfl, .inl ⟨rfl, _, SqL.of hB⟩, _, rfl, _, _, rfl, rfl, (by show (0 : Int) < 4; decide), Bk, _, _, rfl, rfl, hB, (by rw [List.length_map]; omega), ?_⟩
          refine ⟨_, bs ++ [q % 4], rfl, by rw [upd_same, List.map_append]; rfl, ⟨List.nodup_append.mpr ⟨M.nd, by simp, fun x hx y hy => ?_⟩, fun b => ?_, ?_⟩, fun b o e n => by rw [upd_ne n]; exact kB _ _ e n⟩
          · rw [List.mem_singleton.mp hy]
            intro z
            exact hq (by rw [← z]; exact hx)
          · rw [etk, List.map_append, List.mem_append, List.mem_append, ← M.m]
            rfl
          · have := M.l
            rw [etk, List.length_append, List.length_append, List.length_singleton, List.length_singleton]
            omega
      rintro σ H9 ⟨x6, bs, rfl, hB9, M, kB⟩
      rw [List.length_map, List.take_length] at M
      have k89 : ∀ {b o}, H6 b = some o → H9 b = some o := fun {b o} e => kB _ _ (s8 _ _ (s7 _ _ e)) (Bk_none e)
      have d9 := k89 d6
      have T9 : TapeAt H9 tp sp ss pos6 rest6 seed6 := ⟨k89 T6.t, k89 T6.s, T6.r, T6.s0, T6.s1⟩
      have hc9 : CallAt K H9 c cl := hc6.same fun b o e => k89 e
      have hMl : bs.length ≤ 3 := Nat.le_trans M.l hk13.2
      have d_Bk : d ≠ Bk := Bk_none d6
      -- is_call, buckets_of
      refine ⟨_, rfl, c, cl, rfl, hc9, ok, fun H10 s10 => ⟨true, true, rfl, rfl, _, rfl, iteF ?_⟩⟩
      refine ⟨_, rfl, c, cl, rfl, hc9.same s10, ok, fun H11 p11 b2 s11 _ hp11 hbk => ?_⟩
      have hB11 := s11 _ _ (s10 _ _ hB9)
      refine ⟨_, rfl, Bk, bs, rfl, SqL.of hB11, fun b1 p12 hpm hpw hp12 => ?_⟩
      have s12 := up1 (o := HO.lst (b1.map V.int)) hp12
      have e12 : upd H11 p12 (HO.lst (b1.map V.int)) p12 = _ := upd_same
      generalize upd H11 p12 (HO.lst (b1.map V.int)) = H12 at s12 e12 ⊢
      have eb : b2 = b1 := bks_eq hbk hpw (hpm.nodup_iff.mpr M.nd) fun b => hpm.mem_iff.trans (M.m b)
      subst eb
      refine ⟨.list (b2.map PyData.int), .list (b2.map PyData.int), .lst (SqL.of (s12 _ _ hp11)) (iD_all _), .lst (SqL.of e12) (iD_all _), iDl_shaped _, iDl_shaped _, _, rfl, ?_⟩
      rw [eqv_sh (iDl_shaped b2)]
      refine iteF ?_
      have s912 := s10.trans (s11.trans s12)
      have d12 := s912 _ _ d9
      have hB12 := s912 _ _ hB9
      have hc12 := hc9.same s912
      have T12 := T9.same s912
      clear s7 s8 e7 e8 kB hl8 hc7 hB11 hp11 e12 s10 s11 s12
      have d_sp : d ≠ sp := fun z => by
        have h1 := T12.s
        rw [← z, d12] at h1
        cases h1
      -- records
      refine ⟨_, rfl, Bk, rfl, ⟨_, SqL.of hB12⟩, fun D hD => lc_list (xs := bs.map V.int) (fun j H' => ∃ rows, H' D = some (.lst rows) ∧ Paired (RowR K H' (recT tb)) rows (bs.take j) ∧ Same H12 H') ⟨[], upd_same, .nil, up1 hD⟩ (fun j H' _ z => by obtain ⟨_, _, _, s⟩ := z; exact SqL.of (s _ _ hB12)) ?_ ?_⟩
      · rintro j v H' hj ⟨rows, hr', hp', sD⟩
        have hjl : j < bs.length := by
          have := (List.getElem?_eq_some_iff.mp hj).1
          rw [List.length_map] at this
          exact this
        rw [List.getElem?_map, List.getElem?_eq_getElem hjl] at hj
        cases hj
        have hrl : rows.length ≤ bs.length := by rw [plen hp', List.length_take]; omega
        rw [List.take_succ_eq_append_getElem hjl]
        generalize bs[j] = b at *
        refine ⟨rfl, _, rfl, _, rfl, _, rfl, d, b, tb, rfl, sD _ _ d12, hnd, htl5, fun H2' r ms s' R hpm hsr => ⟨(by show 2 ≤ sizeLine; omega), fun t ht => ?_⟩⟩
        have em := recT_eq hpm hsr
        subst em
        have s3' := up1 (o := HO.tup [V.int b, V.ref r]) ht
        have e3' : upd H2' t (HO.tup [V.int b, V.ref r]) t = _ := upd_same
        generalize upd H2' t (HO.tup [V.int b, V.ref r]) = H3' at s3' e3' ⊢
        have sx := s'.trans s3'
        have x4' : ExT H3' (upd H3' D (.lst (rows ++ [.ref t]))) := Kept.ext (a := D) (fun b o e n => by rw [upd_ne n]; exact e) (sx _ _ hr')
        exact ⟨rows, sx _ _ hr', by omega, rows ++ [.ref t], upd_same, papp (pmono (fun _ _ h => h.ext ((ExT.of sx).trans x4')) hp') (.cons ⟨t, r, rfl, (SqT.of e3').extT x4', (R.same s3').ext x4'⟩ .nil), fun b o e => by rw [upd_ne (ne_of_none e hD)]; exact sx _ _ (sD _ _ e)⟩
      rintro H13 ⟨rows, hr13, hrows, s13⟩
      rw [List.length_map, List.take_length] at hrows
      obtain ⟨ps, kvs, rfl, hpk, hkf, hkm⟩ := rows_kvs hrows
      have knd : (kvs.map (·.1)).Nodup := by
        rw [hkf]
        exact List.Pairwise.map (Sum.inl : Int → Key) (fun a b z e => z (Sum.inl.inj e)) M.nd
      refine ⟨D, ps, kvs, rfl, SqL.of hr13, hpk, fun rd hrd => ?_⟩
      rw [show mergeK [] kvs = kvs from merge_nd (a := []) knd]
      have s14 := up1 (o := HO.dK kvs) hrd
      have e14 : upd H13 rd (HO.dK kvs) rd = _ := upd_same
      have rd_d : rd ≠ d := (ne_of_none (s13 _ _ d12) hrd).symm
      generalize upd H13 rd (HO.dK kvs) = H14 at s14 e14 ⊢
      -- kept
      refine ⟨_, rfl, rd, _, rfl, .inl e14, fun kp hkp => ?_⟩
      have s14b := up1 (o := HO.dK kvs) hkp
      have kp14 : upd H14 kp (HO.dK kvs) kp = _ := upd_same
      have kp_d : kp ≠ d := (ne_of_none (s14 _ _ (s13 _ _ d12)) hkp).symm
      generalize upd H14 kp (HO.dK kvs) = H14b at s14b kp14 ⊢
      have rd14 := s14b _ _ e14
      have s124 := s13.trans (s14.trans s14b)
      have d14 := s124 _ _ d12
      have hB14 := s124 _ _ hB12
      have hc14 := hc12.same s124
      have T14 := T12.same s124
      have hkv : ∀ p ∈ kvs, valV kvs p.1 = some p.2 ∧ ∃ r, p.2 = .ref r := fun p hp => by
        obtain ⟨b, r, _, e, _⟩ := hkm p hp
        exact ⟨val_nodup knd p hp, r, by rw [e]⟩
      have hR : RecsD K H14b rd kvs cl (recT tb) := by
        refine ⟨rd14, ?_, fun p hp => ?_, fun k hk => ?_⟩
        · have := congrArg List.length hkf
          rw [List.length_map, List.length_map] at this
          omega
        · obtain ⟨b, r, hb, e, _⟩ := hkm p hp
          obtain ⟨k, _, ek⟩ := List.mem_map.mp ((M.m b).mp hb)
          have ek : k % 4 = b := ek
          exact ⟨b, by rw [e], by omega, by omega⟩
        · have hb : k % 4 ∈ bs := (M.m _).mpr (List.mem_map.mpr ⟨k, hk, rfl⟩)
          have : (Sum.inl (k % 4) : Key) ∈ kvs.map (·.1) := by rw [hkf]; exact List.mem_map.mpr ⟨_, hb, rfl⟩
          obtain ⟨p, hp, ep⟩ := List.mem_map.mp this
          obtain ⟨b, r, _, e, hrec⟩ := hkm p hp
          have hv := val_nodup knd p hp
          rw [e] at ep hv
          have ep : b = k % 4 := Sum.inl.inj ep
          subst ep
          refine ⟨r, hv, hrec.same (s14.trans s14b), ?_, (recT_ok _ _).2⟩
          rw [(recT_ok tb (k % 4)).1.length_eq]
          exact Nat.lt_of_le_of_lt inB_len htl5
      have hos : osOf cl (recT tb) = osT tb cl := os_of hnd fun k _ => (recT_ok tb (k % 4)).1
      have hal := aft_len (tb := tb) ok
      have hand := aft_nd hnd cl
      clear hrows hpk hr13 hkm hkf s13 s14 s14b hB9 d9 T9 hc9
      -- wish
      refine ⟨_, rfl, _, rfl, c, rd, cl, recT tb, rfl, hc14, ok, hR.at, fun x hx H15 p va s15 hp hva => ?_, fun hx H15 p va rl rows bs3 s15 hp hva hrl hbk3 hrow => ?_⟩
      · rw [hos] at hx
        obtain ⟨haft, hxk⟩ := reason_some hnd hx
        have s15x := s15
        -- before, due
        refine ⟨_, rfl, d, _, rfl, .inl (s15 _ _ d14), fun bf hbf => ?_⟩
        have s16 := up1 (o := HO.dK (Rt.kvI tb)) hbf
        have e16 : upd H15 bf (HO.dK (Rt.kvI tb)) bf = _ := upd_same
        have bf_d : bf ≠ d := (ne_of_none (s15 _ _ d14) hbf).symm
        generalize upd H15 bf (HO.dK (Rt.kvI tb)) = H16 at s16 e16 ⊢
        have s146 := s15.trans s16
        have d16 := s146 _ _ d14
        refine ⟨_, rfl, _, rfl, d, c, tb, cl, rfl, d16, hnd, by omega, hc14.same s146, ok, fun H17 du k17 d17 hdu => ?_⟩
        have x17 : ExT H16 H17 := Kept.extD k17 d16
        have hp17 := (hp.same s16).extT x17
        have hva17 := (hva.same s16).ext x17
        have bf17 := k17 _ _ e16 bf_d
        have rd17 := k17 _ _ (s146 _ _ rd14) rd_d
        have kp17 := k17 _ _ (s146 _ _ kp14) kp_d
        have B17 := k17 _ _ (s146 _ _ hB14) d_Bk.symm
        have hc17 := (hc14.same s146).ext x17
        have T17 := (T14.same s146).kept k17 d_tp.symm d_sp.symm
        rw [hos, ans_of] at hva17
        generalize hanq : ansOf tb cl = an at hva17 hdu
        -- the first test
        obtain ⟨ty5, hy5, hb5⟩ := ans_isi hva17
        obtain ⟨ty6, hy6, hb6⟩ := ans_isi hdu
        refine ⟨_, rfl, _, rfl, rd, kp, kvs, rfl, rfl, rd17, kp17, hkv, _, rfl, iteF ?_⟩
        refine ⟨_, rfl, p, _, 1, _, rfl, rfl, hp17, at1, _, rfl, ansE an, ansE an, hva17.dp, hdu.dp, ansE_sh _, ansE_sh _, _, rfl, ?_⟩
        rw [eqv_sh (ansE_sh an)]
        refine iteF ?_
        refine ⟨_, rfl, p, _, 1, _, rfl, rfl, hp17, at1, _, _, _, _, _, rfl, .ty "bool", hy5, hb5, _, rfl, _, _, _, _, _, rfl, .ty "bool", hy6, hb6, (by cases an <;> rfl), _, rfl, iteNS rfl ?_⟩
        rw [haft] at d17
        refine ⟨_, rfl, p, _, 0, _, rfl, rfl, hp17, at0, rfl, _, rfl, iteD rfl ?_⟩
        refine ⟨_, rfl, _, rfl, d, bf, _, _, rfl, rfl, d17, bf17, rfl, same_dict hnd, _, rfl, iteF ?_⟩
        refine ⟨_, rfl, p, _, 2, _, rfl, rfl, hp17, at2, _, rfl, Bk, _, rfl, .inl (SqL.of B17), rfl, flat_int bs, _, rfl, ?_⟩
        have hxb : x % 4 ∈ bs := (M.m _).mpr (List.mem_map.mpr ⟨x, hxk, rfl⟩)
        rw [show (if (true : Bool) = true then !inV (V.int (x % 4)) (bs.map V.int) else inV (V.int (x % 4)) (bs.map V.int)) = !decide (x % 4 ∈ bs) by rw [if_pos rfl, inV_int]]
        refine iteNS hxb ?_
        refine ⟨_, rfl, p, _, rfl, .inr hp17, rfl, _, rfl, iteNS rfl ?_⟩
        have hR17 : RecsD K H17 rd kvs cl (recT tb) := (hR.same s146).kept (rd17.trans (s146 _ _ rd14).symm) x17
        refine ⟨_, rfl, _, rfl, _, rfl, c, p, rd, cl, recT tb, kvs, x, rfl, hc17, ok, hR17, by rw [hos]; exact hx, hxk, ⟨va, hp17, by rw [hos, ans_of, hanq]; exact hva17⟩, fun H18 s18 => ⟨_, rfl, iteF ?_⟩⟩
        exact ⟨_, _, _, _, _, _, _, _, _, _, _, _, tb, _, _, _, rfl, s18 _ _ d17, hnd, by omega, T17.same s18⟩
      · rw [hos] at hx hrow
        have s15x := s15
        -- before, due
        refine ⟨_, rfl, d, _, rfl, .inl (s15 _ _ d14), fun bf hbf => ?_⟩
        have s16 := up1 (o := HO.dK (Rt.kvI tb)) hbf
        have e16 : upd H15 bf (HO.dK (Rt.kvI tb)) bf = _ := upd_same
        have bf_d : bf ≠ d := (ne_of_none (s15 _ _ d14) hbf).symm
        generalize upd H15 bf (HO.dK (Rt.kvI tb)) = H16 at s16 e16 ⊢
        have s146 := s15.trans s16
        have d16 := s146 _ _ d14
        refine ⟨_, rfl, _, rfl, d, c, tb, cl, rfl, d16, hnd, by omega, hc14.same s146, ok, fun H17 du k17 d17 hdu => ?_⟩
        have x17 : ExT H16 H17 := Kept.extD k17 d16
        have hp17 := (hp.same s16).extT x17
        have hva17 := (hva.same s16).ext x17
        have bf17 := k17 _ _ e16 bf_d
        have rd17 := k17 _ _ (s146 _ _ rd14) rd_d
        have kp17 := k17 _ _ (s146 _ _ kp14) kp_d
        have B17 := k17 _ _ (s146 _ _ hB14) d_Bk.symm
        have hc17 := (hc14.same s146).ext x17
        have T17 := (T14.same s146).kept k17 d_tp.symm d_sp.symm
        rw [hos, ans_of] at hva17
        generalize hanq : ansOf tb cl = an at hva17 hdu
        -- the first test
        obtain ⟨ty5, hy5, hb5⟩ := ans_isi hva17
        obtain ⟨ty6, hy6, hb6⟩ := ans_isi hdu
        refine ⟨_, rfl, _, rfl, rd, kp, kvs, rfl, rfl, rd17, kp17, hkv, _, rfl, iteF ?_⟩
        refine ⟨_, rfl, p, _, 1, _, rfl, rfl, hp17, at1, _, rfl, ansE an, ansE an, hva17.dp, hdu.dp, ansE_sh _, ansE_sh _, _, rfl, ?_⟩
        rw [eqv_sh (ansE_sh an)]
        refine iteF ?_
        refine ⟨_, rfl, p, _, 1, _, rfl, rfl, hp17, at1, _, _, _, _, _, rfl, .ty "bool", hy5, hb5, _, rfl, _, _, _, _, _, rfl, .ty "bool", hy6, hb6, (by cases an <;> rfl), _, rfl, iteNS rfl ?_⟩
        refine ⟨_, rfl, p, _, 0, _, rfl, rfl, hp17, at0, rfl, _, rfl, iteND (by decide) ?_⟩
        -- rows
        refine ⟨_, rfl, Bk, bs, rfl, SqL.of B17, fun b1 q18 hpm18 hpw18 hq18 => ?_⟩
        have eb1 : b2 = b1 := bks_eq hbk hpw18 (hpm18.nodup_iff.mpr M.nd) fun b => hpm18.mem_iff.trans (M.m b)
        subst eb1
        have eb3 : bs3 = b2 := bks_eq hbk3 hpw18 (hpm18.nodup_iff.mpr M.nd) fun b => hpm18.mem_iff.trans (M.m b)
        subst eb3
        have s18 := up1 (o := HO.lst (bs3.map V.int)) hq18
        have q18e : upd H17 q18 (HO.lst (bs3.map V.int)) q18 = _ := upd_same
        generalize upd H17 q18 (HO.lst (bs3.map V.int)) = H18 at s18 q18e ⊢
        have hlb : bs3.length ≤ 3 := by rw [hpm18.length_eq]; exact hMl
        refine ⟨q18, rfl, ⟨_, SqL.of q18e⟩, fun D hD => lc_list (xs := bs3.map V.int) (fun j H' => ∃ rows2, H' D = some (.lst rows2) ∧ Paired (RowR K H' (recT (aftOf tb cl))) rows2 (bs3.take j) ∧ Same H18 H') ⟨[], upd_same, .nil, up1 hD⟩ (fun j H' _ z => by obtain ⟨_, _, _, s⟩ := z; exact SqL.of (s _ _ q18e)) ?_ ?_⟩
        · rintro j v H' hj ⟨rows2, hr', hp', sD⟩
          have hjl : j < bs3.length := by
            have := (List.getElem?_eq_some_iff.mp hj).1
            rw [List.length_map] at this
            exact this
          rw [List.getElem?_map, List.getElem?_eq_getElem hjl] at hj
          cases hj
          have hrl2 : rows2.length ≤ bs3.length := by rw [plen hp', List.length_take]; omega
          rw [List.take_succ_eq_append_getElem hjl]
          generalize bs3[j] = b at *
          refine ⟨rfl, _, rfl, _, rfl, _, rfl, d, b, aftOf tb cl, rfl, sD _ _ (s18 _ _ d17), hand, by omega, fun H2' r ms s' R hpm hsr => ⟨(by show 2 ≤ sizeLine; omega), fun t ht => ?_⟩⟩
          have em := recT_eq hpm hsr
          subst em
          have s3' := up1 (o := HO.tup [V.int b, V.ref r]) ht
          have e3' : upd H2' t (HO.tup [V.int b, V.ref r]) t = _ := upd_same
          generalize upd H2' t (HO.tup [V.int b, V.ref r]) = H3' at s3' e3' ⊢
          have sx := s'.trans s3'
          have x4' : ExT H3' (upd H3' D (.lst (rows2 ++ [.ref t]))) := Kept.ext (a := D) (fun b o e n => by rw [upd_ne n]; exact e) (sx _ _ hr')
          exact ⟨rows2, sx _ _ hr', by omega, rows2 ++ [.ref t], upd_same, papp (pmono (fun _ _ h => h.ext ((ExT.of sx).trans x4')) hp') (.cons ⟨t, r, rfl, (SqT.of e3').extT x4', (R.same s3').ext x4'⟩ .nil), fun b o e => by rw [upd_ne (ne_of_none e hD)]; exact sx _ _ (sD _ _ e)⟩
        rintro H19 ⟨rows2, hr19, hrows2, s19⟩
        rw [List.length_map, List.take_length] at hrows2
        have s179 := s18.trans s19
        refine ⟨_, rfl, _, rfl, _, rfl, (by show 3 ≤ sizeLine; omega), fun p2 hp2 => ?_⟩
        have s20 := up1 (o := HO.tup [V.str "change", du, V.ref D]) hp2
        have e20 : upd H19 p2 (HO.tup [V.str "change", du, V.ref D]) p2 = _ := upd_same
        generalize upd H19 p2 (HO.tup [V.str "change", du, V.ref D]) = H20 at s20 e20 ⊢
        have s170 := s179.trans s20
        -- the plan's rows
        have rl_d : rl ≠ d := ne_of hrl (s15x _ _ d14) (by intro z; cases z)
        have rl20 := s170 _ _ (k17 _ _ (s16 _ _ hrl) rl_d)
        have hrow20 : Paired (RowR K H20 (recT (aftOf tb cl))) rows bs3 := by
          refine pairedM hrow fun v b hb h => ?_
          obtain ⟨t, r, ms, e, h1, h2, h3, h4⟩ := h
          have : ms = recT (aftOf tb cl) b := rec_next hnd hx (recT_ok tb b).1 h3 h4 (recT_ok _ _).1 (recT_ok _ _).2
          subst this
          exact ⟨t, r, e, ((h1.same s16).extT x17).same s170, ((h2.same s16).ext x17).same s170⟩
        have hrow2' : Paired (RowR K H20 (recT (aftOf tb cl))) rows2 bs3 := pmono (fun _ _ h => h.ext (.of s20)) hrows2
        refine ⟨chE an (recT (aftOf tb cl)) bs3, chE an (recT (aftOf tb cl)) bs3, .tup (hp17.same s170) (.cons (.str _) (.cons (hva17.same s170).dp (.cons (.lst (SqL.of rl20) (rowsR_dp hrow20)) .nil))), .tup (SqT.of e20) (.cons (.str _) (.cons (hdu.same s170).dp (.cons (.lst (SqL.of (s20 _ _ hr19)) (rowsR_dp hrow2')) .nil))), chE_sh _ _ _, chE_sh _ _ _, _, rfl, ?_⟩
        rw [eqv_sh (chE_sh an (recT (aftOf tb cl)) bs3)]
        refine iteF ?_
        have d20 := s170 _ _ d17
        refine ⟨_, rfl, _, rfl, d, bf, aftOf tb cl, tb, rfl, rfl, d20, s170 _ _ bf17, _, rfl, ?_⟩
        cases heq : Sr.eqTb (aftOf tb cl) tb with
        | false => exact iteF ⟨_, _, _, _, _, _, _, _, _, _, _, _, aftOf tb cl, _, _, _, rfl, d20, hand, by omega, T17.same s170⟩
        | true =>
          refine iteT ⟨_, rfl, Bk, _, rfl, .inl (SqL.of (s170 _ _ B17)), rfl, _, rfl, iteND (fun z => ?_) ⟨_, _, _, _, _, _, _, _, _, _, _, _, aftOf tb cl, _, _, _, rfl, d20, hand, by omega, T17.same s170⟩⟩
          have z := V.int.inj z
          rw [List.length_map] at z
          have h1 : oneB cl = true := by
            rw [← bks_one ok hbk3]
            refine decide_eq_true ?_
            rw [hpm18.length_eq]
            omega
          rw [reason_none hnd ok hx h1] at heq
          cases heq
    · rintro σ H' ⟨x3, x4, x5, x6, x7, x8, x9, x10, x11, x12, x13, x14, tb, pos, rest, seed, rfl, _⟩
      exact kQ _
end
end Dk

set_option maxHeartbeats 8000000
namespace Dk
open PySem PySem.Spec PyProof.Rows L2
theorem all_mk {l : PySem.W.OpenLaw} {w : World} {K : PySem.W.Frag} {h : Heap} {mg : Str → Option Value} {fa f1 f2 f3 f4 f5 f6 f7 f8 f9 f10 f11 f12 f13 f14 f15 f16 f17 f18 f19 f20 f21 f22 : Addr} (X : K.In h) (G : h.Ns mainGlobals mg) (hfa : mg "law" = some (.ref fa))
    {tB : Tok}
    {od1 an1 : Option Addr} {sl1 : Array (Option Value)} {oc1 kV1 dc1 pm1 cd1 ct1 : Value}
    {od2 an2 : Option Addr} {sl2 : Array (Option Value)} {oc2 kV2 dc2 pm2 cd2 ct2 : Value}
    {od3 an3 : Option Addr} {sl3 : Array (Option Value)} {oc3 kV3 dc3 pm3 cd3 ct3 : Value}
    {od4 an4 : Option Addr} {sl4 : Array (Option Value)} {oc4 kV4 dc4 pm4 cd4 ct4 : Value}
    {od5 an5 : Option Addr} {sl5 : Array (Option Value)} {oc5 kV5 dc5 pm5 cd5 ct5 : Value}
    {od6 an6 : Option Addr} {sl6 : Array (Option Value)} {oc6 kV6 dc6 pm6 cd6 ct6 : Value}
    {od7 an7 : Option Addr} {sl7 : Array (Option Value)} {oc7 kV7 dc7 pm7 cd7 ct7 : Value}
    {od8 an8 : Option Addr} {sl8 : Array (Option Value)} {oc8 kV8 dc8 pm8 cd8 ct8 : Value}
    {od9 an9 : Option Addr} {sl9 : Array (Option Value)} {oc9 kV9 dc9 pm9 cd9 ct9 : Value}
    {od10 an10 : Option Addr} {sl10 : Array (Option Value)} {oc10 kV10 dc10 pm10 cd10 ct10 : Value}
    {od11 an11 : Option Addr} {sl11 : Array (Option Value)} {oc11 kV11 dc11 pm11 cd11 ct11 : Value}
    {od12 an12 : Option Addr} {sl12 : Array (Option Value)} {oc12 kV12 dc12 pm12 cd12 ct12 : Value}
    {od13 an13 : Option Addr} {sl13 : Array (Option Value)} {oc13 kV13 dc13 pm13 cd13 ct13 : Value}
    {od14 an14 : Option Addr} {sl14 : Array (Option Value)} {oc14 kV14 dc14 pm14 cd14 ct14 : Value}
    {od15 an15 : Option Addr} {sl15 : Array (Option Value)} {oc15 kV15 dc15 pm15 cd15 ct15 : Value}
    {od16 an16 : Option Addr} {sl16 : Array (Option Value)} {oc16 kV16 dc16 pm16 cd16 ct16 : Value}
    {od17 an17 : Option Addr} {sl17 : Array (Option Value)} {oc17 kV17 dc17 pm17 cd17 ct17 : Value}
    {od18 an18 : Option Addr} {sl18 : Array (Option Value)} {oc18 kV18 dc18 pm18 cd18 ct18 : Value}
    {od19 an19 : Option Addr} {sl19 : Array (Option Value)} {oc19 kV19 dc19 pm19 cd19 ct19 : Value}
    {od20 an20 : Option Addr} {sl20 : Array (Option Value)} {oc20 kV20 dc20 pm20 cd20 ct20 : Value}
    {od21 an21 : Option Addr} {sl21 : Array (Option Value)} {oc21 kV21 dc21 pm21 cd21 ct21 : Value}
    {od22 an22 : Option Addr} {sl22 : Array (Option Value)} {oc22 kV22 dc22 pm22 cd22 ct22 : Value}
    (a1 : PySem.W.nsIn K mainGlobals "is_whole" = some (some (.ref f1)))
    (l1 : K.lookup f1 = some ⟨oc1, od1, .func (PySem.W.fnOf "is_whole" "is_whole" (defArgs sWhole) (defBody sWhole) (defScope sWhole) .none kV1 dc1 pm1 an1 cd1 ct1), sl1⟩)
    (c1 : PySem.W.codeIn K cd1 "is_whole" = true)
    (k1 : PySem.W.keepIn K (.ref f1) = true)
    (a2 : PySem.W.nsIn K mainGlobals "is_within" = some (some (.ref f2)))
    (l2 : K.lookup f2 = some ⟨oc2, od2, .func (PySem.W.fnOf "is_within" "is_within" (defArgs sWithin) (defBody sWithin) (defScope sWithin) .none kV2 dc2 pm2 an2 cd2 ct2), sl2⟩)
    (c2 : PySem.W.codeIn K cd2 "is_within" = true)
    (k2 : PySem.W.keepIn K (.ref f2) = true)
    (a3 : PySem.W.nsIn K mainGlobals "bucket_of" = some (some (.ref f3)))
    (l3 : K.lookup f3 = some ⟨oc3, od3, .func (PySem.W.fnOf "bucket_of" "bucket_of" (defArgs sBucket) (defBody sBucket) (defScope sBucket) .none kV3 dc3 pm3 an3 cd3 ct3), sl3⟩)
    (c3 : PySem.W.codeIn K cd3 "bucket_of" = true)
    (k3 : PySem.W.keepIn K (.ref f3) = true)
    (a4 : PySem.W.nsIn K mainGlobals "value_in" = some (some (.ref f4)))
    (l4 : K.lookup f4 = some ⟨oc4, od4, .func (PySem.W.fnOf "value_in" "value_in" (defArgs sValIn) (defBody sValIn) (defScope sValIn) .none kV4 dc4 pm4 an4 cd4 ct4), sl4⟩)
    (c4 : PySem.W.codeIn K cd4 "value_in" = true)
    (k4 : PySem.W.keepIn K (.ref f4) = true)
    (a5 : PySem.W.nsIn K mainGlobals "with_item" = some (some (.ref f5)))
    (l5 : K.lookup f5 = some ⟨oc5, od5, .func (PySem.W.fnOf "with_item" "with_item" (defArgs sWith) (defBody sWith) (defScope sWith) .none kV5 dc5 pm5 an5 cd5 ct5), sl5⟩)
    (c5 : PySem.W.codeIn K cd5 "with_item" = true)
    (k5 : PySem.W.keepIn K (.ref f5) = true)
    (a6 : PySem.W.nsIn K mainGlobals "without_item" = some (some (.ref f6)))
    (l6 : K.lookup f6 = some ⟨oc6, od6, .func (PySem.W.fnOf "without_item" "without_item" (defArgs sWithout) (defBody sWithout) (defScope sWithout) .none kV6 dc6 pm6 an6 cd6 ct6), sl6⟩)
    (c6 : PySem.W.codeIn K cd6 "without_item" = true)
    (k6 : PySem.W.keepIn K (.ref f6) = true)
    (a7 : PySem.W.nsIn K mainGlobals "is_call" = some (some (.ref f7)))
    (l7 : K.lookup f7 = some ⟨oc7, od7, .func (PySem.W.fnOf "is_call" "is_call" (defArgs sIsCall) (defBody sIsCall) (defScope sIsCall) .none kV7 dc7 pm7 an7 cd7 ct7), sl7⟩)
    (c7 : PySem.W.codeIn K cd7 "is_call" = true)
    (k7 : PySem.W.keepIn K (.ref f7) = true)
    (a8 : PySem.W.nsIn K mainGlobals "is_pairs" = some (some (.ref f8)))
    (l8 : K.lookup f8 = some ⟨oc8, od8, .func (PySem.W.fnOf "is_pairs" "is_pairs" (defArgs sIsPairs) (defBody sIsPairs) (defScope sIsPairs) .none kV8 dc8 pm8 an8 cd8 ct8), sl8⟩)
    (c8 : PySem.W.codeIn K cd8 "is_pairs" = true)
    (k8 : PySem.W.keepIn K (.ref f8) = true)
    (a9 : PySem.W.nsIn K mainGlobals "keys_of" = some (some (.ref f9)))
    (l9 : K.lookup f9 = some ⟨oc9, od9, .func (PySem.W.fnOf "keys_of" "keys_of" (defArgs sKeysOf) (defBody sKeysOf) (defScope sKeysOf) .none kV9 dc9 pm9 an9 cd9 ct9), sl9⟩)
    (c9 : PySem.W.codeIn K cd9 "keys_of" = true)
    (k9 : PySem.W.keepIn K (.ref f9) = true)
    (a10 : PySem.W.nsIn K mainGlobals "buckets_of" = some (some (.ref f10)))
    (l10 : K.lookup f10 = some ⟨oc10, od10, .func (PySem.W.fnOf "buckets_of" "buckets_of" (defArgs sBkts) (defBody sBkts) (defScope sBkts) .none kV10 dc10 pm10 an10 cd10 ct10), sl10⟩)
    (c10 : PySem.W.codeIn K cd10 "buckets_of" = true)
    (k10 : PySem.W.keepIn K (.ref f10) = true)
    (a11 : PySem.W.nsIn K mainGlobals "plan" = some (some (.ref f11)))
    (l11 : K.lookup f11 = some ⟨oc11, od11, .func (PySem.W.fnOf "plan" "plan" (defArgs sPlan) (defBody sPlan) (defScope sPlan) .none kV11 dc11 pm11 an11 cd11 ct11), sl11⟩)
    (c11 : PySem.W.codeIn K cd11 "plan" = true)
    (k11 : PySem.W.keepIn K (.ref f11) = true)
    (a12 : PySem.W.nsIn K mainGlobals "answer_by" = some (some (.ref f12)))
    (l12 : K.lookup f12 = some ⟨oc12, od12, .func (PySem.W.fnOf "answer_by" "answer_by" (defArgs sAnsBy) (defBody sAnsBy) (defScope sAnsBy) .none kV12 dc12 pm12 an12 cd12 ct12), sl12⟩)
    (c12 : PySem.W.codeIn K cd12 "answer_by" = true)
    (k12 : PySem.W.keepIn K (.ref f12) = true)
    (a13 : PySem.W.nsIn K mainGlobals "reason_key" = some (some (.ref f13)))
    (l13 : K.lookup f13 = some ⟨oc13, od13, .func (PySem.W.fnOf "reason_key" "reason_key" (defArgs sReason) (defBody sReason) (defScope sReason) .none kV13 dc13 pm13 an13 cd13 ct13), sl13⟩)
    (c13 : PySem.W.codeIn K cd13 "reason_key" = true)
    (k13 : PySem.W.keepIn K (.ref f13) = true)
    (a14 : PySem.W.nsIn K mainGlobals "move_reason" = some (some (.ref f14)))
    (l14 : K.lookup f14 = some ⟨oc14, od14, .func (PySem.W.fnOf "move_reason" "move_reason" (defArgs sMoveR) (defBody sMoveR) (defScope sMoveR) .none kV14 dc14 pm14 an14 cd14 ct14), sl14⟩)
    (c14 : PySem.W.codeIn K cd14 "move_reason" = true)
    (k14 : PySem.W.keepIn K (.ref f14) = true)
    (a15 : PySem.W.nsIn K mainGlobals "new_items" = some (some (.ref f15)))
    (l15 : K.lookup f15 = some ⟨oc15, od15, .func (PySem.W.fnOf "new_items" "new_items" (defArgs sNewIt) (defBody sNewIt) (defScope sNewIt) .none kV15 dc15 pm15 an15 cd15 ct15), sl15⟩)
    (c15 : PySem.W.codeIn K cd15 "new_items" = true)
    (k15 : PySem.W.keepIn K (.ref f15) = true)
    (a16 : PySem.W.nsIn K mainGlobals "with_items" = some (some (.ref f16)))
    (l16 : K.lookup f16 = some ⟨oc16, od16, .func (PySem.W.fnOf "with_items" "with_items" (defArgs sWithIts) (defBody sWithIts) (defScope sWithIts) .none kV16 dc16 pm16 an16 cd16 ct16), sl16⟩)
    (c16 : PySem.W.codeIn K cd16 "with_items" = true)
    (k16 : PySem.W.keepIn K (.ref f16) = true)
    (a17 : PySem.W.nsIn K mainGlobals "_law_next" = some (some (.ref f17)))
    (l17 : K.lookup f17 = some ⟨oc17, od17, .func (PySem.W.fnOf "_law_next" "_law_next" (defArgs sNext) (defBody sNext) (defScope sNext) .none kV17 dc17 pm17 an17 cd17 ct17), sl17⟩)
    (c17 : PySem.W.codeIn K cd17 "_law_next" = true)
    (k17 : PySem.W.keepIn K (.ref f17) = true)
    (a18 : PySem.W.nsIn K mainGlobals "_law_call" = some (some (.ref f18)))
    (l18 : K.lookup f18 = some ⟨oc18, od18, .func (PySem.W.fnOf "_law_call" "_law_call" (defArgs sLCall) (defBody sLCall) (defScope sLCall) .none kV18 dc18 pm18 an18 cd18 ct18), sl18⟩)
    (c18 : PySem.W.codeIn K cd18 "_law_call" = true)
    (k18 : PySem.W.keepIn K (.ref f18) = true)
    (a19 : PySem.W.nsIn K mainGlobals "_law_does" = some (some (.ref f19)))
    (l19 : K.lookup f19 = some ⟨oc19, od19, .func (PySem.W.fnOf "_law_does" "_law_does" (defArgs sDoes) (defBody sDoes) (defScope sDoes) .none kV19 dc19 pm19 an19 cd19 ct19), sl19⟩)
    (c19 : PySem.W.codeIn K cd19 "_law_does" = true)
    (k19 : PySem.W.keepIn K (.ref f19) = true)
    (a20 : PySem.W.nsIn K mainGlobals "_law_record" = some (some (.ref f20)))
    (l20 : K.lookup f20 = some ⟨oc20, od20, .func (PySem.W.fnOf "_law_record" "_law_record" (defArgs sRecd) (defBody sRecd) (defScope sRecd) .none kV20 dc20 pm20 an20 cd20 ct20), sl20⟩)
    (c20 : PySem.W.codeIn K cd20 "_law_record" = true)
    (k20 : PySem.W.keepIn K (.ref f20) = true)
    (a21 : PySem.W.nsIn K mainGlobals "_law_alone" = some (some (.ref f21)))
    (l21 : K.lookup f21 = some ⟨oc21, od21, .func (PySem.W.fnOf "_law_alone" "_law_alone" (defArgs sAlone) (defBody sAlone) (defScope sAlone) .none kV21 dc21 pm21 an21 cd21 ct21), sl21⟩)
    (c21 : PySem.W.codeIn K cd21 "_law_alone" = true)
    (k21 : PySem.W.keepIn K (.ref f21) = true)
    (a22 : PySem.W.nsIn K mainGlobals "law" = some (some (.ref f22)))
    (l22 : K.lookup f22 = some ⟨oc22, od22, .func (PySem.W.fnOf "law" "law" (defArgs sLaw) (defBody sLaw) (defScope sLaw) .none kV22 dc22 pm22 an22 cd22 ct22), sl22⟩)
    (c22 : PySem.W.codeIn K cd22 "law" = true)
    (k22 : PySem.W.keepIn K (.ref f22) = true)
    (gBk : PySem.W.nsIn K mainGlobals "BUCKETS" = some (some (.int 4 tB)))
    (z_isinstance : PySem.W.nsIn K mainGlobals "isinstance" = some none)
    (z_int : PySem.W.nsIn K mainGlobals "int" = some none)
    (z_bool : PySem.W.nsIn K mainGlobals "bool" = some none)
    (z_tuple : PySem.W.nsIn K mainGlobals "tuple" = some none)
    (z_range : PySem.W.nsIn K mainGlobals "range" = some none)
    (z_len : PySem.W.nsIn K mainGlobals "len" = some none)
    (z_list : PySem.W.nsIn K mainGlobals "list" = some none)
    (z_sorted : PySem.W.nsIn K mainGlobals "sorted" = some none)
    (z_abs : PySem.W.nsIn K mainGlobals "abs" = some none)
    (z_dict : PySem.W.nsIn K mainGlobals "dict" = some none)
    : ∃ fd : FuncData, (∀ (s : Shared) (v : Value), BindsTo s fd ⟨[v], []⟩ [("script", v)]) ∧ ∀ base : Heap, K.In base → base.Ns mainGlobals mg → FnOk l.prog w K mg base CX0 6 fa fd ["script"] (spLaw K) := by
  have e := hfa.symm.trans (PySem.W.mg_of X G a22)
  cases e
  have F1 := fun_mk (st := sWhole) l1 c1 k1
  have b1 := F1.binds (ps := ["value"]) fun _ _ _ _ _ _ us hl => match us, hl with | [_], _ => rfl
  have T_is_whole : GT K mg "is_whole" sWhole ["value"] := ⟨_, _, F1, PySem.W.mg_of X G a1, b1⟩
  have F2 := fun_mk (st := sWithin) l2 c2 k2
  have b2 := F2.binds (ps := ["value", "low", "high"]) fun _ _ _ _ _ _ us hl => match us, hl with | [_, _, _], _ => rfl
  have T_is_within : GT K mg "is_within" sWithin ["value", "low", "high"] := ⟨_, _, F2, PySem.W.mg_of X G a2, b2⟩
  have F3 := fun_mk (st := sBucket) l3 c3 k3
  have b3 := F3.binds (ps := ["key"]) fun _ _ _ _ _ _ us hl => match us, hl with | [_], _ => rfl
  have T_bucket_of : GT K mg "bucket_of" sBucket ["key"] := ⟨_, _, F3, PySem.W.mg_of X G a3, b3⟩
  have F4 := fun_mk (st := sValIn) l4 c4 k4
  have b4 := F4.binds (ps := ["record", "key"]) fun _ _ _ _ _ _ us hl => match us, hl with | [_, _], _ => rfl
  have T_value_in : GT K mg "value_in" sValIn ["record", "key"] := ⟨_, _, F4, PySem.W.mg_of X G a4, b4⟩
  have F5 := fun_mk (st := sWith) l5 c5 k5
  have b5 := F5.binds (ps := ["record", "key", "value"]) fun _ _ _ _ _ _ us hl => match us, hl with | [_, _, _], _ => rfl
  have T_with_item : GT K mg "with_item" sWith ["record", "key", "value"] := ⟨_, _, F5, PySem.W.mg_of X G a5, b5⟩
  have F6 := fun_mk (st := sWithout) l6 c6 k6
  have b6 := F6.binds (ps := ["record", "key"]) fun _ _ _ _ _ _ us hl => match us, hl with | [_, _], _ => rfl
  have T_without_item : GT K mg "without_item" sWithout ["record", "key"] := ⟨_, _, F6, PySem.W.mg_of X G a6, b6⟩
  have F7 := fun_mk (st := sIsCall) l7 c7 k7
  have b7 := F7.binds (ps := ["value"]) fun _ _ _ _ _ _ us hl => match us, hl with | [_], _ => rfl
  have T_is_call : GT K mg "is_call" sIsCall ["value"] := ⟨_, _, F7, PySem.W.mg_of X G a7, b7⟩
  have F8 := fun_mk (st := sIsPairs) l8 c8 k8
  have b8 := F8.binds (ps := ["value"]) fun _ _ _ _ _ _ us hl => match us, hl with | [_], _ => rfl
  have T_is_pairs : GT K mg "is_pairs" sIsPairs ["value"] := ⟨_, _, F8, PySem.W.mg_of X G a8, b8⟩
  have F9 := fun_mk (st := sKeysOf) l9 c9 k9
  have b9 := F9.binds (ps := ["call"]) fun _ _ _ _ _ _ us hl => match us, hl with | [_], _ => rfl
  have T_keys_of : GT K mg "keys_of" sKeysOf ["call"] := ⟨_, _, F9, PySem.W.mg_of X G a9, b9⟩
  have F10 := fun_mk (st := sBkts) l10 c10 k10
  have b10 := F10.binds (ps := ["call"]) fun _ _ _ _ _ _ us hl => match us, hl with | [_], _ => rfl
  have T_buckets_of : GT K mg "buckets_of" sBkts ["call"] := ⟨_, _, F10, PySem.W.mg_of X G a10, b10⟩
  have F11 := fun_mk (st := sPlan) l11 c11 k11
  have b11 := F11.binds (ps := ["call", "records"]) fun _ _ _ _ _ _ us hl => match us, hl with | [_, _], _ => rfl
  have T_plan : GT K mg "plan" sPlan ["call", "records"] := ⟨_, _, F11, PySem.W.mg_of X G a11, b11⟩
  have F12 := fun_mk (st := sAnsBy) l12 c12 k12
  have b12 := F12.binds (ps := ["call", "values"]) fun _ _ _ _ _ _ us hl => match us, hl with | [_, _], _ => rfl
  have T_answer_by : GT K mg "answer_by" sAnsBy ["call", "values"] := ⟨_, _, F12, PySem.W.mg_of X G a12, b12⟩
  have F13 := fun_mk (st := sReason) l13 c13 k13
  have b13 := F13.binds (ps := ["call", "values"]) fun _ _ _ _ _ _ us hl => match us, hl with | [_, _], _ => rfl
  have T_reason_key : GT K mg "reason_key" sReason ["call", "values"] := ⟨_, _, F13, PySem.W.mg_of X G a13, b13⟩
  have F14 := fun_mk (st := sMoveR) l14 c14 k14
  have b14 := F14.binds (ps := ["call", "values"]) fun _ _ _ _ _ _ us hl => match us, hl with | [_, _], _ => rfl
  have T_move_reason : GT K mg "move_reason" sMoveR ["call", "values"] := ⟨_, _, F14, PySem.W.mg_of X G a14, b14⟩
  have F15 := fun_mk (st := sNewIt) l15 c15 k15
  have b15 := F15.binds (ps := ["call", "values"]) fun _ _ _ _ _ _ us hl => match us, hl with | [_, _], _ => rfl
  have T_new_items : GT K mg "new_items" sNewIt ["call", "values"] := ⟨_, _, F15, PySem.W.mg_of X G a15, b15⟩
  have F16 := fun_mk (st := sWithIts) l16 c16 k16
  have b16 := F16.binds (ps := ["record", "bucket", "items"]) fun _ _ _ _ _ _ us hl => match us, hl with | [_, _, _], _ => rfl
  have T_with_items : GT K mg "with_items" sWithIts ["record", "bucket", "items"] := ⟨_, _, F16, PySem.W.mg_of X G a16, b16⟩
  have F17 := fun_mk (st := sNext) l17 c17 k17
  have b17 := F17.binds (ps := ["tape", "many"]) fun _ _ _ _ _ _ us hl => match us, hl with | [_, _], _ => rfl
  have T__law_next : GT K mg "_law_next" sNext ["tape", "many"] := ⟨_, _, F17, PySem.W.mg_of X G a17, b17⟩
  have F18 := fun_mk (st := sLCall) l18 c18 k18
  have b18 := F18.binds (ps := ["tape"]) fun _ _ _ _ _ _ us hl => match us, hl with | [_], _ => rfl
  have T__law_call : GT K mg "_law_call" sLCall ["tape"] := ⟨_, _, F18, PySem.W.mg_of X G a18, b18⟩
  have F19 := fun_mk (st := sDoes) l19 c19 k19
  have b19 := F19.binds (ps := ["plain", "call"]) fun _ _ _ _ _ _ us hl => match us, hl with | [_, _], _ => rfl
  have T__law_does : GT K mg "_law_does" sDoes ["plain", "call"] := ⟨_, _, F19, PySem.W.mg_of X G a19, b19⟩
  have F20 := fun_mk (st := sRecd) l20 c20 k20
  have b20 := F20.binds (ps := ["plain", "bucket"]) fun _ _ _ _ _ _ us hl => match us, hl with | [_, _], _ => rfl
  have T__law_record : GT K mg "_law_record" sRecd ["plain", "bucket"] := ⟨_, _, F20, PySem.W.mg_of X G a20, b20⟩
  have F21 := fun_mk (st := sAlone) l21 c21 k21
  have b21 := F21.binds (ps := ["call", "wish", "records"]) fun _ _ _ _ _ _ us hl => match us, hl with | [_, _, _], _ => rfl
  have T__law_alone : GT K mg "_law_alone" sAlone ["call", "wish", "records"] := ⟨_, _, F21, PySem.W.mg_of X G a21, b21⟩
  have F22 := fun_mk (st := sLaw) l22 c22 k22
  have Bn0 : Bn mg := ⟨PySem.W.mg_none_of X G z_isinstance, PySem.W.mg_none_of X G z_int, PySem.W.mg_none_of X G z_bool, PySem.W.mg_none_of X G z_tuple, PySem.W.mg_none_of X G z_range, PySem.W.mg_none_of X G z_len, PySem.W.mg_none_of X G z_list, PySem.W.mg_none_of X G z_sorted, PySem.W.mg_none_of X G z_abs, PySem.W.mg_none_of X G z_dict⟩
  refine ⟨PySem.W.fnOf "law" "law" (defArgs sLaw) (defBody sLaw) (defScope sLaw) .none kV22 dc22 pm22 an22 cd22 ct22, fun s v => .of_eq rfl, fun base _ _ => ?_⟩
  have Gwh := go_whole (P := l.prog) (w := w) (base := base) T_is_whole Bn0
  have Gwt := go_within T_is_within Gwh
  have Gbk := go_bucket (P := l.prog) (w := w) (base := base) T_bucket_of (PySem.W.mg_of X G gBk)
  have Gvi := go_valin (P := l.prog) (w := w) (base := base) T_value_in
  have Gwo := go_without (P := l.prog) (w := w) (base := base) T_without_item Bn0
  have Gwi := go_with T_with_item Bn0 Gwo
  have Gps := go_ispairs rfl T_is_pairs Bn0 Gwh Gwt
  have Gic := go_iscall T_is_call Bn0 Gwh Gps
  have Gko := go_keys (P := l.prog) (w := w) (base := base) T_keys_of Bn0
  have Gbo := go_bkts T_buckets_of Bn0 Gbk Gko
  have Gab := go_ansby (P := l.prog) (w := w) (base := base) T_answer_by Bn0
  have Gmr := go_mover (P := l.prog) (w := w) (base := base) T_move_reason
  have Grk := go_reason T_reason_key Bn0 Gko Gbo Gmr
  have Gni := go_newit (P := l.prog) (w := w) (base := base) T_new_items Bn0
  have Gws := go_withits T_with_items Gbk Gwo Gwi
  have Gpl := go_plan T_plan Gbk Gvi Gko Gbo Gab Grk Gni Gws
  have Gnx := go_next (P := l.prog) (w := w) (base := base) T__law_next Bn0
  have Gca := go_lcall T__law_call Bn0 Gnx
  have Gdo := go_does (P := l.prog) (w := w) (base := base) T__law_does Bn0
  have Gre := go_recd (P := l.prog) (w := w) (base := base) T__law_record Bn0
  have Gal := go_alone T__law_alone Bn0 Gpl
  exact ok_law F22 Bn0 Gnx Gca Gic Gbo Gre Gpl Gdo Gal
theorem walk {l : PySem.W.OpenLaw} {q : Program} {loose : List Str} {XP : (Str → Option Value) → Heap → Prop} {YP : World → Heap → Prop} {d : DefRec} {K : Params → PySem.W.Frag} (hn : l.most = some 63) (hdf : d.params.defaults = [])
    (hY : ∀ (w : World) (h : Heap), YP w h → (K w.params).In h)
    (F : ∀ (w : World) (mg : Str → Option Value) (fa : Addr) (h : Heap), (K w.params).In h → h.Ns mainGlobals mg → mg d.name = some (.ref fa) →
      ∃ fd : FuncData, (∀ (s : Shared) (u : Value), BindsTo s fd ⟨[u], []⟩ [("script", u)]) ∧ ∀ base : Heap, (K w.params).In base → base.Ns mainGlobals mg → FnOk l.prog w (K w.params) mg base CX0 6 fa fd ["script"] (spLaw (K w.params))) :
    PySem.W.WalkO q loose XP YP l.row.toRowW d [] (fun f vs => PySem.call f vs) :=
  L2.walk_of (n := 63) (k := 6) (x := "script") (CX := fun _ => CX0) (sp := fun w => spLaw (K w.params)) hn (by decide) hdf ⟨rfl, by decide, by decide⟩ hY F (fun _ _ a ns hl _ hS => ⟨a, ns, rfl, hS, hl, fun _ => rfl⟩) fun _ _ _ _ _ z => z
end Dk
open PySem PySem.W PyProof.Rows
set_option maxRecDepth 100000 in
set_option maxHeartbeats 0 in
theorem PySem.Challenge.cw_driftkept_k14_plans_do_what_a_table_does_holds : PySem.Challenge.rw_driftkept_k14_plans_do_what_a_table_does.Holds := by
  w_on; o_law; k_head; (case hw => w_witness2)
  k_fill
  refine Dk.walk (l := PySem.Challenge.rw_driftkept_k14_plans_do_what_a_table_does) rfl rfl (fun w h Y => PySem.W.kIn_of Y) ?F
  case F =>
    intro w mg fa h KX G hmg
    refine' Dk.all_mk KX G hmg ?a1 ?l1 ?c1 ?k1 ?a2 ?l2 ?c2 ?k2 ?a3 ?l3 ?c3 ?k3 ?a4 ?l4 ?c4 ?k4 ?a5 ?l5 ?c5 ?k5 ?a6 ?l6 ?c6 ?k6 ?a7 ?l7 ?c7 ?k7 ?a8 ?l8 ?c8 ?k8 ?a9 ?l9 ?c9 ?k9 ?a10 ?l10 ?c10 ?k10 ?a11 ?l11 ?c11 ?k11 ?a12 ?l12 ?c12 ?k12 ?a13 ?l13 ?c13 ?k13 ?a14 ?l14 ?c14 ?k14 ?a15 ?l15 ?c15 ?k15 ?a16 ?l16 ?c16 ?k16 ?a17 ?l17 ?c17 ?k17 ?a18 ?l18 ?c18 ?k18 ?a19 ?l19 ?c19 ?k19 ?a20 ?l20 ?c20 ?k20 ?a21 ?l21 ?c21 ?k21 ?a22 ?l22 ?c22 ?k22 ?gBk ?z_isinstance ?z_int ?z_bool ?z_tuple ?z_range ?z_len ?z_list ?z_sorted ?z_abs ?z_dict
    (case a1 => k_is)
    (case l1 => k_is)
    (case c1 => k_is)
    (case k1 => k_is)
    (case a2 => k_is)
    (case l2 => k_is)
    (case c2 => k_is)
    (case k2 => k_is)
    (case a3 => k_is)
    (case l3 => k_is)
    (case c3 => k_is)
    (case k3 => k_is)
    (case a4 => k_is)
    (case l4 => k_is)
    (case c4 => k_is)
    (case k4 => k_is)
    (case a5 => k_is)
    (case l5 => k_is)
    (case c5 => k_is)
    (case k5 => k_is)
    (case a6 => k_is)
    (case l6 => k_is)
    (case c6 => k_is)
    (case k6 => k_is)
    (case a7 => k_is)
    (case l7 => k_is)
    (case c7 => k_is)
    (case k7 => k_is)
    (case a8 => k_is)
    (case l8 => k_is)
    (case c8 => k_is)
    (case k8 => k_is)
    (case a9 => k_is)
    (case l9 => k_is)
    (case c9 => k_is)
    (case k9 => k_is)
    (case a10 => k_is)
    (case l10 => k_is)
    (case c10 => k_is)
    (case k10 => k_is)
    (case a11 => k_is)
    (case l11 => k_is)
    (case c11 => k_is)
    (case k11 => k_is)
    (case a12 => k_is)
    (case l12 => k_is)
    (case c12 => k_is)
    (case k12 => k_is)
    (case a13 => k_is)
    (case l13 => k_is)
    (case c13 => k_is)
    (case k13 => k_is)
    (case a14 => k_is)
    (case l14 => k_is)
    (case c14 => k_is)
    (case k14 => k_is)
    (case a15 => k_is)
    (case l15 => k_is)
    (case c15 => k_is)
    (case k15 => k_is)
    (case a16 => k_is)
    (case l16 => k_is)
    (case c16 => k_is)
    (case k16 => k_is)
    (case a17 => k_is)
    (case l17 => k_is)
    (case c17 => k_is)
    (case k17 => k_is)
    (case a18 => k_is)
    (case l18 => k_is)
    (case c18 => k_is)
    (case k18 => k_is)
    (case a19 => k_is)
    (case l19 => k_is)
    (case c19 => k_is)
    (case k19 => k_is)
    (case a20 => k_is)
    (case l20 => k_is)
    (case c20 => k_is)
    (case k20 => k_is)
    (case a21 => k_is)
    (case l21 => k_is)
    (case c21 => k_is)
    (case k21 => k_is)
    (case a22 => k_is)
    (case l22 => k_is)
    (case c22 => k_is)
    (case k22 => k_is)
    (case gBk => k_is)
    (case z_isinstance => k_is)
    (case z_int => k_is)
    (case z_bool => k_is)
    (case z_tuple => k_is)
    (case z_range => k_is)
    (case z_len => k_is)
    (case z_list => k_is)
    (case z_sorted => k_is)
    (case z_abs => k_is)
    (case z_dict => k_is)

