import PyProof.Rows.All
import Wide.All
import OpenK.AllK
import Wide.FinOn
import HandS.ForMost
import HandS.ForExc
import HandS.IsInst
import HandS.ExcIs
import HandS.DictComp
import HandS.Style
import HandS.Walk
import HandS.SortInts
import HandS.Star
import HandS.More
import HandS.SortRule
import HandS.ListItems
import HandS.SetBool
import HandS.ClsMeth
import HandS.Codes
import HandS.Zip
import PySem.Challenge.RW_driftkept_k23_calls_on_plain_maps
import PyProof.Rows.MatchSeqLen
import KE.KDictPairs
set_option Elab.async false
set_option linter.all false
set_option maxRecDepth 100000
set_option maxHeartbeats 4000000
/-! general rules -/
namespace Dk
open PySem PySem.Spec PyProof.Rows L2
/-- a def of the top keeps a promise -/
def GO (P : Program) (w : World) (K : PySem.W.Frag) (mg : Str → Option Value) (base : Heap) (CX : CXT) (k : Nat) (x : Str) (ps : List Str) (sp : Sp) : Prop :=
  ∃ f fd, FnOk P w K mg base CX k f fd ps sp ∧ mg x = some (.ref f) ∧ PySem.W.keepIn K (.ref f) = true ∧ Binds K fd ps []
def MO (P : Program) (w : World) (K : PySem.W.Frag) (mg : Str → Option Value) (base : Heap) (CX : CXT) (C : Addr) (k : Nat) (m : Str) (ps : List Str) (sp : Sp) : Prop :=
  ∃ f fd, FnOk P w K mg base CX k f fd ps sp ∧ Meth K C m f ∧ Binds K fd ps []
/-- where a def of the top, a method stands -/
def GT (K : PySem.W.Frag) (mg : Str → Option Value) (x : Str) (st : Stmt) (ps : List Str) : Prop := ∃ f fd, Fun K x x st f fd ∧ mg x = some (.ref f) ∧ Binds K fd ps []
def MT (K : PySem.W.Frag) (C : Addr) (m qual : Str) (st : Stmt) (ps : List Str) : Prop := ∃ f fd, Fun K m qual st f fd ∧ Meth K C m f ∧ Binds K fd ps []
section
variable {X : Cx} {CX : CXT} {k : Nat} {f C : Addr} {fd : FuncData} {ps : List Str} {sp : Sp} {x m : Str} {p pos apos : Pos} {e o : Expr} {es : List Expr} {ta : TE} {t : TA}
theorem pc_ (G : GO X.prog X.w X.K X.mg X.base CX0 k x ps sp) (hr : Room k X.A) (ha : PA X (e :: es) t) (hg : Gl X x := by rfl) (hdb : (x == ("__debug__" : Str)) = false := by decide)
    (he : starEach (e :: es) X.env = (false, eval e X.env) :: starEach es X.env := by rfl) (hpl : (backTo pos (starEach es X.env)).any (·.1) = false := by rfl) : PE X (.Call (.Name x p) (e :: es) [] pos) (tCall sp [] E0 t) := by
  obtain ⟨f, fd, F, hm, hk, hb⟩ := G
  exact pe_call F hr hg hm hk hb .nil pass0 ha hdb he hpl
theorem pm_ {pl : Sem Bool} (G : MO X.prog X.w X.K X.mg X.base CX0 C k m ps sp) (c : Cls X.K C) (hr : Room k X.A) (he : PE X o ta) (ha : PA X (e :: es) t)
    (hst : starEach (e :: es) X.env = (false, eval e X.env) :: starEach es X.env := by rfl) (hpl : (backTo pos (starEach es X.env)).any (·.1) = false := by rfl)
    (ht : eval (.Call (.Attribute o m apos) (e :: es) [] pos) X.env = (do
      let ov ← eval o X.env
      standAt apos.atName
      let (f, first) ← holding [ov] (getMethod ov m pl)
      callWith pos f first (backTo pos (starEach (e :: es) X.env)) (backToKw pos (keywordEach [] X.env))) := by rfl) : PE X (.Call (.Attribute o m apos) (e :: es) [] pos) (tMeth C m sp [] E0 ta t) := by
  obtain ⟨f, fd, F, hm, hb⟩ := G
  exact pe_meth he c hm F hr hb .nil pass0 ha hst hpl ht
theorem pm0_ {pl : Sem Bool} (G : MO X.prog X.w X.K X.mg X.base CX0 C k m ps sp) (c : Cls X.K C) (hr : Room k X.A) (he : PE X o ta)
    (ht : eval (.Call (.Attribute o m apos) [] [] pos) X.env = (do
      let ov ← eval o X.env
      standAt apos.atName
      let (f, first) ← holding [ov] (getMethod ov m pl)
      callWith pos f first (backTo pos (starEach [] X.env)) (backToKw pos (keywordEach [] X.env))) := by rfl) : PE X (.Call (.Attribute o m apos) [] [] pos) (tMeth C m sp [] E0 ta tNil) := by
  obtain ⟨f, fd, F, hm, hb⟩ := G
  exact pe_meth0 he c hm F hr hb .nil pass0 ht
/-- a method that may raise, called at the slots -/
def tMethE (C : Addr) (m : Str) (sp : Sp) (E : L2.St → XK) (ta : TE) (t : TA) : TE := fun σ H Q => ta σ H fun x H1 => ∃ a dx fs, x = .ref a ∧ H1 a = some (.ins C dx fs) ∧ fs.lookup m = none ∧
  t σ H1 fun vs H2 => sp (x :: vs) H2 Q (E σ)
theorem pmE_ {pl : Sem Bool} {E : L2.St → XK} (G : MO X.prog X.w X.K X.mg X.base CX C k m ps sp) (c : Cls X.K C) (hr : Room k X.A) (hx : ∀ σ, PassesAt CX X σ (E σ)) (he : PE X o ta) (ha : PA X (e :: es) t)
    (hst : starEach (e :: es) X.env = (false, eval e X.env) :: starEach es X.env := by rfl) (hpl : (backTo pos (starEach es X.env)).any (·.1) = false := by rfl)
    (ht : eval (.Call (.Attribute o m apos) (e :: es) [] pos) X.env = (do
      let ov ← eval o X.env
      standAt apos.atName
      let (f, first) ← holding [ov] (getMethod ov m pl)
      callWith pos f first (backTo pos (starEach (e :: es) X.env)) (backToKw pos (keywordEach [] X.env))) := by rfl) : PE X (.Call (.Attribute o m apos) (e :: es) [] pos) (tMethE C m sp E ta t) := by
  obtain ⟨f, fd, F, hm, hb⟩ := G
  refine ⟨fun pins s σ H Q I h => ?_⟩
  refine PySem.W.methodCall_KW (pl := pl) (thn (he.run pins s σ H _ I h) fun u s1 ⟨x, H1, I1, rx, a, dx, fs, ex, ea, l, q⟩ => ?_) ht
  subst ex
  obtain rfl : u = Value.ref a := rx
  refine getmeth_ok I1 ea c hm l ?_
  refine PySem.W.callWith_K (first := [.ref a]) (h₀ := X.base) I.ok.mod.kin hm.kp (thn (ha.run pos pins s1 σ H1 _ I1 q) fun us s2 ⟨vs, H2, I2, r, q2⟩ => ⟨I2.kIn, ?_⟩) hst hpl
  exact run_fnS (us := .ref a :: us) (vs := .ref a :: vs) F hr hb (hx σ) I2 (.cons rfl r) q2
/-- C(e, ..) where __init__ may raise, at the slots -/
def tMakeE (C : Addr) (sp : Sp) (E : L2.St → XK) (t : TA) : TE := fun σ H Q => t σ H fun vs H1 => ∀ x dx, H1 x = none → H1 dx = none → dx ≠ x →
  sp (.ref x :: vs) (upd (upd H1 dx (.own x)) x (.ins C dx [])) (fun v H2 => v = .non ∧ Q (.ref x) H2) (fun cls d H2 => E σ cls d H2)
theorem run_makeE {pins : List (Addr × Obj)} {σ : L2.St} {H : Hp} {s : Shared} {Q : VK} {E : XK} {us : List Value} {vs : List V} (M : Mk X.K C f) (F : FnOk X.prog X.w X.K X.mg X.base CX k f fd ps sp) (hr : Room (k + 1) X.A) (hb : Binds X.K fd ps [])
    (hx : PassesAt CX X σ E) (I : Inv X pins σ H s) (r : Vals vs us)
    (h : ∀ x dx, H x = none → H dx = none → dx ≠ x → sp (.ref x :: vs) (upd (upd H dx (.own x)) x (.ins C dx [])) (fun v H2 => v = .non ∧ Q (.ref x) H2) E) :
    wpAny (model X.prog X.w) X.A (call (.ref C) us) (EP X pins σ Q) X.xe s := by
  have hq := h (s.heap.objs.size + 1) s.heap.objs.size (I.hok.fresh (Nat.le_succ _)) (I.hok.fresh (Nat.le_refl _)) (Nat.ne_of_lt (Nat.lt_succ_self _))
  have I2 := Inv.made (C := C) I
  have r2 : Vals (V.ref (s.heap.objs.size + 1) :: vs) (Value.ref (s.heap.objs.size + 1) :: us) := .cons rfl r
  have hl : (Value.ref (s.heap.objs.size + 1) :: us ++ []).length = ps.length := by
    have e := r2.length
    rw [F.len _ _ _ _ hq] at e
    rw [List.append_nil]
    exact e.symm
  have b := hb _ (Value.ref (s.heap.objs.size + 1) :: us) I2.kIn hl
  rw [List.append_nil] at b
  refine wpAny_call (make_map (f := f) I.kIn M.makes M.init (beq_iff_eq.mp M.fn) (codeAny_mono (F.run _ X.stack _ _ ⟨Value.ref (s.heap.objs.size + 1) :: us, []⟩ (Value.ref (s.heap.objs.size + 1) :: us) _ _ E (hr.make C us [])
    (I2.env0.make C us []) b r2 hq) fun r s' hq' => ?_))
  cases r with
  | error e => exact hx pins _ _ e s' I2 hq'
  | ok fl =>
    cases fl with
    | ret u =>
      obtain ⟨v, H', I3, rv, ev, q3⟩ := I2.after hq'
      subst ev
      exact ⟨rv, ⟨V.ref (s.heap.objs.size + 1), H', I3, rfl, q3⟩⟩
    | next => exact False.elim hq'
    | brk => exact False.elim hq'
    | cont => exact False.elim hq'
theorem pe_makeE {E : L2.St → XK} (M : Mk X.K C f) (F : FnOk X.prog X.w X.K X.mg X.base CX k f fd ps sp) (hr : Room (k + 1) X.A) (hg : Gl X x) (hm : X.mg x = some (.ref C)) (hb : Binds X.K fd ps []) (hx : ∀ σ, PassesAt CX X σ (E σ))
    (ha : PA X (e :: es) t) (hdb : (x == ("__debug__" : Str)) = false := by decide) (he : starEach (e :: es) X.env = (false, eval e X.env) :: starEach es X.env := by rfl) (hpl : (backTo pos (starEach es X.env)).any (·.1) = false := by rfl) :
    PE X (.Call (.Name x p) (e :: es) [] pos) (tMakeE C sp E t) := by
  refine ⟨fun pins s σ H Q I h => ?_⟩
  refine wpAny_Call_Name_kw (ld_glob I hg hm ?_ hdb)
  refine PySem.W.callWith_K (h₀ := X.base) I.ok.mod.kin M.kp (thn (ha.run pos pins s σ H _ I h) fun us s1 ⟨vs, H1, I1, r, q⟩ => ⟨I1.kIn, ?_⟩) he hpl
  exact run_makeE M F hr hb (hx σ) I1 r q
end
section
variable {X : Cx} {C : Addr} {bmB : List Value} {B newId initId : String}
/-- X() -/
theorem pmk_own0 {x : Str} {p pos : Pos} (F : ExcBaseFacts B newId initId bmB) (q : PySem.W.excIn X.K C bmB newId = true) (gC : X.mg x = some (.ref C)) (kC : PySem.W.keepIn X.K (.ref C) = true) (r : Raises X (.ref C)) (hg : Gl X x)
    (hdb : (x == ("__debug__" : Str)) = false := by decide) : PMk X (.Call (.Name x p) [] [] pos) (fun _ H Q => Q (.ref C) none H) := by
  intro pins s σ H Q I h
  refine wpAny_Call_Name_kw (ld_glob I hg gC ?_ hdb)
  refine PySem.W.callWith_K0 I.kIn kC ?_
  show wpAny _ _ (call (.ref C) []) _ _ _
  obtain ⟨bm, N, nm, qn, bs, hdct, sn, sub, ab, col, dd, k0, k1, k2, k3, k5, mN, hC, hN, hni, T⟩ := exc_obj I.kIn q
  refine wpAny_call_exc_subT F T hC hN hni (fun h' e hm => ?_) (by show 0 ≤ sizeLine; exact Nat.zero_le _)
  exact mk_of I hm r h (I.hok.gone hm.new)
end
/-- a dict comprehension over a walk -/
theorem dc_it {J : It} {n : Nat} {G : Hp → Prop} {Y : Nat → Hp → V → Hp → Prop} (w : Walk J n G Y) {g : TG} {tt : TT} {tk tv : TE} {vs : List Nat} {σ : L2.St} {H1 : Hp} {D : Addr} {Qd : Hp → Prop} (Pv : Nat → Hp → Prop) (h0 : Pv 0 (upd H1 D (.dK []))) (hG : ∀ i H, i ≤ n → Pv i H → G H)
    (hs : ∀ i x H H', i < n → Pv i H → Y i H x H' → g x (wipe σ vs) H' fun σ2 H2 => wipe σ2 vs = wipe σ vs ∧ tt σ2 H2 fun b H3 =>
      if b = true then tk σ2 H3 fun y H4 => tv σ2 H4 fun z H5 => ∃ kvs k, y = kV k ∧ H5 D = some (.dK kvs) ∧ kvs.length < sizeLine ∧ Pv (i + 1) (upd H5 D (.dK (putK kvs k z))) else Pv (i + 1) H3) (hd : ∀ H, Pv n H → Qd H) :
    ∃ W : Nat → Nat → Hp → Prop, (∃ m, W 0 m (upd H1 D (.dK []))) ∧ ∀ i m H, W i m H →
      (J.stop i H ∧ Qd H) ∨ (J.go i H ∧ ∃ Nx : Hp → Prop, (∀ H', Nx H' → ∃ m', m' < m ∧ W (i + 1) m' H') ∧ ∀ x H', J.yld i H x H' → g x (wipe σ vs) H' fun σ2 H2 => wipe σ2 vs = wipe σ vs ∧ tt σ2 H2 fun b H3 =>
        if b = true then tk σ2 H3 fun y H4 => tv σ2 H4 fun z H5 => ∃ kvs k, y = kV k ∧ H5 D = some (.dK kvs) ∧ kvs.length < sizeLine ∧ Nx (upd H5 D (.dK (putK kvs k z))) else Nx H3) := by
  refine ⟨fun i m H => m = n - i ∧ i ≤ n ∧ Pv i H, ⟨n, by simp, Nat.zero_le _, h0⟩, ?_⟩
  rintro i m H ⟨rfl, hi, p⟩
  have q := hG i H hi p
  by_cases hlt : i < n
  · refine .inr ⟨w.goes i H hlt q, Pv (i + 1), fun H' p' => ⟨n - (i + 1), by omega, rfl, hlt, p'⟩, fun x H' y => hs i x H H' hlt p (w.yields i H x H' hlt q y)⟩
  · have e : i = n := by omega
    subst e
    exact .inl ⟨w.stops H q, hd H p⟩
end Dk

set_option maxHeartbeats 4000000
/-! match over a tuple whose first item is a text -/
namespace Dk
open PySem PySem.Spec PyProof.Rows L2
/-- the captures of a pattern: names, each in its slot -/
inductive Caps (X : Cx) : List Pattern → List Str → List Nat → Prop where
  | nil : Caps X [] [] []
  | cons {n : Str} {i : Nat} {pos : Pos} {ps : List Pattern} {ns : List Str} {is : List Nat} (hi : X.N[i]? = some n) (hl : X.env.scope.names.lookup n = some .local) (h : Caps X ps ns is) : Caps X (.MatchAs none (some n) pos :: ps) (n :: ns) (i :: is)
theorem Caps.len {X : Cx} {ps : List Pattern} {ns : List Str} {is : List Nat} (h : Caps X ps ns is) : ns.length = ps.length ∧ is.length = ps.length := by
  induction h with
  | nil => exact ⟨rfl, rfl⟩
  | cons _ _ _ ih => exact ⟨by simp [ih.1], by simp [ih.2]⟩
theorem Caps.noStar {X : Cx} {ps : List Pattern} {ns : List Str} {is : List Nat} (h : Caps X ps ns is) : ∀ p, p ∈ ps → p.isStar = false := by
  induction h with
  | nil => intro p hp; cases hp
  | cons _ _ _ ih =>
    intro p hp
    rcases List.mem_cons.mp hp with e | m
    · subst e
      rfl
    · exact ih p m
/-- the slots stored one after the other -/
def setAll : L2.St → List Nat → List V → L2.St
  | σ, i :: is, v :: vs => setAll (σ.set i (some v)) is vs
  | σ, _, _ => σ
section
variable {X : Cx}
theorem caps_match {A : Around} {E : Value → Shared → Prop} {s : Shared} {Q : Option (List (Str × Value)) → Shared → Prop} {ps : List Pattern} {ns : List Str} {is : List Nat} (h : Caps X ps ns is) :
    ∀ {us : List Value}, us.length = ps.length → Q (some (ns.zip us)) s → wpAny (model X.prog X.w) A (matchEach ps X.env us) Q E s := by
  induction h generalizing Q with
  | nil =>
    intro us hl q
    cases us with
    | nil => exact wpAny_matchEach_nil q
    | cons _ _ => cases hl
  | @cons n i pos ps ns is hi hl h ih =>
    intro us hlen q
    cases us with
    | nil => cases hlen
    | cons u us =>
      refine wpAny_matchEach_cons (wpAny_matchPattern_Capture ?_)
      exact ih (by simpa using hlen) q
theorem caps_assign {ps : List Pattern} {ns : List Str} {is : List Nat} (h : Caps X ps ns is) (hN : X.N.Nodup) : ∀ {pins : List (Addr × Obj)} {s : Shared} {σ : L2.St} {H : Hp} {E : Value → Shared → Prop} {Q : Unit → Shared → Prop} {vs : List V} {us : List Value}, Inv X pins σ H s → Vals vs us → us.length = ns.length →
    (∀ s', Inv X pins (setAll σ is vs) H s' → Q () s') → wpAny (model X.prog X.w) X.A (assignInOrder ((ns.zip us).map fun (n, _) => bindName X.env n) ((ns.zip us).map (·.2))) Q E s := by
  induction h with
  | nil =>
    intro pins s σ H E Q vs us I r hl q
    refine wpAny_assignInOrder_none (q s ?_)
    cases vs <;> exact I
  | @cons n i pos ps ns is hi hl h ih =>
    intro pins s σ H E Q vs us I r hlen q
    cases r with
    | nil => cases hlen
    | @cons v u vs us rv rs =>
      show wpAny _ _ (assignInOrder ((fun (n, _) => bindName X.env n) (n, u) :: (ns.zip us).map fun (n, _) => bindName X.env n) (u :: (ns.zip us).map (·.2))) _ _ _
      refine wpAny_assignInOrder_more ?_
      show wpAny _ _ (bindName X.env n u) _ _ _
      refine wpAny_bindName (store_ok I hN hi (.inl hl) rv (fun s1 I1 => ?_) (.inr hl))
      exact ih I1 rs (by simpa using hlen) q
/-- the cases of a match whose subject is a tuple -/
structure PMs (X : Cx) (cs : List MatchCase) (t : Addr → List V → TS) : Prop where
  run : ∀ (fst : Bool) (pins : List (Addr × Obj)) (s : Shared) (σ : L2.St) (H : Hp) (D : Ends) (a : Addr) (xs : List V), Inv X pins σ H s → SqT X.K H a xs → t a xs D σ H → wpAny (model X.prog X.w) X.A (matchCases cs X.env (.ref a) fst) (SP X pins D) X.xe s
def mNil : Addr → List V → TS := fun _ _ D σ H => D.nx σ H
theorem pms_nil : PMs X [] mNil := ⟨fun fst pins s σ H D a xs I q h => wpAny_matchCases_nil ⟨σ, H, I, h⟩⟩
/-- case ("kind", a, b, ..) -/
def mCase (kind : Str) (is : List Nat) (tb : TS) (tr : Addr → List V → TS) : Addr → List V → TS := fun a xs D σ H =>
  if xs.length = is.length + 1 then ∃ z ys, xs = .str z :: ys ∧ (if z = kind then tb D (setAll σ is ys) H else tr a xs D σ H) else tr a xs D σ H
theorem pms_case {kind : Str} {j : Nat} {p1 p2 pos : Pos} {ps : List Pattern} {ns : List Str} {is : List Nat} {body : List Stmt} {rest : List MatchCase} {tb : TS} {tr : Addr → List V → TS} (hc : X.calm = true) (hN : X.N.Nodup) (h : Caps X ps ns is) (hb : PSs X body tb) (hr : PMs X rest tr) :
    PMs X (⟨.MatchSequence (.MatchValue (.Constant (.str kind) j p1) p2 :: ps) pos, none, body⟩ :: rest) (mCase kind is tb tr) := by
  refine ⟨fun fst pins s σ H D a xs I q hw => ?_⟩
  obtain ⟨its, rv, ht, hz⟩ := I.tuple q
  have hsl : sizeLine = 16777216 := sizeLine_eq
  have hfit : ((its.toArray.size : Nat) : Int) < 2 ^ 63 := by
    rw [List.size_toArray, ← rv.length]
    omega
  have hstar : (Pattern.MatchValue (.Constant (.str kind) j p1) p2 :: ps).findIdx? (·.isStar) = none := by
    refine List.findIdx?_eq_none_iff.mpr fun p hp => ?_
    rcases List.mem_cons.mp hp with e | m
    · subst e
      rfl
    · exact h.noStar p m
  have hwild : ((Pattern.MatchValue (.Constant (.str kind) j p1) p2 :: ps).all fun p => p.isWildcard || (p.isStar && p.names.isEmpty)) = false := by
    rw [List.all_cons]
    rfl
  unfold mCase at hw
  refine wpAny_matchCases_cons ?_
  by_cases hlen : xs.length = is.length + 1
  · rw [if_pos hlen] at hw
    obtain ⟨z, ys, rfl, hw⟩ := hw
    have hsz : its.toArray.size = (Pattern.MatchValue (.Constant (.str kind) j p1) p2 :: ps).length := by
      rw [List.size_toArray, ← rv.length, hlen, h.len.2]
      rfl
    refine matchSeq_tuple_hit ht hfit hsz ?_ hstar hwild
    have ht' : IsTup (({ s with toks := s.toks + 1 + 1 } : Shared)).heap a its.toArray := ht
    rw [← hsz]
    refine unpackItems_tuple (I.ok.hd hc) ht' fun h' hx => ?_
    have I1 : Inv X pins σ H { s with heap := h', toks := s.toks + 1 + 1 } := I.kept (t' := s.toks + 1 + 1) fun b o e => hx b o (Nat.ne_of_lt (Heap.lt_size e)) e
    show wpAny _ _ (matchEach _ _ its.toArray.toList) _ _ _
    rw [List.toList_toArray]
    cases rv with
    | @cons _ u _ us ru rs =>
      refine wpAny_matchEach_cons ?_
      refine wpAny_matchPattern_Value ?_
      refine thn ((pe_str (X := X) (x := kind) (j := j) (pos := p1)).run pins _ σ H (fun y H1 => y = .str kind ∧ H1 = H) I1 ⟨rfl, rfl⟩) fun ku s2 ⟨y, H2, I2, r2, ey, eH⟩ => ?_
      subst ey
      subst eH
      refine thn (op_eq pins s2 σ H2 (.str z) (.str kind) u ku (fun c H3 => c = .bl (decide (V.str z = V.str kind)) ∧ H3 = H2) I2 ru r2 ⟨rfl, rfl, rfl⟩) fun cv s3 ⟨c, H3, I3, r3, ec, eH⟩ => ?_
      subst ec
      subst eH
      cases r3
      refine wpAny_truthy_bool ?_
      have hus : us.length = ps.length := by
        have := rs.length
        have := h.len.2
        simp only [List.length_cons] at hlen
        omega
      by_cases hk : z = kind
      · rw [if_pos hk] at hw
        subst hk
        have et : decide (V.str z = V.str z) = true := decide_eq_true rfl
        rw [if_pos et]
        refine caps_match h hus ?_
        show wpAny _ _ (assignInOrder (((ns.zip us)).map fun (n, _) => bindName X.env n) ((ns.zip us).map (·.2))) _ _ _
        refine caps_assign h hN I3 rs (by rw [hus, h.len.1]) fun s4 I4 => ?_
        exact hb.run pins s4 _ _ D I4 hw
      · rw [if_neg hk] at hw
        have et : decide (V.str z = V.str kind) = false := decide_eq_false fun e => hk (V.str.inj e)
        rw [if_neg (by rw [et]; exact Bool.false_ne_true)]
        exact hr.run false pins s3 σ _ D a _ I3 q hw
  · rw [if_neg hlen] at hw
    have hsz : its.toArray.size ≠ (Pattern.MatchValue (.Constant (.str kind) j p1) p2 :: ps).length := by
      rw [List.size_toArray, ← rv.length]
      have := h.len.2
      simp only [List.length_cons]
      omega
    exact matchSeq_tuple_miss ht hfit hsz (hr.run false pins _ σ H D a xs (I.tok _) q hw) hstar hwild
/-- match e: .. -/
def tMatch (K : PySem.W.Frag) (te : TE) (tm : Addr → List V → TS) : TS := fun D σ H => te σ H fun x H1 => ∃ a xs, x = .ref a ∧ SqT K H1 a xs ∧ tm a xs D σ H1
theorem ps_match {e : Expr} {te : TE} {cs : List MatchCase} {tm : Addr → List V → TS} {pos : Pos} (he : PE X e te) (hm : PMs X cs tm) : PS X (.Match e cs pos) (tMatch X.K te tm) := by
  refine ⟨fun pins s σ H D I h => ?_⟩
  refine wpAny_Match (thn (he.run pins s σ H _ I h) fun u s1 ⟨x, H1, I1, r1, a, xs, ex, q, hw⟩ => ?_)
  subst ex
  cases r1
  exact hm.run true pins s1 σ H1 D a xs I1 q hw
end
end Dk

set_option maxHeartbeats 4000000
/-! sorted(d.items()), d with int keys and int values -/
namespace Rt
open PySem PySem.Spec PyProof.Rows L2 LiI
theorem pair_fun {h : Heap} {v : Value} {x y x' y' : Int} (p : Srt.IsPair h v x y) (q : Srt.IsPair h v x' y') : x = x' ∧ y = y' := by
  obtain ⟨a, o, t, u, n, rfl, h1, _, d1⟩ := p
  obtain ⟨b, o', t', u', n', e, h2, _, d2⟩ := q
  cases e
  rw [h1] at h2
  cases h2
  rw [d1] at d2
  injection d2 with d3 _
  have e := congrArg Array.toList d3
  simp at e
  exact ⟨e.1.1, e.2.1⟩
open Classical in
noncomputable def kOf (h : Heap) (v : Value) : Int × Int := if q : ∃ p : Int × Int, Srt.IsPair h v p.1 p.2 then choose q else (0, 0)
theorem kOf_eq {h : Heap} {v : Value} {n : Int × Int} (p : Srt.IsPair h v n.1 n.2) : kOf h v = n := by
  unfold kOf
  have q : ∃ p : Int × Int, Srt.IsPair h v p.1 p.2 := ⟨n, p⟩
  rw [dif_pos q]
  obtain ⟨e1, e2⟩ := pair_fun (Classical.choose_spec q) p
  exact Prod.ext e1 e2
def addrOf : Value → Addr
  | .ref a => a
  | _ => 0
theorem paired_map {α β γ : Type} {F : β → γ → Prop} {f : α → β} {g : α → γ} : ∀ {l : List α}, (∀ v ∈ l, F (f v) (g v)) → Paired F (l.map f) (l.map g)
  | [], _ => .nil
  | v :: l, h => .cons (h v List.mem_cons_self) (paired_map fun u hu => h u (List.mem_cons_of_mem _ hu))
section
variable {X : Cx} {e : Expr} {te : TE} {p apos cpos pos : Pos}
theorem laid {pins : List (Addr × Obj)} {σ : L2.St} {H : Hp} {s : Shared} {h3 : Heap} {tk : Nat} {kvs : List (Key × V)} {vs : List (Key × Value)} {out : Array Value} {outs : List Addr} {c : Nat} {as : List Addr} {P : Addr} (I : Inv X pins σ H s) (kv : KV kvs vs)
    (hk : ∀ b o, s.heap.get? b = some o → h3.get? b = some o) (hP : s.heap.objs.size ≤ P) (hPn : P ∉ as) (hS : h3.get? P = some (seqObj "list" out c)) (hl : as.length = vs.length) (hG : PySem.W.KdxG (mixKind X.prog X.w) vs s.heap.objs.size h3 as) (ho : out.toList = outs.map Value.ref) (hol : outs.length ≤ sizeLine) :
    ∃ H' : Hp, (∀ b o, H b = some o → H' b = some o) ∧ H P = none ∧ (∀ t ∈ as, H t = none) ∧ H' P = some (.lst (outs.map V.ref)) ∧ Paired (fun (t : Addr) (q : Key × V) => H' t = some (.tup [kV q.1, q.2])) as kvs ∧ Inv X pins σ H' { s with heap := h3, toks := tk } := by
  have lk : kvs.length = vs.length := Paired.length kv
  have nd : as.Nodup := List.Pairwise.imp (fun {a b} (h : a < b) => Nat.ne_of_lt h) hG.rise
  have new : ∀ t ∈ as, H t = none := fun t ht => I.hok.fresh (Nat.le_of_lt (hG.above t ht))
  have newS : H P = none := I.hok.fresh hP
  have atP := putT_at as kvs (upd H P (.lst (outs.map V.ref))) (by omega) nd
  have off : ∀ b, b ∉ as → b ≠ P → putT (upd H P (.lst (outs.map V.ref))) as kvs b = H b := fun b h1 h2 => by rw [putT_off as kvs _ h1, upd_ne h2]
  have low : ∀ b o, s.heap.get? b = some o → b ∉ as ∧ b ≠ P := fun b o e => ⟨fun z => absurd (Heap.lt_size e) (Nat.not_lt.mpr (Nat.le_of_lt (hG.above b z))), Nat.ne_of_lt (Nat.lt_of_lt_of_le (Heap.lt_size e) hP)⟩
  have kp : ∀ b u, H b = some u → (putT (upd H P (.lst (outs.map V.ref))) as kvs) b = some u := fun b u e => by
    rw [off b (fun z => by rw [new b z] at e; cases e) (fun z => by rw [z, newS] at e; cases e)]
    exact e
  have eS : putT (upd H P (.lst (outs.map V.ref))) as kvs P = some (.lst (outs.map V.ref)) := by rw [putT_off as kvs _ hPn, upd_same]
  refine ⟨putT (upd H P (.lst (outs.map V.ref))) as kvs, kp, newS, new, eS, atP, ?_⟩
  refine I.call' (ch := []) rfl ⟨fun b o q _ _ _ => hk b o q, fun b o q _ _ _ => ⟨o.slots, hk b o q⟩, fun b o q n _ => ?_, fun b o q _ => ⟨o, hk b o q⟩, fun b xs q => kp b _ q, fun b o u q => kp b _ q, fun b ps q => ⟨#[], by rw [kp b _ q]; simp⟩⟩ (fun b u q => ?_) I.bare fun b z => by simp at z
  · obtain ⟨z1, z2⟩ := low b o q
    rw [off b z1 z2]
    exact n
  · by_cases hb : b ∈ as
    · obtain ⟨j, pk, e1, e2, e3⟩ := paired_ix atP hb
      rw [e3] at q
      cases q
      obtain ⟨key, k, x, f1, f2, f3⟩ := hG.pairs j b e1
      obtain ⟨qv, g1, g2, g3⟩ := LiI.paired_get kv e2
      rw [f1] at g1
      cases g1
      have rk : RelV (kV pk.1) key := by
        rw [g2]
        exact relV_key (show keyIs k key = true from f2)
      exact ⟨by show 2 ≤ sizeLine; decide, [key, x], .cons rk (.cons g3 .nil), ⟨_, f3, rfl, _, rfl⟩⟩
    · by_cases hb2 : b = P
      · rw [hb2] at q ⊢
        rw [eS] at q
        cases q
        refine ⟨by rw [List.length_map]; omega, out.toList, c, by rw [ho]; exact vals_refs outs, ?_⟩
        rw [Array.toArray_toList]
        exact hS
      · rw [off b hb hb2] at q
        exact (I.hok b u q).stay (fun d v _ y => hk d v y) (fun d y => kp d _ y) fun d xs y => kp d _ y
def kvI (ns : List (Int × Int)) : List (Key × V) := ns.map fun n => (Sum.inl n.1, V.int n.2)
def rItemsS : V → Hp → VK → Prop := fun x H Q => ∃ (d : Addr) (ns : List (Int × Int)), x = .ref d ∧ H d = some (.dK (kvI ns)) ∧
  ∀ (H' : Hp) (p : Addr) (ts : List Addr) (ms : List (Int × Int)), (∀ b o, H b = some o → H' b = some o) → H p = none → H' p = some (.lst (ts.map V.ref)) → Paired (fun (t : Addr) (n : Int × Int) => H' t = some (.tup [.int n.1, .int n.2])) ts ms → ms.Perm ns → ms.Pairwise (fun a b => SrtO.lexB b a = false) → Q (.ref p) H'
def tItemsS (te : TE) : TE := fun σ H Q => te σ H fun x H1 => rItemsS x H1 Q
/-- sorted(e.items()) -/
theorem pe_sortedItems (hc : X.calm = true) (he : PE X e te) (hg : Gl X "sorted") (hm : X.mg "sorted" = none) (hv : bootBuiltins "sorted" = some (.builtin "sorted")) (hbase : attributeBase e "items" X.env (eval e X.env) = eval e X.env := by rfl) (hline : (apos.endLine == cpos.line) = true := by rfl)
    (hs : starEach [.Call (.Attribute e "items" apos) [] [] cpos] X.env = (false, eval (.Call (.Attribute e "items" apos) [] [] cpos) X.env) :: starEach [] X.env := by rfl) :
    PE X (.Call (.Name "sorted" p) [.Call (.Attribute e "items" apos) [] [] cpos] [] pos) (tItemsS te) := by
  refine ⟨fun pins s σ H Q I hq => ?_⟩
  refine wpAny_Call_Name_kw (ld_blt I hg hm hv ?_)
  refine PyProof.Rows.callWith_builtin1 ?_ hs rfl
  rw [hs]
  show wpAny _ _ (spliced ((false, eval (.Call (.Attribute e "items" apos) [] [] cpos) X.env) :: backTo pos (starEach [] X.env))) _ _ s
  refine Calls.spliced_cons ?_
  refine wpAny_Call_method (T := "dict") (id := "dict.items") hbase rfl hline F.plainAttrs_dict F.slot_dict_items F.type_dict_items (thn (he.run pins s σ H _ I hq) fun u s1 ⟨x, H1, I1, rx, d, ns, ex, hd, q⟩ => ?_)
  subst ex
  obtain rfl : u = Value.ref d := rx
  obtain ⟨hz, hs0, vs, kv, hdo⟩ := I1.hok d _ hd
  obtain ⟨ep, hat⟩ := hdo.dictAt
  have lk : (kvI ns).length = vs.length := Paired.length kv
  have I2 : Inv X pins σ H1 { s1 with heap := s1.heap.push { cls := .type "dict_items", data := .fields #[.ref d] } } := I1.kept (t' := s1.toks) fun b ob q => Heap.get?_push_of_some _ q
  refine ⟨hdo.typeIs, hdo.mapOf.noDict, ?_⟩
  show wpAny _ _ (callWith cpos (.builtin "dict.items") [.ref d] [] []) _ X.xe s1
  refine method_meetsIn F.slot_dict_items F.entry_dict_items rfl (PySem.evalArgs_none ⟨rfl, hdo.typeIs, F.args_dict_items_1 _, _, meets_dict_items (mixKind X.prog X.w) d hs0, ⟨vs, hdo⟩, ?_⟩)
  refine Calls.spliced_nil ?_
  refine Calls.call_function_entry kind_sorted plain_sorted entry_sorted (args_sorted1 _) ?_
  unfold Builtin.«sorted»
  refine wpAny_bind (m := checkCount "sorted" 1 1 _) (wpAny_pure ?_)
  refine wpAny_bind (PySem.W.kdx_collect (A := X.A.in1) (knd := mixKind X.prog X.w) (kvs := vs) (ep := ep) (I1.ok.hd hc) ⟨_, Heap.get?_push_size _ rfl, rfl, rfl⟩ (hat.push _) (by omega) fun h' tk as hk hl hG => ?_)
  refine wpAny_bind (wpAny_newList ?_ (by rw [List.length_map]; omega))
  have hob : (h'.push { cls := .type "list", data := .seq (as.map Value.ref).toArray }).get? h'.objs.size = some (seqObj "list" (as.map Value.ref).toArray 0) := Heap.get?_push_size _ rfl
  have ka : ∀ b o, h'.get? b = some o → b ≠ h'.objs.size ∧ (h'.push { cls := .type "list", data := .seq (as.map Value.ref).toArray }).get? b = some o := fun b o e => ⟨Nat.ne_of_lt (Heap.lt_size e), Heap.get?_push_of_some _ e⟩
  have hsz : (h'.push { cls := .type "list", data := .seq (as.map Value.ref).toArray }).objs.size = h'.objs.size + 1 := Heap.size_push _ _
  generalize h'.push { cls := .type "list", data := .seq (as.map Value.ref).toArray } = h2 at hob ka hsz ⊢
  -- the pairs
  have pr : ∀ (j : Nat) (b : Addr), as[j]? = some b → ∃ n, ns[j]? = some n ∧ Srt.IsPair h2 (.ref b) n.1 n.2 := by
    intro j b hj
    obtain ⟨key, k, x, f1, f2, f3⟩ := hG.pairs j b hj
    have hjl : j < vs.length := (List.getElem?_eq_some_iff.mp f1).1
    have hjn : j < ns.length := by rw [← lk] at hjl; unfold kvI at hjl; rw [List.length_map] at hjl; exact hjl
    have e2 : (kvI ns)[j]? = some (Sum.inl ns[j].1, V.int ns[j].2) := by unfold kvI; rw [List.getElem?_map, List.getElem?_eq_getElem hjn]; rfl
    obtain ⟨qv, g1, g2, g3⟩ := LiI.paired_get kv e2
    rw [f1] at g1
    cases g1
    have g2 : (Sum.inl ns[j].1 : Key) = k := g2
    subst g2
    have rk : RelV (.int ns[j].1) key := relV_key (k := (Sum.inl ns[j].1 : Key)) (show keyIs (Sum.inl ns[j].1) key = true from f2)
    obtain ⟨t1, rfl⟩ := rk
    obtain ⟨t2, rfl⟩ := (show RelV (.int ns[j].2) x from g3)
    exact ⟨ns[j], List.getElem?_eq_getElem hjn, b, _, t1, t2, 0, rfl, (ka _ _ f3).2, rfl, rfl⟩
  have len : as.length = ns.length := by
    rw [hl, ← lk]
    unfold kvI
    rw [List.length_map]
  have emap : (as.map Value.ref).map (kOf h2) = ns := by
    apply List.ext_getElem (by rw [List.length_map, List.length_map, len])
    intro j h1 h3
    obtain ⟨n, e1, e2⟩ := pr j as[j] (List.getElem?_eq_getElem _)
    rw [List.getElem_map, List.getElem_map, kOf_eq e2]
    rw [List.getElem?_eq_getElem h3] at e1
    exact (Option.some.inj e1).symm
  have hp : ∀ v ∈ as.map Value.ref, Srt.IsPair h2 v (kOf h2 v).1 (kOf h2 v).2 := fun v hv => by
    obtain ⟨b, hb, rfl⟩ := List.mem_map.mp hv
    obtain ⟨j, hj⟩ := List.mem_iff_getElem?.mp hb
    obtain ⟨n, _, e⟩ := pr j b hj
    rw [kOf_eq e]
    exact e
  refine wpAny_bind (wpAny_holding (wpAny_call_entry slot_list_sort ⟨_, hob, rfl⟩ entry_list_sort (SrtO.list_sort_ord (SrtO.swo_lex (kOf h2)) hob (by rw [List.length_map]; omega) (fun h2' => SrtO.pairs_sortableO (s := { s1 with heap := h2, toks := tk }) (by omega) hp fun o e => ?_) fun out h1 hb => ⟨_, rfl, ?_⟩) (args_list_sort _)))
  · have e' : some o = some (seqObj "list" (as.map Value.ref).toArray 0) := e.symm.trans hob
    cases e'
    intro c
    exact absurd (Value.type.inj c) (by decide)
  refine wpAny_pure ⟨_, rfl, ?_⟩
  obtain ⟨en, he'⟩ := sortedHeap_at (vs := as.map Value.ref) (out := out.toArray) hob
  have k3 : ∀ b o, h'.get? b = some o → (sortedHeap h2 h'.objs.size (as.map Value.ref) out.toArray).get? b = some o := fun b o e => by
    rw [sortedHeap_old (ka b o e).1 (Heap.lt_size (ka b o e).2)]
    exact (ka b o e).2
  have hrefs : ∀ v ∈ out, ∃ b, b ∈ as ∧ v = Value.ref b := fun v hv => by
    obtain ⟨b, hb', e⟩ := List.mem_map.mp (hb.perm.mem_iff.mp hv)
    exact ⟨b, hb', e.symm⟩
  have eo : out = (out.map addrOf).map Value.ref := by
    rw [List.map_map]
    have : out.map id = out.map (Value.ref ∘ addrOf) := List.map_congr_left fun v hv => by
      obtain ⟨b, _, rfl⟩ := hrefs v hv
      rfl
    rw [List.map_id] at this
    exact this
  have hG3 : PySem.W.KdxG (mixKind X.prog X.w) vs (s1.heap.push { cls := .type "dict_items", data := .fields #[.ref d] }).objs.size (sortedHeap h2 h'.objs.size (as.map Value.ref) out.toArray) as :=
    ⟨hG.rise, hG.above, fun j a hj => by
      obtain ⟨key, k, x, f1, f2, f3⟩ := hG.pairs j a hj
      exact ⟨key, k, x, f1, f2, k3 _ _ f3⟩⟩
  have hPas : h'.objs.size ∉ as := fun z => by
    have := hG.there z
    exact Nat.lt_irrefl _ this
  have hPle : (s1.heap.push { cls := .type "dict_items", data := .fields #[.ref d] }).objs.size ≤ h'.objs.size := by
    have := Heap.lt_size (hk s1.heap.objs.size _ (Heap.get?_push_size _ rfl))
    rw [Heap.size_push]
    exact this
  have hol : out.length = as.length := by rw [hb.perm.length_eq, List.length_map]
  obtain ⟨H', q1, q2, q3, q4, q5, J⟩ := laid (tk := tk) (P := h'.objs.size) (outs := out.map addrOf) I2 kv (fun b o e => k3 _ _ (hk b o e)) hPle hPas he' hl hG3 (by rw [← eo]) (by rw [List.length_map, hol]; omega)
  refine ⟨.ref _, H', J, rfl, q H' _ (out.map addrOf) (out.map (kOf h2)) q1 q2 q4 ?_ ?_ ?_⟩
  · refine paired_map fun v hv => ?_
    obtain ⟨b, hb', rfl⟩ := hrefs v hv
    obtain ⟨j, hj⟩ := List.mem_iff_getElem?.mp hb'
    obtain ⟨n, e1, e2⟩ := pr j b hj
    rw [kOf_eq e2]
    obtain ⟨qv, g1, g2⟩ := LiI.paired_get q5 hj
    have : (kvI ns)[j]? = some (Sum.inl n.1, V.int n.2) := by unfold kvI; rw [List.getElem?_map, e1]; rfl
    rw [this] at g1
    cases g1
    exact g2
  · have := hb.perm.map (kOf h2)
    rw [emap] at this
    exact this
  · exact List.pairwise_map.mpr h1
/-- xs[i] op= e: what is read, 0 ≤ i -/
theorem pget_list : PGet X (rIxL X.K) := by
  intro pins s σ H o i ov iv Q I ro ri h
  obtain ⟨p, xs, k, z, rfl, rfl, hq, he, q⟩ := h
  cases ro
  obtain ⟨t, rfl⟩ := ri
  obtain ⟨its, r, pl, hz⟩ := I.list hq
  obtain ⟨j, h1, h2, h3, h4, h5⟩ := atI_get he
  obtain ⟨w, ew, rw'⟩ := r.get h2
  have hl := r.length
  have hn := line63
  have fin : EP X pins σ Q w s := ⟨z, H, I, rw', q⟩
  by_cases h0 : 0 ≤ k
  · have hj : k.toNat = j := by
      rw [seqIndex_of h0 h5] at h1
      exact Option.some.inj h1
    exact wpAny_getItem_list pl.isList h0 (by omega) (by rw [hj]; simpa using ew) fin
  · have hj : (k + (its.toArray.size : Int)).toNat = j := by
      rw [seqIndex_neg (by omega) h4] at h1
      rw [List.size_toArray, ← hl]
      exact Option.some.inj h1
    exact wpAny_getItem_list_neg pl.isList (by omega) (by rw [List.size_toArray] <;> omega) (by omega) (by rw [hj]; simpa using ew) fin
end
end Rt

set_option maxHeartbeats 4000000
/-! tuple(list) whose object stays known; dict(tuple of pairs); d.update(dict) -/
namespace Rd
open PySem PySem.Spec PyProof.Rows L2
section
variable {X : Cx}
theorem call_tuple_ofF : CallR X (.type "tuple") (fun xs H Q => ∃ p ys, xs = [.ref p] ∧ SqL X.K H p ys ∧ ∀ l o, H l = none → o.dict = none → Q (.ref l) (upd H l (.frz o (.tup ys)))) := by
  intro pins s σ H xs us Q I r h
  obtain ⟨p, ys, rfl, hq, q⟩ := h
  obtain ⟨u, rfl, rx⟩ := vals1 r
  cases rx
  obtain ⟨its, r', pl, hz⟩ := I.list hq
  have hlen := r'.length
  refine call_tuple_list pl.isList (fun h' kp => ?_) (by simp only [List.size_toArray] <;> omega)
  have I1 : Inv X pins σ H { s with heap := h' } := I.kept (t' := s.toks) kp
  have I2 : Inv X pins σ (upd H h'.objs.size (.frz { cls := .type "tuple", data := .seq its.toArray } (.tup ys))) { s with heap := h'.push { cls := .type "tuple", data := .seq its.toArray } } :=
    I1.laid (t' := s.toks) (fun b o e => Heap.get?_push_of_some _ e) (Nat.le_refl _) (show ObjOk X.prog X.w _ _ _ (.frz _ (.tup ys)) from ⟨Heap.get?_push_size _ rfl, hz, its, r', IsTup.new _ _⟩)
  exact ⟨.ref h'.objs.size, _, I2, rfl, q _ _ (I1.hok.fresh (Nat.le_refl _)) rfl⟩
theorem pairs_of2 {pins : List (Addr × Obj)} {σ : L2.St} {H : Hp} {s : Shared} (I : Inv X pins σ H s) : ∀ {ps : List Addr} {kvs : List (Key × V)}, Paired (fun p kv => SqT X.K H p [kV kv.1, kv.2]) ps kvs →
    ∃ (prs : List (Key × Value)) (us : List (Value × Value)), KV kvs prs ∧ prs.length = ps.length ∧ us.length = ps.length ∧ ∀ (j : Nat) (b : Addr), ps[j]? = some b → ∃ k u v, prs[j]? = some (k, v) ∧ us[j]? = some (u, v) ∧ IsTup s.heap b #[u, v] ∧ keyIs k u = true
  | _, _, .nil => ⟨[], [], .nil, rfl, rfl, fun j b e => by simp at e⟩
  | _, _, .cons (a := p) (b := kv) h t => by
    obtain ⟨prs, us, r, hl, hl2, hp⟩ := pairs_of2 I t
    obtain ⟨its, rv, ht, _⟩ := I.tuple h
    obtain ⟨u, y, ei, ru, ry⟩ := vals2 rv
    subst ei
    refine ⟨(kv.1, y) :: prs, (u, y) :: us, .cons ⟨rfl, ry⟩ r, by rw [List.length_cons, List.length_cons, hl], by rw [List.length_cons, List.length_cons, hl2], fun j b e => ?_⟩
    cases j with
    | zero =>
      have e' : p = b := Option.some.inj e
      subst e'
      exact ⟨kv.1, u, y, rfl, rfl, ht, kV_is (P := X.prog) (w := X.w) ru⟩
    | succ j =>
      obtain ⟨k, u', v, e1, e2, e3, e4⟩ := hp j b (by simpa using e)
      exact ⟨k, u', v, by simpa using e1, by simpa using e2, e3, e4⟩
/-- dict(t) of a tuple of pairs (key, value) -/
theorem call_dictPT (hcalm : X.calm = true) : CallR X (.type "dict") (fun xs H Q => ∃ (a : Addr) (o : Obj) (ps : List Addr) (kvs : List (Key × V)), xs = [.ref a] ∧ H a = some (.frz o (.tup (ps.map V.ref))) ∧ o.dict = none ∧ Paired (fun p kv => SqT X.K H p [kV kv.1, kv.2]) ps kvs ∧
    ∀ p, H p = none → Q (.ref p) (upd H p (.dK (mergeK [] kvs)))) := by
  intro pins s σ H xs us Q I r q
  obtain ⟨a, o, ps, kvs, ex, hq, hdn, hp, q⟩ := q
  subst ex
  obtain ⟨u, eu, rx⟩ := vals1 r
  subst eu
  cases rx
  obtain ⟨ho, hz, its, rv, o', ho', hc, n, hdat⟩ := (show ObjOk X.prog X.w H s.heap a (.frz o (.tup (ps.map V.ref))) from I.hok a _ hq)
  have eo : o = o' := by
    rw [ho] at ho'
    exact Option.some.inj ho'
  subst eo
  have ei := refs_at rv
  subst ei
  rw [List.length_map] at hz
  obtain ⟨prs, us, rel, hl, hl2, hpr⟩ := pairs_of2 I hp
  have key := PySem.call_dict_pairs (prog := X.prog) (w := X.w) (A := X.A) (E := X.xe) (s := s) (knd := mixKind X.prog X.w) (kvs := prs) (Q := EP X pins σ Q)
    (PySem.PairArg.tuple (prog := X.prog) (w := X.w) a (ps.map Value.ref).toArray (fun j => ps.getD j 0) us) (I.ok.hd hcalm)
    ⟨⟨o, n, ho, hc, hdn, hdat⟩, by simp [hl2], fun j k v hj => by
      have hjl : j < ps.length := by rw [← hl2]; exact (List.getElem?_eq_some_iff.mp hj).1
      obtain ⟨k', u', v', e1, e2, e3, e4⟩ := hpr j ps[j] (List.getElem?_eq_getElem hjl)
      rw [hj] at e2
      cases e2
      have eg : ps.getD j 0 = ps[j] := by rw [List.getD_eq_getElem?_getD, List.getElem?_eq_getElem hjl]; rfl
      exact ⟨by simp [hjl], .inl (by show s.heap.IsTuple (ps.getD j 0) #[k, v]; rw [eg]; exact e3)⟩⟩
    ⟨by rw [hl, hl2], fun i k v hi => by
      have hjl : i < ps.length := by rw [← hl2]; exact (List.getElem?_eq_some_iff.mp hi).1
      obtain ⟨k', u', v', e1, e2, e3, e4⟩ := hpr i ps[i] (List.getElem?_eq_getElem hjl)
      have hi' : us[i]? = some (k, v) := hi
      rw [hi'] at e2
      cases e2
      exact ⟨k', e1, e4⟩⟩ (by rw [hl2]; exact hz) (fun h' tk hd' hk => ?_)
  · exact key
  · have hm : (s.heap.objs.size == sysModules) = false := beq_eq_false_iff_ne.mpr (Nat.ne_of_gt I.big)
    have hlen : (mergeK [] kvs).length ≤ sizeLine := by
      refine Nat.le_trans (length_mergeK kvs []) ?_
      rw [List.length_nil, Nat.zero_add, rel.length, hl]
      exact hz
    exact ⟨.ref s.heap.objs.size, upd H s.heap.objs.size (.dK (mergeK [] kvs)), I.laid (t' := tk) (fun b o e => hk b o List.not_mem_nil e) (Nat.le_refl _) (show ObjOk X.prog X.w _ _ _ (.dK (mergeK [] kvs)) from ⟨hlen, hm, merged [] prs, KV.merge rel .nil, hd'⟩), rfl, q _ (I.hok.fresh (Nat.le_refl _))⟩
end
section
variable {X : Cx} {pins : List (Addr × Obj)} {σ : L2.St} {H : Hp} {s : Shared} {a b : Addr} {kvs more : List (Key × V)} {A : Around} {E : Value → Shared → Prop}
theorem d_update {Q : Value → Shared → Prop} (I : Inv X pins σ H s) (e : H a = some (.dK kvs)) (eb : Rd H b (.dK more)) (hne : a ≠ b) (hsz : kvs.length + more.length ≤ sizeLine)
    (h : ∀ s', Inv X pins σ (upd H a (.dK (mergeK kvs more))) s' → Q .none s') : wpAny (model X.prog X.w) A (call (.builtin "dict.update") [.ref a, .ref b]) Q E s := by
  obtain ⟨z, hd, vs, rel, dd⟩ := dk_of I.hok e
  obtain ⟨z2, hd2, vs2, rel2, dd2⟩ := dk_rd I.hok eb
  refine call_meetsIn PySem.F.slot_dict_update dd.typeIs PySem.F.entry_dict_update (PySem.F.args_dict_update_2 _ _) (meets_dict_update (mixKind X.prog X.w) a b hne hd2)
    ⟨vs, vs2, dd, dd2, (by rw [← rel.length, ← rel2.length]; exact hsz), fun h' dd' _ hs => h _ ?_⟩
  have he : ∃ q, h'.get? a = some q := let ⟨q, _, _, hq, _⟩ := dd'; ⟨q, hq⟩
  exact d_write I (by rw [e]; exact True.intro) hs he (dk_new (Nat.le_trans (length_mergeK more kvs) hsz) hd (rel2.merge rel) dd')
end
def tDUpd (td te : TE) : TE := fun σ H Q => td σ H fun x H1 => ∃ a, x = .ref a ∧ IsD H1 a ∧ te σ H1 fun y H2 => ∃ b kvs more, y = .ref b ∧ a ≠ b ∧ H2 a = some (.dK kvs) ∧ H2 b = some (.dK more) ∧ kvs.length + more.length ≤ sizeLine ∧ Q .non (upd H2 a (.dK (mergeK kvs more)))
theorem pe_dupd {X : Cx} {o e : Expr} {apos cpos : Pos} {td ty : TE} (ho : PE X o td) (he : PE X e ty) (m : M1 X o "update" apos e cpos) : PE X (.Call (.Attribute o "update" apos) [e] [] cpos) (tDUpd td ty) := by
  refine ⟨fun pins s σ H Q I h => ?_⟩
  refine wpAny_Call_method m.base m.few m.line PySem.F.plainAttrs_dict PySem.F.slot_dict_update PySem.F.type_dict_update (thn (ho.run pins s σ H _ I h) fun u s1 ⟨x, H1, I1, rx, a, ex, d, q1⟩ => ?_)
  subst ex
  obtain rfl : u = Value.ref a := rx
  obtain ⟨t1, t2, _⟩ := isD_at I1 d
  refine ⟨t1, t2, ?_⟩
  rw [m.trees]
  refine Calls.callWith_builtin rfl (Calls.evalArgs_plain (Calls.spliced_cons (thn (he.run pins s1 σ H1 _ I1 q1) fun iv s2 ⟨y, H2, I2, ry, b, kvs, more, ey, hne, ea, eb, hsz, q2⟩ => Calls.spliced_nil ?_)))
  subst ey
  obtain rfl : iv = Value.ref b := ry
  exact d_update I2 ea (.inl eb) hne hsz fun s3 I3 => ⟨.non, _, I3, rfl, q2⟩
end Rd

set_option maxHeartbeats 4000000
/-! tables of whole numbers, calls, answers -/
namespace Dk
open PySem PySem.Spec PyProof.Rows L2 StX
def top (i : Nat) : Stmt := PySem.Challenge.pw_driftkept_k23_calls_on_plain_maps.main.body.getD i (.Pass ⟨0, 0, 0, 0⟩)
theorem iteD {c A B : Prop} [Decidable c] (hc : c) (h : A) : if decide c = true then A else B := by
  rw [decide_eq_true hc]
  exact iteT h
theorem iteND {c A B : Prop} [Decidable c] (hc : ¬ c) (h : B) : if decide c = true then A else B := by
  rw [decide_eq_false hc]
  exact iteF h
theorem iteNT {c A B : Prop} [Decidable c] (hc : ¬ c) (h : A) : if (!decide c) = true then A else B := by
  rw [decide_eq_false hc]
  exact iteT h
theorem iteC {c : Bool} {A B : Prop} (hc : c = false) (h : B) : if c = true then A else B := by
  rw [hc]
  exact iteF h
theorem up1 {H1 : Hp} {p : Addr} {o : HO} (hp : H1 p = none) : Same H1 (upd H1 p o) := fun b u e => by rw [upd_ne (ne_of_none e hp)]; exact e
theorem _root_.L2.SqT.same {K : PySem.W.Frag} {H H' : Hp} {a : Addr} {xs : List V} (h : SqT K H a xs) (s : Same H H') : SqT K H' a xs :=
  h.elim (fun h => .inl (h.elim (fun h => .inl (s _ _ h)) fun ⟨o, h⟩ => .inr ⟨o, s _ _ h⟩)) fun h => .inr h
theorem at0 {x : V} {xs : List V} : atI (x :: xs) 0 = some x := atI_nat rfl
theorem at1 {x y : V} {xs : List V} : atI (x :: y :: xs) 1 = some y := atI_nat (j := 1) rfl
theorem at2 {x y z : V} {xs : List V} : atI (x :: y :: z :: xs) 2 = some z := atI_nat (j := 2) rfl
theorem at3 {x y z u : V} {xs : List V} : atI (x :: y :: z :: u :: xs) 3 = some u := atI_nat (j := 3) rfl
theorem pget {α β : Type} {F : α → β → Prop} : ∀ {xs : List α} {ys : List β}, Paired F xs ys → ∀ {i : Nat} {x : α}, xs[i]? = some x → ∃ y, ys[i]? = some y ∧ F x y
  | _, _, .nil, i, x, h => by cases h
  | _, _, .cons r t, 0, x, h => by
    have e := Option.some.inj h
    subst e
    exact ⟨_, rfl, r⟩
  | _, _, .cons r t, i + 1, x, h => pget t h
theorem plen {α β : Type} {F : α → β → Prop} : ∀ {xs : List α} {ys : List β}, Paired F xs ys → xs.length = ys.length
  | _, _, .nil => rfl
  | _, _, .cons _ t => by rw [List.length_cons, List.length_cons, plen t]
theorem papp {α β : Type} {F : α → β → Prop} : ∀ {xs xs' : List α} {ys ys' : List β}, Paired F xs ys → Paired F xs' ys' → Paired F (xs ++ xs') (ys ++ ys')
  | _, _, _, _, .nil, t => t
  | _, _, _, _, .cons r t, u => .cons r (papp t u)
theorem pmono {α β : Type} {F G : α → β → Prop} (h : ∀ a b, F a b → G a b) : ∀ {xs : List α} {ys : List β}, Paired F xs ys → Paired G xs ys
  | _, _, .nil => .nil
  | _, _, .cons r t => .cons (h _ _ r) (pmono h t)
theorem mhit {kind : Str} {is : List Nat} {tb : TS} {tr : Addr → List V → TS} {a : Addr} {ys : List V} {D : Ends} {σ : L2.St} {H : Hp} (hlen : ys.length = is.length) (h : tb D (setAll σ is ys) H) : mCase kind is tb tr a (.str kind :: ys) D σ H := by
  unfold mCase
  rw [if_pos (by rw [List.length_cons, hlen])]
  exact ⟨kind, ys, rfl, by rw [if_pos rfl]; exact h⟩
theorem mmiss {kind z : Str} {is : List Nat} {tb : TS} {tr : Addr → List V → TS} {a : Addr} {ys : List V} {D : Ends} {σ : L2.St} {H : Hp} (hk : z ≠ kind) (h : tr a (.str z :: ys) D σ H) : mCase kind is tb tr a (.str z :: ys) D σ H := by
  unfold mCase
  split
  · exact ⟨z, ys, rfl, by rw [if_neg hk]; exact h⟩
  · exact h
abbrev Tb := List (Int × Int)
def keys (t : Tb) : List Int := t.map (·.1)
def wo (t : Tb) (k : Int) : Tb := t.filter fun n => !decide (n.1 = k)
def putI (t : Tb) (k v : Int) : Tb := if (t.any fun n => decide (n.1 = k)) = true then t.map (fun n => if n.1 = k then (n.1, v) else n) else t ++ [(k, v)]
theorem lookup_mem {k v : Int} : ∀ {t : Tb}, (keys t).Nodup → (t.lookup k = some v ↔ (k, v) ∈ t)
  | [], _ => by simp [List.lookup]
  | (k', v') :: t, nd => by
    have nd' : k' ∉ keys t ∧ (keys t).Nodup := List.nodup_cons.mp nd
    rw [List.lookup_cons]
    by_cases c : k = k'
    · subst c
      rw [beq_self_eq_true]
      constructor
      · intro h
        cases h
        exact List.mem_cons_self
      · intro h
        rcases List.mem_cons.mp h with e | e
        · cases e; rfl
        · exact absurd (List.mem_map.mpr ⟨_, e, rfl⟩) nd'.1
    · rw [beq_false_of_ne c]
      show t.lookup k = some v ↔ _
      rw [lookup_mem nd'.2]
      constructor
      · exact fun h => List.mem_cons_of_mem _ h
      · intro h
        rcases List.mem_cons.mp h with e | e
        · cases e; exact absurd rfl c
        · exact e
theorem lookup_perm {a b : Tb} {k : Int} (p : a.Perm b) (nd : (keys b).Nodup) : a.lookup k = b.lookup k := by
  have nda : (keys a).Nodup := (p.map _).nodup_iff.mpr nd
  cases ea : a.lookup k with
  | some v =>
    have := (lookup_mem nda).mp ea
    exact ((lookup_mem nd).mpr (p.mem_iff.mp this)).symm
  | none =>
    cases eb : b.lookup k with
    | none => rfl
    | some v =>
      have := (lookup_mem nda).mpr (p.mem_iff.mpr ((lookup_mem nd).mp eb))
      rw [ea] at this
      cases this
theorem valV_kvI (k : Int) : ∀ t : Tb, valV (Rt.kvI t) (Sum.inl k : Key) = (t.lookup k).map V.int
  | [] => rfl
  | (k', v') :: t => by
    rw [List.lookup_cons]
    by_cases c : k' = k
    · subst c
      rw [beq_self_eq_true]
      exact valV_pos rfl
    · rw [beq_false_of_ne fun z => c z.symm]
      show _ = (t.lookup k).map V.int
      rw [← valV_kvI k t]
      exact valV_neg fun z => c (Sum.inl.inj z)
theorem inl_iff {a b : Int} : decide ((Sum.inl a : Key) = Sum.inl b) = decide (a = b) := by
  by_cases c : a = b
  · rw [decide_eq_true c, decide_eq_true (congrArg Sum.inl c)]
  · rw [decide_eq_false c, decide_eq_false fun z => c (Sum.inl.inj z)]
theorem any_kvI (k : Int) : ∀ t : Tb, ((Rt.kvI t).any fun kv => decide (kv.1 = (Sum.inl k : Key))) = t.any fun n => decide (n.1 = k)
  | [] => rfl
  | n :: t => by
    show (decide ((Sum.inl n.1 : Key) = Sum.inl k) || ((Rt.kvI t).any fun kv => decide (kv.1 = (Sum.inl k : Key)))) = (decide (n.1 = k) || t.any fun n => decide (n.1 = k))
    rw [any_kvI k t, inl_iff]
theorem putK_kvI (t : Tb) (k v : Int) : putK (Rt.kvI t) (Sum.inl k : Key) (.int v) = Rt.kvI (putI t k v) := by
  unfold putK putI
  rw [any_kvI]
  split
  · unfold Rt.kvI
    rw [List.map_map, List.map_map]
    refine List.map_congr_left fun n _ => ?_
    show (if (Sum.inl n.1 : Key) = Sum.inl k then ((Sum.inl n.1 : Key), V.int v) else (Sum.inl n.1, V.int n.2)) = ((fun n : Int × Int => ((Sum.inl n.1 : Key), V.int n.2)) (if n.1 = k then (n.1, v) else n))
    by_cases c : n.1 = k
    · rw [if_pos (congrArg Sum.inl c), if_pos c]
    · rw [if_neg fun z => c (Sum.inl.inj z), if_neg c]
  · unfold Rt.kvI
    rw [List.map_append]
    rfl
theorem dropK_kvI (k : Int) : ∀ t : Tb, dropK (Rt.kvI t) (Sum.inl k : Key) = Rt.kvI (wo t k)
  | [] => rfl
  | n :: t => by
    have ih := dropK_kvI k t
    by_cases c : n.1 = k
    · have e1 : wo (n :: t) k = wo t k := by unfold wo; rw [List.filter_cons, if_neg (by simp [c])]
      rw [e1, ← ih]
      exact List.filter_cons_of_neg (by simp [c])
    · have e1 : wo (n :: t) k = n :: wo t k := by unfold wo; rw [List.filter_cons, if_pos (by simp [c])]
      rw [e1]
      show _ = (Sum.inl n.1, V.int n.2) :: Rt.kvI (wo t k)
      rw [← ih]
      exact List.filter_cons_of_pos (by simp [c])
theorem wo_none {k : Int} : ∀ {t : Tb}, t.lookup k = none → wo t k = t
  | [], _ => rfl
  | (k', v') :: t, h => by
    rw [List.lookup_cons] at h
    by_cases c : k = k'
    · rw [c, beq_self_eq_true] at h
      cases h
    · rw [beq_false_of_ne c] at h
      have e1 : wo ((k', v') :: t) k = (k', v') :: wo t k := by unfold wo; rw [List.filter_cons, if_pos (by simp; exact fun z => c z.symm)]
      rw [e1, wo_none h]
theorem wo_not {k : Int} {t : Tb} (h : k ∉ keys t) : wo t k = t := List.filter_eq_self.mpr fun n hn => by
  have : n.1 ≠ k := fun z => h (List.mem_map.mpr ⟨n, hn, z⟩)
  simp [this]
theorem putI_perm {k v : Int} : ∀ {t : Tb}, (keys t).Nodup → (putI t k v).Perm (wo t k ++ [(k, v)])
  | [], _ => .refl _
  | n :: t, nd => by
    have nd' : n.1 ∉ keys t ∧ (keys t).Nodup := List.nodup_cons.mp nd
    by_cases c : n.1 = k
    · have e1 : wo (n :: t) k = wo t k := by unfold wo; rw [List.filter_cons, if_neg (by simp [c])]
      have e2 : wo t k = t := wo_not (by rw [← c]; exact nd'.1)
      have e3 : putI (n :: t) k v = (k, v) :: t := by
        unfold putI
        rw [if_pos (by simp [c]), List.map_cons, if_pos c, c]
        refine congrArg _ ?_
        have : t.map (fun n => if n.1 = k then (n.1, v) else n) = t.map id := List.map_congr_left fun m hm => if_neg fun z => nd'.1 (by rw [c, ← z]; exact List.mem_map.mpr ⟨m, hm, rfl⟩)
        rw [this, List.map_id]
      rw [e1, e2, e3]
      exact (List.perm_append_comm (l₁ := [(k, v)]) (l₂ := t))
    · have e1 : wo (n :: t) k = n :: wo t k := by unfold wo; rw [List.filter_cons, if_pos (by simp [c])]
      have e3 : putI (n :: t) k v = n :: putI t k v := by
        unfold putI
        have ea : ((n :: t).any fun n => decide (n.1 = k)) = (t.any fun n => decide (n.1 = k)) := by simp [c]
        rw [ea]
        split
        · rw [List.map_cons, if_neg c]
        · rfl
      rw [e1, e3]
      exact (putI_perm nd'.2).cons n
theorem wo_nd {t : Tb} {k : Int} (h : (keys t).Nodup) : (keys (wo t k)).Nodup := h.sublist (List.filter_sublist.map _)
theorem putI_nd {t : Tb} {k v : Int} (h : (keys t).Nodup) : (keys (putI t k v)).Nodup := by
  refine ((putI_perm (k := k) (v := v) h).map _).nodup_iff.mpr ?_
  show ((wo t k ++ [(k, v)]).map (·.1)).Nodup
  rw [List.map_append]
  refine List.nodup_append.mpr ⟨wo_nd h, by simp, fun a ha b hb => ?_⟩
  obtain ⟨n, hn, rfl⟩ := List.mem_map.mp ha
  have hb : b = k := by simpa using hb
  subst hb
  have := (List.mem_filter.mp hn).2
  simpa using this

theorem putI_none {k v : Int} {t : Tb} (h : t.lookup k = none) : putI t k v = t ++ [(k, v)] := by
  have : (t.any fun n => decide (n.1 = k)) = false := by
    refine List.any_eq_false.mpr fun n hn z => ?_
    have e := of_decide_eq_true z
    clear z
    induction t with
    | nil => cases hn
    | cons m t ih =>
      rw [List.lookup_cons] at h
      by_cases c : k = m.1
      · rw [c, beq_self_eq_true] at h
        cases h
      · rw [beq_false_of_ne c] at h
        rcases List.mem_cons.mp hn with e' | e'
        · subst e'
          exact c e.symm
        · exact ih h e'
  unfold putI
  rw [if_neg (by rw [this]; decide)]
theorem keys_none {k : Int} : ∀ {t : Tb}, t.lookup k = none → k ∉ keys t
  | [], _ => by simp [keys]
  | (k', v') :: t, h => by
    rw [List.lookup_cons] at h
    by_cases c : k = k'
    · rw [c, beq_self_eq_true] at h
      cases h
    · rw [beq_false_of_ne c] at h
      intro z
      rcases List.mem_cons.mp z with z | z
      · exact c z
      · exact keys_none h z
theorem not_keys {k : Int} : ∀ {t : Tb}, k ∉ keys t → t.lookup k = none
  | [], _ => rfl
  | (k', v') :: t, h => by
    rw [List.lookup_cons, beq_false_of_ne fun z => h (by rw [z]; exact List.mem_cons_self)]
    exact not_keys fun z => h (List.mem_cons_of_mem _ z)
theorem wo_look {t : Tb} {k j : Int} (h : t.lookup j = none) : (wo t k).lookup j = none := not_keys fun z => keys_none h ((List.filter_sublist.map _).subset z)
theorem wo_app {t : Tb} {k j v : Int} (h : j ≠ k) : wo (t ++ [(j, v)]) k = wo t k ++ [(j, v)] := by
  unfold wo
  rw [List.filter_append, List.filter_cons, if_pos (by simp [h])]
  rfl
theorem putI_len {t : Tb} {k v : Int} : (putI t k v).length ≤ t.length + 1 := by
  unfold putI
  split
  · rw [List.length_map]; omega
  · rw [List.length_append]; exact Nat.le_refl _
theorem kvI_len (t : Tb) : (Rt.kvI t).length = t.length := List.length_map ..
theorem kvI_nd {t : Tb} (h : (keys t).Nodup) : ((Rt.kvI t).map (·.1)).Nodup := by
  unfold Rt.kvI
  rw [List.map_map]
  have : (fun n : Int × Int => ((Sum.inl n.1 : Key))) = (Sum.inl : Int → Key) ∘ (fun n : Int × Int => n.1) := rfl
  show (t.map (fun n : Int × Int => (Sum.inl n.1 : Key))).Nodup
  rw [this, ← List.map_map]
  exact List.Pairwise.map (Sum.inl : Int → Key) (fun a b z e => z (Sum.inl.inj e)) h
theorem kvI_flat (t : Tb) : ∀ p ∈ Rt.kvI t, flatB p.2 = true := fun p hp => by
  obtain ⟨n, _, rfl⟩ := List.mem_map.mp hp
  rfl
def oV : Option Int → V
  | some v => .int v
  | none => .non
theorem gV (t : Tb) (k : Int) : (valV (Rt.kvI t) (Sum.inl k : Key)).getD .non = oV (t.lookup k) := by
  rw [valV_kvI]
  cases t.lookup k <;> rfl
def putAll (t ps : Tb) : Tb := ps.foldl (fun t p => putI t p.1 p.2) t
theorem merge_kvI : ∀ (ps t : Tb), mergeK (Rt.kvI t) (Rt.kvI ps) = Rt.kvI (putAll t ps)
  | [], t => rfl
  | p :: ps, t => by
    show mergeK (putK (Rt.kvI t) (Sum.inl p.1 : Key) (.int p.2)) (Rt.kvI ps) = _
    rw [putK_kvI, merge_kvI ps]
    rfl
theorem putAll_self : ∀ (ps t : Tb), (keys (t ++ ps)).Nodup → putAll t ps = t ++ ps
  | [], t, _ => (List.append_nil t).symm
  | p :: ps, t, h => by
    have e : t.lookup p.1 = none := not_keys fun z => by
      unfold keys at h
      rw [List.map_append] at h
      exact (List.nodup_append.mp h).2.2 _ z _ List.mem_cons_self rfl
    show putAll (putI t p.1 p.2) ps = _
    rw [putI_none e, putAll_self ps _ (by rw [List.append_assoc]; exact h), List.append_assoc]
    rfl
theorem putAll_nd : ∀ {ps t : Tb}, (keys t).Nodup → (keys (putAll t ps)).Nodup
  | [], t, h => h
  | p :: ps, t, h => putAll_nd (ps := ps) (putI_nd h)
theorem putAll_len : ∀ {ps t : Tb}, (putAll t ps).length ≤ t.length + ps.length
  | [], t => Nat.le_refl _
  | p :: ps, t => by
    have h1 := putAll_len (ps := ps) (t := putI t p.1 p.2)
    have h2 := putI_len (t := t) (k := p.1) (v := p.2)
    show (putAll (putI t p.1 p.2) ps).length ≤ _
    rw [List.length_cons]
    omega
/-- the built-in names as they are -/
structure Bn (mg : Str → Option Value) : Prop where
  isi : mg "isinstance" = none
  int : mg "int" = none
  bool : mg "bool" = none
  tuple : mg "tuple" = none
  range : mg "range" = none
  len : mg "len" = none
  min : mg "min" = none
  dict : mg "dict" = none
inductive Cl where
  | look (k : Int)
  | put (k v : Int)
  | take (k : Int)
  | change (k o n : Int)
  | move (k j : Int)
  | puts (ps : Tb)
def Cl.ok : Cl → Prop
  | .move k j => k ≠ j
  | .puts ps => 0 < ps.length ∧ ps.length ≤ 3 ∧ (keys ps).Nodup
  | _ => True
def PairI (K : PySem.W.Frag) (H : Hp) (v : V) (n : Int × Int) : Prop := ∃ t, v = .ref t ∧ SqT K H t [.int n.1, .int n.2]
theorem PairI.same {K : PySem.W.Frag} {H H' : Hp} {v : V} {n : Int × Int} (h : PairI K H v n) (s : Same H H') : PairI K H' v n := let ⟨t, e, h⟩ := h; ⟨t, e, h.same s⟩
theorem prs_kv {K : PySem.W.Frag} {H : Hp} : ∀ {ts : List V} {ps : Tb}, Paired (PairI K H) ts ps → ∃ as : List Addr, ts = as.map V.ref ∧ Paired (fun p (kv : Key × V) => SqT K H p [kV kv.1, kv.2]) as (Rt.kvI ps)
  | _, _, .nil => ⟨[], rfl, .nil⟩
  | _, _, .cons (b := n) ⟨t, e, h⟩ r => by
    subst e
    obtain ⟨as, rfl, h2⟩ := prs_kv r
    exact ⟨t :: as, rfl, .cons (b := (Sum.inl n.1, V.int n.2)) h h2⟩
def FzT (H : Hp) (q : Addr) (ts : List V) : Prop := ∃ o, H q = some (.frz o (.tup ts)) ∧ o.dict = none
theorem FzT.sq {K : PySem.W.Frag} {H : Hp} {q : Addr} {ts : List V} (h : FzT H q ts) : SqT K H q ts := let ⟨o, h, _⟩ := h; .inl (.inr ⟨o, h⟩)
theorem FzT.same {H H' : Hp} {q : Addr} {ts : List V} (h : FzT H q ts) (s : Same H H') : FzT H' q ts := let ⟨o, h, d⟩ := h; ⟨o, s _ _ h, d⟩
def CallAt (K : PySem.W.Frag) (H : Hp) (c : Addr) : Cl → Prop
  | .look k => SqT K H c [.str "look", .int k]
  | .put k v => SqT K H c [.str "put", .int k, .int v]
  | .take k => SqT K H c [.str "take", .int k]
  | .change k o n => SqT K H c [.str "change", .int k, .int o, .int n]
  | .move k j => SqT K H c [.str "move", .int k, .int j]
  | .puts ps => ∃ q ts, SqT K H c [.str "puts", .ref q] ∧ FzT H q ts ∧ Paired (PairI K H) ts ps
theorem CallAt.same {K : PySem.W.Frag} {H H' : Hp} {c : Addr} {cl : Cl} (h : CallAt K H c cl) (s : Same H H') : CallAt K H' c cl := by
  cases cl with
  | puts ps => exact let ⟨q, ts, h1, h2, h3⟩ := h; ⟨q, ts, h1.same s, h2.same s, pmono (fun _ _ h => h.same s) h3⟩
  | look => exact L2.SqT.same h s
  | put => exact L2.SqT.same h s
  | take => exact L2.SqT.same h s
  | change => exact L2.SqT.same h s
  | move => exact L2.SqT.same h s
inductive Ans where
  | bl (b : Bool)
  | val (o : Option Int)
  | tup (os : List (Option Int))
def AnsAt (K : PySem.W.Frag) (H : Hp) (v : V) : Ans → Prop
  | .bl b => v = .bl b
  | .val o => v = oV o
  | .tup os => ∃ t, v = .ref t ∧ SqT K H t (os.map oV)
theorem AnsAt.same {K : PySem.W.Frag} {H H' : Hp} {v : V} {a : Ans} (h : AnsAt K H v a) (s : Same H H') : AnsAt K H' v a := by
  cases a with
  | tup os => exact let ⟨t, e, h⟩ := h; ⟨t, e, h.same s⟩
  | bl => exact h
  | val => exact h
def ansOf (tb : Tb) : Cl → Ans
  | .look k => .val (tb.lookup k)
  | .put k _ => .val (tb.lookup k)
  | .take k => .val (tb.lookup k)
  | .change k o _ => .bl (decide (tb.lookup k = some o))
  | .move k j => .bl ((tb.lookup k).isSome && (tb.lookup j).isNone)
  | .puts ps => .tup (ps.map fun p => tb.lookup p.1)
def aftOf (tb : Tb) : Cl → Tb
  | .look _ => tb
  | .put k v => putI tb k v
  | .take k => wo tb k
  | .change k o n => if tb.lookup k = some o then putI tb k n else tb
  | .move k j => match tb.lookup k, tb.lookup j with
    | some v, none => wo tb k ++ [(j, v)]
    | _, _ => tb
  | .puts ps => putAll tb ps
theorem aft_nd {tb : Tb} (h : (keys tb).Nodup) : ∀ (cl : Cl), (keys (aftOf tb cl)).Nodup
  | .look _ => h
  | .put _ _ => putI_nd h
  | .take _ => wo_nd h
  | .change k o n => by unfold aftOf; dsimp only; split; exact putI_nd h; exact h
  | .move k j => by
    unfold aftOf
    dsimp only
    split
    · rename_i v h1 h2
      rw [← putI_none (wo_look h2)]
      exact putI_nd (wo_nd h)
    · exact h
  | .puts ps => putAll_nd h
theorem aft_len {tb : Tb} : ∀ {cl : Cl}, cl.ok → (aftOf tb cl).length ≤ tb.length + 3
  | .look _, _ => by show tb.length ≤ _; omega
  | .put k v, _ => by show (putI tb k v).length ≤ _; exact Nat.le_trans putI_len (by omega)
  | .take k, _ => by show (wo tb k).length ≤ _; exact Nat.le_trans (List.length_filter_le _ _) (by omega)
  | .change k o n, _ => by
    unfold aftOf
    dsimp only
    split
    · exact Nat.le_trans putI_len (by omega)
    · omega
  | .move k j, _ => by
    unfold aftOf
    dsimp only
    split
    · rw [List.length_append]
      have : (wo tb k).length ≤ tb.length := List.length_filter_le _ _
      simp only [List.length_singleton]
      omega
    · omega
  | .puts ps, h => by
    have := putAll_len (ps := ps) (t := tb)
    have := h.2.1
    show (putAll tb ps).length ≤ _
    omega
/-- an answer, of a type -/
def ansD : Ans → PyData
  | .bl b => .bool b
  | .val (some v) => .int v
  | .val none => .none
  | .tup os => .tuple (os.map fun o => match o with | some v => .int v | none => .none)
def spAns (K : PySem.W.Frag) : Sp := fun vs H Q _ => ∃ (d c : Addr) (tb : Tb) (cl : Cl), vs = [.ref d, .ref c] ∧ H d = some (.dK (Rt.kvI tb)) ∧ CallAt K H c cl ∧ cl.ok ∧ ∀ H' v, Same H H' → AnsAt K H' v (ansOf tb cl) → Q v H'
def spAft (K : PySem.W.Frag) : Sp := fun vs H Q _ => ∃ (d c : Addr) (tb : Tb) (cl : Cl), vs = [.ref d, .ref c] ∧ H d = some (.dK (Rt.kvI tb)) ∧ (keys tb).Nodup ∧ tb.length < 1000 ∧ CallAt K H c cl ∧ cl.ok ∧ ∀ H' p, Same H H' → H p = none → H' p = some (.dK (Rt.kvI (aftOf tb cl))) → Q (.ref p) H'
end Dk

set_option maxHeartbeats 8000000
/-! the judge's answer_of and after_call -/
namespace Dk
open PySem PySem.Spec PyProof.Rows L2 StX
abbrev sAns : Stmt := top 1
abbrev sAft : Stmt := top 2
abbrev NAn : List Str := ["plain", "call", "key", "old", "new", "other", "pairs", "pair"]
abbrev NAf : List Str := ["plain", "call", "behind", "key", "value", "old", "new", "other", "pairs"]
theorem chg_eq (o : Option Int) (k : Int) : decide (oV o = V.int k) = decide (o = some k) := by
  cases o with
  | none => simp [oV]
  | some v => simp [oV]
theorem sc_oV (o : Option Int) (k : Int) : flatV (oV o) = true := by cases o <;> rfl
section
variable {P : Program} {w : World} {K : PySem.W.Frag} {mg : Str → Option Value} {base : Heap}
theorem scAns : FnScope NAn ["plain", "call"] (defScope sAns) := ⟨rfl, rfl, rfl, by decide +kernel, rfl, by decide +kernel, by decide +kernel⟩
theorem go_ans (F : GT K mg "answer_of" sAns ["plain", "call"]) (B : Bn mg) : GO P w K mg base CX0 1 "answer_of" ["plain", "call"] (spAns K) := by
  obtain ⟨f, fd, F, hm, hb⟩ := F
  refine ⟨f, fd, ?_, hm, F.kp, hb⟩
  refine F.ok scAns (fun vs H Q E h => ?_) (fun cdv A outer s H vs Q E hr h => ?_)
  · obtain ⟨d, c, tb, cl, rfl, _⟩ := h
    rfl
  · obtain ⟨d, c, tb, cl, rfl, hd, hc, ok, k⟩ := h
    have nd := scAns.nd
    have hu := hu_of hr
    have hsl : sizeLine = 16777216 := sizeLine_eq
    refine ⟨_, (pss_cons (ps_match (pv 1)
  (pms_case (is := [2, 3, 4]) rfl nd (.cons rfl rfl (.cons rfl rfl (.cons rfl rfl .nil))) (pss_one (ps_ret (pe_cmpR op_eq (pe_dget1 hu (pv 0) (pv 2) ⟨rfl, rfl, rfl, rfl⟩) (pv 3) (nomark _))))
  (pms_case (is := [2, 5]) rfl nd (.cons rfl rfl (.cons rfl rfl .nil)) (pss_one (ps_ret (pe_and (pe_cmp (pc_din hu (pv 2) (pv 0))) (pe_one (pe_cmp (pc_dnotin hu (pv 5) (pv 0)))))))
  (pms_case (is := [6]) rfl nd (.cons rfl rfl .nil) (pss_one (ps_ret (pe_callTy call_tuple_of (by rfl) B.tuple (by decide +kernel) (pa_cons (pe_lc (own := [("pair", 7)]) (g := (gName 7)) (tt := tYes) (te := (tDGet1 (tVar 0) (tOp (rIxT K) (tVar 7) (tC (.int 0))))) rfl nd (pi_tup (pv 6)) (blkOk_by (N := ["plain", "call", "key", "old", "new", "other", "pairs", "pair"]) (sc := defScope sAns) (by decide +kernel)) (fun _ _ _ _ _ => (pg_name (i := 7) nd rfl (Or.inl rfl))) (fun _ _ _ _ _ => pts_nil) (fun _ _ _ _ _ => (pe_dget1 hu (pv 0) (pe_ix ix_tup (pv 7) pe_int (fun _ _ => rfl)) ⟨rfl, rfl, rfl, rfl⟩))) pa_nil))))
  pms_nil))))
  (pss_one (ps_ret (pe_dget1 hu (pv 0) (pe_ix ix_tup (pv 1) pe_int (fun _ _ => rfl)) ⟨rfl, rfl, rfl, rfl⟩)))), ?_⟩
    have isd : IsD H d := .inl ⟨_, .inl hd⟩
    have get : ∀ x : Int, DGet H d (.int x) (valV (Rt.kvI tb) (Sum.inl x : Key)) := fun x => DGet.k (k := (Sum.inl x : Key)) hd
    cases cl with
    | look x =>
      refine ⟨_, rfl, c, _, rfl, hc, mmiss (by decide) (mmiss (by decide) (mmiss (by decide) ?_))⟩
      refine ⟨_, rfl, d, rfl, isd, _, rfl, c, _, 1, _, rfl, rfl, hc, at1, _, get x, ?_⟩
      rw [gV]
      exact k _ _ (Same.refl H) rfl
    | put x v =>
      refine ⟨_, rfl, c, _, rfl, hc, mmiss (by decide) (mmiss (by decide) (mmiss (by decide) ?_))⟩
      refine ⟨_, rfl, d, rfl, isd, _, rfl, c, _, 1, _, rfl, rfl, hc, at1, _, get x, ?_⟩
      rw [gV]
      exact k _ _ (Same.refl H) rfl
    | take x =>
      refine ⟨_, rfl, c, _, rfl, hc, mmiss (by decide) (mmiss (by decide) (mmiss (by decide) ?_))⟩
      refine ⟨_, rfl, d, rfl, isd, _, rfl, c, _, 1, _, rfl, rfl, hc, at1, _, get x, ?_⟩
      rw [gV]
      exact k _ _ (Same.refl H) rfl
    | change x o n =>
      refine ⟨_, rfl, c, _, rfl, hc, mhit rfl ?_⟩
      refine ⟨_, rfl, d, rfl, isd, _, rfl, _, get x, _, rfl, ?_⟩
      rw [gV]
      refine ⟨by cases tb.lookup x <;> rfl, ?_⟩
      rw [chg_eq]
      exact k _ _ (Same.refl H) rfl
    | move x j =>
      refine ⟨_, rfl, c, _, rfl, hc, mmiss (by decide) (mhit rfl ?_)⟩
      refine ⟨_, rfl, _, rfl, d, _, rfl, get x, _, rfl, ?_⟩
      rw [valV_kvI]
      have e := k H (.bl ((tb.lookup x).isSome && (tb.lookup j).isNone)) (Same.refl H) rfl
      cases h1 : tb.lookup x with
      | none =>
        rw [h1] at e
        exact iteF e
      | some v =>
        refine iteT ⟨_, rfl, _, rfl, d, _, rfl, get j, ?_⟩
        rw [valV_kvI]
        rw [h1] at e
        cases h2 : tb.lookup j <;> (rw [h2] at e; exact e)
    | puts ps => 
      obtain ⟨q, ts, h1, h2, h3⟩ := hc
      refine ⟨_, rfl, c, _, rfl, h1, mmiss (by decide) (mmiss (by decide) (mhit rfl ?_))⟩
      have hln := plen h3
      refine ⟨_, rfl, q, rfl, ⟨_, h2.sq⟩, fun D hD => lc_tup (K := K) (a := q) (xs := ts) (fun i H' => H' D = some (.lst (((ps.take i).map fun p => oV (tb.lookup p.1)))) ∧ Same H H') ⟨upd_same, up1 hD⟩ (fun i H' _ z => h2.sq.same z.2) ?_ ?_⟩
      · rintro i v H' hi ⟨hD', s1⟩
        obtain ⟨p, hp, t, rfl, ht⟩ := pget h3 hi
        have hil : i < ps.length := (List.getElem?_eq_some_iff.mp hp).1
        refine ⟨rfl, _, rfl, d, rfl, .inl ⟨_, .inl (s1 _ _ hd)⟩, _, rfl, t, _, 0, _, rfl, rfl, ht.same s1, at0, _, DGet.k (k := (Sum.inl p.1 : Key)) (s1 _ _ hd), ?_⟩
        rw [gV]
        refine ⟨_, hD', (by rw [List.length_map, List.length_take]; have := ok.2.1; omega), ?_, fun b o e => by rw [upd_ne (ne_of_none e hD)]; exact s1 b o e⟩
        rw [upd_same, List.take_succ_eq_append_getElem hil, List.map_append]
        have : ps[i] = p := by rw [List.getElem?_eq_getElem hil] at hp; exact Option.some.inj hp
        rw [this]
        rfl
      · rintro H' ⟨hD', s1⟩
        rw [hln, List.take_length] at hD'
        refine ⟨D, _, rfl, .inl ⟨SqL.of hD', fun l hl => ?_⟩⟩
        exact k _ _ (s1.trans (up1 hl)) ⟨l, rfl, SqT.of (by rw [upd_same, List.map_map]; rfl)⟩
theorem scAft : FnScope NAf ["plain", "call"] (defScope sAft) := ⟨rfl, rfl, rfl, by decide +kernel, rfl, by decide +kernel, by decide +kernel⟩
theorem go_aft (F : GT K mg "after_call" sAft ["plain", "call"]) (B : Bn mg) (GAn : GO P w K mg base CX0 1 "answer_of" ["plain", "call"] (spAns K)) : GO P w K mg base CX0 2 "after_call" ["plain", "call"] (spAft K) := by
  obtain ⟨f, fd, F, hm, hb⟩ := F
  refine ⟨f, fd, ?_, hm, F.kp, hb⟩
  refine F.ok scAft (fun vs H Q E h => ?_) (fun cdv A outer s H vs Q E hr h => ?_)
  · obtain ⟨d, c, tb, cl, rfl, _⟩ := h
    rfl
  · obtain ⟨d, c, tb, cl, rfl, hd, hnd, hlen, hc, ok, k⟩ := h
    have nd := scAft.nd
    have hrA : Room 1 _ := hr
    have hu := hu_of hr
    have hsl : sizeLine = 16777216 := sizeLine_eq
    refine ⟨_, (pss_cons (ps_set (i := 2) nd rfl (Or.inl rfl) (pe_callTy call_dictD (by rfl) B.dict (by decide +kernel) (pa_cons (pv 0) pa_nil)))
  (pss_cons (ps_match (pv 1)
  (pms_case (is := [3, 4]) rfl nd (.cons rfl rfl (.cons rfl rfl .nil)) (pss_one (ps_dput hu (pv 2) (pv 3) (pv 4) rfl))
  (pms_case (is := [3]) rfl nd (.cons rfl rfl .nil) (pss_one (ps_expr (pe_dpop2 (pv 2) (pv 3) pe_non ⟨rfl, rfl, rfl, rfl⟩)))
  (pms_case (is := [3, 5, 6]) rfl nd (.cons rfl rfl (.cons rfl rfl (.cons rfl rfl .nil))) (pss_one (ps_if (pt_val (pc_ GAn hrA (pa_cons (pv 0) (pa_cons (pv 1) pa_nil))))
  (pss_one (ps_dput hu (pv 2) (pv 3) (pv 6) rfl))
  pss_nil))
  (pms_case (is := [3, 7]) rfl nd (.cons rfl rfl (.cons rfl rfl .nil)) (pss_one (ps_if (pt_val (pc_ GAn hrA (pa_cons (pv 0) (pa_cons (pv 1) pa_nil))))
  (pss_one (ps_dput hu (pv 2) (pv 7) (pe_dpop1 (pv 2) (pv 3) ⟨rfl, rfl, rfl, rfl⟩) rfl))
  pss_nil))
  (pms_case (is := [8]) rfl nd (.cons rfl rfl .nil) (pss_one (ps_expr (Rd.pe_dupd (pv 2) (pe_callTy (Rd.call_dictPT rfl) (by rfl) B.dict (by decide +kernel) (pa_cons (pv 8) pa_nil)) ⟨rfl, rfl, rfl, rfl⟩)))
  pms_nil))))))
  (pss_one (ps_ret (pv 2))))), ?_⟩
    refine ⟨_, rfl, d, _, rfl, .inl hd, fun p hp => ?_⟩
    have s1 := up1 (o := HO.dK (Rt.kvI tb)) hp
    have e1 : upd H p (HO.dK (Rt.kvI tb)) p = _ := upd_same
    have off : ∀ o, Same H (upd (upd H p (HO.dK (Rt.kvI tb))) p o) := fun o b u e => by rw [upd_ne (ne_of_none e hp), upd_ne (ne_of_none e hp)]; exact e
    generalize upd H p (HO.dK (Rt.kvI tb)) = H1 at s1 e1 off ⊢
    have hd1 := s1 _ _ hd
    have hc1 := hc.same s1
    have fin : ∀ tb', tb' = aftOf tb cl → Q (.ref p) (upd H1 p (.dK (Rt.kvI tb'))) := fun tb' e => k _ p (off _) hp (by rw [upd_same, e])
    cases cl with
    | look x =>
      refine ⟨_, rfl, c, _, rfl, hc1, mmiss (by decide) (mmiss (by decide) (mmiss (by decide) (mmiss (by decide) (mmiss (by decide) ?_))))⟩
      exact ⟨_, rfl, k _ p s1 hp e1⟩
    | put x v =>
      refine ⟨_, rfl, c, _, rfl, hc1, mhit rfl ?_⟩
      refine ⟨_, rfl, _, rfl, _, rfl, p, _, rfl, DPut.k (k := (Sum.inl x : Key)) e1 (by rw [kvI_len]; omega), ?_⟩
      rw [putK_kvI]
      exact ⟨_, rfl, fin _ rfl⟩
    | take x =>
      refine ⟨_, rfl, c, _, rfl, hc1, mmiss (by decide) (mhit rfl ?_)⟩
      refine ⟨_, rfl, p, rfl, .inl ⟨_, .inl e1⟩, _, rfl, _, (Sum.inl x : Key), e1, rfl, fun v hv => ?_, fun hv => ?_⟩
      · rw [dropK_kvI]
        exact ⟨_, rfl, fin _ rfl⟩
      · have hn : tb.lookup x = none := by
          rw [valV_kvI] at hv
          cases e : tb.lookup x with
          | none => rfl
          | some v => rw [e] at hv; cases hv
        exact ⟨_, rfl, k _ p s1 hp (by rw [e1]; show _ = some (HO.dK (Rt.kvI (wo tb x))); rw [wo_none hn])⟩
    | change x o n =>
      refine ⟨_, rfl, c, _, rfl, hc1, mmiss (by decide) (mmiss (by decide) (mhit rfl ?_))⟩
      refine ⟨_, rfl, _, rfl, d, c, tb, _, rfl, hd1, hc1, ok, fun H2 v s2 hv => ?_⟩
      have hv : v = .bl _ := hv
      subst hv
      have e2 := s2 _ _ e1
      have s12 := s1.trans s2
      refine ⟨_, rfl, ite2 (fun h => ?_) (fun h => ?_)⟩
      · have h := of_decide_eq_true h
        refine ⟨_, rfl, _, rfl, _, rfl, p, _, rfl, DPut.k (k := (Sum.inl x : Key)) e2 (by rw [kvI_len]; omega), ?_⟩
        rw [putK_kvI]
        exact ⟨_, rfl, k _ p (fun b u e => by rw [upd_ne (ne_of_none e hp)]; exact s12 b u e) hp (by rw [upd_same]; unfold aftOf; dsimp only; rw [if_pos h])⟩
      · have h : ¬ tb.lookup x = some o := fun z => h (decide_eq_true z)
        exact ⟨_, rfl, k _ p s12 hp (by rw [e2]; unfold aftOf; dsimp only; rw [if_neg h])⟩
    | move x j =>
      refine ⟨_, rfl, c, _, rfl, hc1, mmiss (by decide) (mmiss (by decide) (mmiss (by decide) (mhit rfl ?_)))⟩
      refine ⟨_, rfl, _, rfl, d, c, tb, _, rfl, hd1, hc1, ok, fun H2 v s2 hv => ?_⟩
      have hv : v = .bl _ := hv
      subst hv
      have e2 := s2 _ _ e1
      have s12 := s1.trans s2
      refine ⟨_, rfl, ite2 (fun h => ?_) (fun h => ?_)⟩
      · rw [Bool.and_eq_true] at h
        obtain ⟨v, hv⟩ := Option.isSome_iff_exists.mp h.1
        have hj : tb.lookup j = none := Option.isNone_iff_eq_none.mp h.2
        refine ⟨_, rfl, p, rfl, .inl ⟨_, .inl e2⟩, _, rfl, _, (Sum.inl x : Key), V.int v, e2, rfl, (by rw [valV_kvI, hv]; rfl), ?_⟩
        rw [dropK_kvI]
        have hl : (wo tb x).length ≤ tb.length := List.length_filter_le _ _
        refine ⟨_, rfl, _, rfl, p, _, rfl, DPut.k (k := (Sum.inl j : Key)) upd_same (by rw [kvI_len]; omega), ?_⟩
        rw [putK_kvI]
        exact ⟨_, rfl, k _ p (fun b u e => by rw [upd_ne (ne_of_none e hp), upd_ne (ne_of_none e hp)]; exact s12 b u e) hp (by rw [upd_same]; unfold aftOf; dsimp only; rw [hv, hj, putI_none (wo_look hj)])⟩
      · refine ⟨_, rfl, k _ p s12 hp ?_⟩
        rw [e2]
        unfold aftOf
        dsimp only
        split
        · rename_i v h1 h2
          rw [h1, h2] at h
          exact absurd rfl h
        · rfl
    | puts ps =>
      obtain ⟨q, ts, h1, ⟨o, ho, hod⟩, h3⟩ := hc1
      refine ⟨_, rfl, c, _, rfl, h1, mmiss (by decide) (mmiss (by decide) (mmiss (by decide) (mmiss (by decide) (mhit rfl ?_))))⟩
      obtain ⟨as, rfl, h4⟩ := prs_kv h3
      refine ⟨_, rfl, p, rfl, .inl ⟨_, .inl e1⟩, _, rfl, q, o, as, _, rfl, ho, hod, h4, fun p2 hp2 => ?_⟩
      have em : mergeK [] (Rt.kvI ps) = Rt.kvI ps := by
        have := merge_kvI ps []
        rw [putAll_self ps [] ok.2.2] at this
        exact this
      rw [em]
      have ne : p ≠ p2 := fun z => by rw [z, hp2] at e1; cases e1
      have hl2 := ok.2.1
      refine ⟨p2, _, _, rfl, ne, (by rw [upd_ne ne]; exact e1), upd_same, (by rw [kvI_len, kvI_len]; omega), ?_⟩
      rw [merge_kvI]
      exact ⟨_, rfl, k _ p (fun b u e => by rw [upd_ne (ne_of_none e hp)]; exact (s1.trans (up1 hp2)) b u e) hp upd_same⟩
end
end Dk

set_option maxHeartbeats 8000000
/-! the law's calls -/
namespace Dk
open PySem PySem.Spec PyProof.Rows L2 StX
abbrev sLCell : Stmt := top 4
abbrev sLDig : Stmt := top 5
abbrev sLMany : Stmt := top 6
abbrev sLCall : Stmt := top 7
abbrev NDi : List Str := ["cell", "bases", "digits", "rest", "base", "mixed"]
abbrev NCa : List Str := ["cell", "digits", "kind", "key", "pairs"]
theorem _root_.L2.SqL.same {K : PySem.W.Frag} {H H' : Hp} {a : Addr} {xs : List V} (h : SqL K H a xs) (s : Same H H') : SqL K H' a xs :=
  h.elim (fun h => .inl (h.elim (fun h => .inl (s _ _ h)) fun ⟨o, h⟩ => .inr ⟨o, s _ _ h⟩)) fun h => .inr h
def spCell (K : PySem.W.Frag) : Sp := fun vs H Q _ => ∃ (a : Addr) (ns : List Int) (k : Nat), vs = [.ref a, .int (k : Int)] ∧ SqL K H a (ns.map V.int) ∧ ns.length ≤ 63 ∧ ∀ z : Int, Q (.int z) H
def spMany (K : PySem.W.Frag) : Sp := fun vs H Q _ => ∃ (a : Addr) (ns : List Int) (x y : Int), vs = [.ref a, .int x, .int y] ∧ SqL K H a (ns.map V.int) ∧ ns.length ≤ 63 ∧ (0 ≤ x ∧ x ≤ 20) ∧ (0 ≤ y ∧ y ≤ 20) ∧ ∀ z : Int, 0 ≤ z → z ≤ 20 → Q (.int z) H
structure DigsOk (ds bs : List Int) : Prop where
  l : ds.length = bs.length
  b : ∀ (i : Nat) (d b : Int), ds[i]? = some d → bs[i]? = some b → 0 ≤ d ∧ d < b
def spDigs (K : PySem.W.Frag) : Sp := fun vs H Q _ => ∃ (c : Int) (a : Addr) (bs : List Int), vs = [.int c, .ref a] ∧ SqL K H a (bs.map V.int) ∧ bs.length ≤ 63 ∧ (∀ b ∈ bs, 0 < b ∧ b < 1000) ∧
  ∀ (H' : Hp) (p : Addr) (ds : List Int), Same H H' → H p = none → H' p = some (.lst (ds.map V.int)) → DigsOk ds bs → Q (.ref p) H'
def spCall (K : PySem.W.Frag) : Sp := fun vs H Q _ => ∃ c : Int, vs = [.int c] ∧ ∀ (H' : Hp) (p : Addr) (cl : Cl), Same H H' → CallAt K H' p cl → cl.ok → Q (.ref p) H'
section
variable {P : Program} {w : World} {K : PySem.W.Frag} {mg : Str → Option Value} {base : Heap}
theorem scCell : FnScope ["script", "k"] ["script", "k"] (defScope sLCell) := ⟨rfl, rfl, rfl, by decide +kernel, rfl, by decide +kernel, by decide +kernel⟩
theorem go_cell (F : GT K mg "_law_cell" sLCell ["script", "k"]) (B : Bn mg) : GO P w K mg base CX0 1 "_law_cell" ["script", "k"] (spCell K) := by
  obtain ⟨f, fd, F, hm, hb⟩ := F
  refine ⟨f, fd, ?_, hm, F.kp, hb⟩
  refine F.ok scCell (fun vs H Q E h => ?_) (fun cdv A outer s H vs Q E hr h => ?_)
  · obtain ⟨a, ns, k, rfl, _⟩ := h
    rfl
  · obtain ⟨a, ns, i, rfl, ha, hl, k⟩ := h
    have nd := scCell.nd
    refine ⟨_, (pss_cons (ps_if (pt_cmpR op_lt (pv 1) (pe_callB call_len_seq (by rfl) B.len PySem.boot_len (pa_cons (pv 0) pa_nil)) (nomark _))
  (pss_one (ps_ret (pe_callTy call_int1 (by rfl) B.int (by decide +kernel) (pa_cons (pe_ix ix_list (pv 0) (pv 1) (fun _ _ => rfl)) pa_nil))))
  pss_nil)
  (pss_one (ps_ret pe_int))), ?_⟩
    refine ⟨_, rfl, _, rfl, a, _, rfl, .inl ha, _, _, rfl, rfl, _, rfl, ite2 (fun h => ?_) (fun h => ?_)⟩
    · have h := of_decide_eq_true h
      rw [List.length_map] at h
      have hi : i < ns.length := by omega
      refine ⟨_, rfl, _, rfl, a, _, _, _, rfl, rfl, ha, atI_nat (j := i) (by rw [List.getElem?_map, List.getElem?_eq_getElem hi]; rfl), .inl ⟨_, rfl, k _⟩⟩
    · exact k _
theorem scMany : FnScope ["script", "few", "many"] ["script", "few", "many"] (defScope sLMany) := ⟨rfl, rfl, rfl, by decide +kernel, rfl, by decide +kernel, by decide +kernel⟩
theorem go_many (F : GT K mg "_law_many" sLMany ["script", "few", "many"]) (B : Bn mg) : GO P w K mg base CX0 1 "_law_many" ["script", "few", "many"] (spMany K) := by
  obtain ⟨f, fd, F, hm, hb⟩ := F
  refine ⟨f, fd, ?_, hm, F.kp, hb⟩
  refine F.ok scMany (fun vs H Q E h => ?_) (fun cdv A outer s H vs Q E hr h => ?_)
  · obtain ⟨a, ns, x, y, rfl, _⟩ := h
    rfl
  · obtain ⟨a, ns, x, y, rfl, ha, hl, hx, hy, k⟩ := h
    have k1 := k x hx.1 hx.2
    have k2 := k y hy.1 hy.2
    have nd := scMany.nd
    refine ⟨_, (pss_cons (ps_if (PW.pt (pw_and (pt_cmpR op_gt (pe_callB call_len_seq (by rfl) B.len PySem.boot_len (pa_cons (pv 0) pa_nil)) pe_int (nomark _)) (pw_and1 (pt_cmpR op_eq (pe_op op_mod (pe_op op_fdiv (pe_callTy call_int1 (by rfl) B.int (by decide +kernel) (pa_cons (pe_ix ix_list (pv 0) pe_int (fun _ _ => rfl)) pa_nil)) pe_int) pe_int) pe_int (nomark _)))))
  (pss_one (ps_ret (pv 2)))
  pss_nil)
  (pss_one (ps_ret (pv 1)))), ?_⟩
    refine ⟨_, rfl, a, _, rfl, .inl ha, _, _, rfl, rfl, _, rfl, ite2 (fun h => ?_) (fun h => ?_)⟩
    · have h := of_decide_eq_true h
      rw [List.length_map] at h
      have hi : 0 < ns.length := by omega
      refine ⟨_, rfl, a, _, _, _, rfl, rfl, ha, atI_nat (j := 0) (by rw [List.getElem?_map, List.getElem?_eq_getElem hi]; rfl), .inl ⟨_, rfl, _, _, rfl, rfl, ⟨by decide, by decide⟩, _, _, rfl, rfl, (by show (0 : Int) < 5; decide), rfl, _, rfl, ite2 (fun h => ?_) (fun h => ?_)⟩⟩
      · exact ⟨_, rfl, k2⟩
      · exact ⟨_, rfl, k1⟩
    · exact ⟨_, rfl, k1⟩
theorem scDigs : FnScope NDi ["cell", "bases"] (defScope sLDig) := ⟨rfl, rfl, rfl, by decide +kernel, rfl, by decide +kernel, by decide +kernel⟩
theorem go_digs (F : GT K mg "_law_digits" sLDig ["cell", "bases"]) (B : Bn mg) : GO P w K mg base CX0 1 "_law_digits" ["cell", "bases"] (spDigs K) := by
  obtain ⟨f, fd, F, hm, hb⟩ := F
  refine ⟨f, fd, ?_, hm, F.kp, hb⟩
  refine F.ok scDigs (fun vs H Q E h => ?_) (fun cdv A outer s H vs Q E hr h => ?_)
  · obtain ⟨c, a, bs, rfl, _⟩ := h
    rfl
  · obtain ⟨c, a, bs, rfl, ha, hl, hbs, k⟩ := h
    have nd := scDigs.nd
    have hsl : sizeLine = 16777216 := sizeLine_eq
    refine ⟨_, (pss_cons (ps_set (i := 2) nd rfl (Or.inl rfl) (pe_lst pa_nil))
  (pss_cons (ps_set (i := 3) nd rfl (Or.inl rfl) (pe_callTy call_int1 (by rfl) B.int (by decide +kernel) (pa_cons (pv 0) pa_nil)))
  (pss_cons (ps_for PassesOwn.never rfl (pi_list (pv 1)) (pg_name (i := 4) nd rfl (Or.inl rfl))
  (pss_one (ps_if (pt_cmpR op_ge (pv 0) (pe_op op_pow pe_int pe_int) (nomark _))
  (pss_cons (ps_expr (pe_bm PySem.F.plainAttrs_list PySem.F.slot_list_append PySem.F.type_list_append mt_append (pv 2) (pa_cons (pe_op op_modN (pe_callTy call_int1 (by rfl) B.int (by decide +kernel) (pa_cons (pv 3) pa_nil)) (pv 4)) pa_nil)))
  (pss_one (ps_set (i := 3) nd rfl (Or.inl rfl) (pe_op op_fdivN (pv 3) (pv 4)))))
  (pss_cons (ps_set (i := 3) nd rfl (Or.inl rfl) (pe_op op_mod (pe_op op_add (pe_op op_add (pe_op op_mul (pe_callTy call_int1 (by rfl) B.int (by decide +kernel) (pa_cons (pv 3) pa_nil)) pe_int) (pe_op op_mul pe_int (pe_callB call_len_seq (by rfl) B.len PySem.boot_len (pa_cons (pv 2) pa_nil)))) pe_int) pe_int))
  (pss_cons (ps_set (i := 5) nd rfl (Or.inl rfl) (pe_op op_mod (pe_op op_mul (pe_callTy call_int1 (by rfl) B.int (by decide +kernel) (pa_cons (pv 3) pa_nil)) (pe_callTy call_int1 (by rfl) B.int (by decide +kernel) (pa_cons (pv 3) pa_nil))) pe_int))
  (pss_one (ps_expr (pe_bm PySem.F.plainAttrs_list PySem.F.slot_list_append PySem.F.type_list_append mt_append (pv 2) (pa_cons (pe_op op_modN (pe_op op_fdiv (pe_callTy call_int1 (by rfl) B.int (by decide +kernel) (pa_cons (pv 5) pa_nil)) pe_int) (pv 4)) pa_nil)))))))))
  (pss_one (ps_ret (pv 2)))))), ?_⟩
    refine ⟨(by show 0 ≤ sizeLine; exact Nat.zero_le _), fun p hp => ?_⟩
    have s1 := up1 (o := HO.lst []) hp
    refine ⟨_, rfl, .inl ⟨_, rfl, ?_⟩⟩
    have step : ∀ (H' : Hp) (ds : List Int) (d b : Int), Same H H' → H' p = some (.lst (ds.map V.int)) → Same H (upd H' p (.lst (ds.map V.int ++ [V.int d]))) ∧ upd H' p (.lst (ds.map V.int ++ [V.int d])) p = some (.lst ((ds ++ [d]).map V.int)) := fun H' ds d b s h => by
      refine ⟨fun b o e => by rw [upd_ne (ne_of_none e hp)]; exact s b o e, ?_⟩
      rw [upd_same, List.map_append]
      rfl
    refine ⟨_, rfl, a, rfl, ⟨_, L2.SqL.same ha s1⟩, for_list (xs := bs.map V.int) (fun i σ H' => ∃ (ds : List Int) (rest : Int) (x4 x5 : Option V), σ = [some (.int c), some (.ref a), some (.ref p), some (.int rest), x4, x5] ∧ H' p = some (.lst (ds.map V.int)) ∧ DigsOk ds (bs.take i) ∧ Same H H') ⟨[], c, none, none, rfl, upd_same, ⟨rfl, fun i d b h => by cases h⟩, s1⟩ (fun i σ H' _ z => by obtain ⟨_, _, _, _, _, _, _, s⟩ := z; exact L2.SqL.same ha s) ?_ ?_⟩
    · rintro i v σ H' hi ⟨ds, rest, x4, x5, rfl, hp', ok, s⟩
      have hil : i < bs.length := by
        have := (List.getElem?_eq_some_iff.mp hi).1
        rw [List.length_map] at this
        exact this
      have ev : v = .int bs[i] := by
        rw [List.getElem?_map, List.getElem?_eq_getElem hil] at hi
        exact (Option.some.inj hi).symm
      subst ev
      obtain ⟨b0, b1⟩ := hbs bs[i] (List.getElem_mem hil)
      have hdl : ds.length ≤ 63 := by
        have := ok.l
        rw [List.length_take] at this
        omega
      have okn : ∀ z : Int, DigsOk (ds ++ [z.fmod bs[i]]) (bs.take (i + 1)) := fun z => by
        have hl2 : ds.length = i := by
          have := ok.l
          rw [List.length_take] at this
          omega
        refine ⟨?_, fun j d b hd hb => ?_⟩
        · rw [List.length_append, List.length_take, List.length_singleton]
          omega
        · rw [List.take_succ_eq_append_getElem hil] at hb
          by_cases hj : j < i
          · rw [List.getElem?_append_left (by omega)] at hd
            rw [List.getElem?_append_left (by rw [List.length_take]; omega)] at hb
            exact ok.b j d b hd hb
          · have hj : j = i := by
              have := (List.getElem?_eq_some_iff.mp hd).1
              rw [List.length_append, List.length_singleton] at this
              omega
            subst hj
            rw [List.getElem?_append_right (by omega), hl2, Nat.sub_self] at hd
            rw [List.getElem?_append_right (by rw [List.length_take]; omega), List.length_take, Nat.min_eq_left (by omega), Nat.sub_self] at hb
            have hd := Option.some.inj hd
            have hb := Option.some.inj hb
            subst hd
            subst hb
            exact ⟨Int.fmod_nonneg_of_pos _ b0, Int.fmod_lt_of_pos _ b0⟩
      generalize bs[i] = b at *
      refine ⟨_, rfl, _, _, rfl, rfl, ⟨by decide, by decide, by decide⟩, _, _, rfl, rfl, _, rfl, ite2 (fun h => ?_) (fun h => ?_)⟩
      · obtain ⟨s2, e2⟩ := step H' ds (rest.fmod b) b s hp'
        refine ⟨_, rfl, .inl ⟨rfl, _, SqL.of hp'⟩, _, rfl, .inl ⟨_, rfl, _, rfl, _, _, rfl, rfl, (by omega), p, _, _, rfl, rfl, hp', (by rw [List.length_map]; omega), ?_⟩⟩
        exact ⟨_, rfl, _, rfl, _, _, rfl, rfl, ⟨by omega, by omega⟩, _, _, _, _, rfl, e2, okn _, s2⟩
      · refine ⟨_, rfl, .inl ⟨_, rfl, _, _, rfl, rfl, .inr ⟨by decide, by decide⟩, _, rfl, p, _, rfl, .inl (SqL.of hp'), _, _, rfl, rfl, .inl ⟨by decide, by decide⟩, _, _, rfl, rfl, _, _, rfl, rfl, _, _, rfl, rfl, (by show (0 : Int) < 2147483647; decide), ?_⟩⟩
        generalize hr : (rest * 48271 + 1009 * ((ds.map V.int).length : Int) + 12345) % 2147483647 = r
        have r0 : 0 ≤ r ∧ r < 2147483647 := by omega
        refine ⟨_, rfl, .inl ⟨_, rfl, _, rfl, .inl ⟨_, rfl, _, _, rfl, rfl, .inl ⟨by omega, by omega⟩, _, _, rfl, rfl, (by show (0 : Int) < 2147483629; decide), ?_⟩⟩⟩
        refine ⟨_, rfl, .inl ⟨rfl, _, SqL.of hp'⟩, _, rfl, .inl ⟨_, rfl, _, _, rfl, rfl, ⟨by decide, by decide⟩, _, rfl, _, _, rfl, rfl, (by omega), p, _, _, rfl, rfl, hp', (by rw [List.length_map]; omega), ?_⟩⟩
        exact ⟨_, _, _, _, rfl, (step H' ds _ b s hp').2, okn _, (step H' ds _ b s hp').1⟩
    · rintro σ H' ⟨ds, rest, x4, x5, rfl, hp', ok, s⟩
      rw [List.length_map, List.take_length] at ok
      exact ⟨_, rfl, k H' p ds s hp hp' ok⟩
end
end Dk

set_option maxHeartbeats 8000000
/-! the law's calls and table -/
namespace Dk
open PySem PySem.Spec PyProof.Rows L2 StX
abbrev sLAns : Stmt := top 8
abbrev sLAft : Stmt := top 9
abbrev NLf : List Str := ["table", "call", "rows", "key", "value"]
abbrev kinds : List V := [.str "look", .str "put", .str "put", .str "puts", .str "move", .str "change", .str "take", .str "puts"]
theorem kinds_at {d : Int} (h0 : 0 ≤ d) (h8 : d < 8) : ∃ z : Str, atI kinds d = some (.str z) ∧ (z = "look" ∨ z = "put" ∨ z = "take" ∨ z = "change" ∨ z = "move" ∨ z = "puts") := by
  have : d = 0 ∨ d = 1 ∨ d = 2 ∨ d = 3 ∨ d = 4 ∨ d = 5 ∨ d = 6 ∨ d = 7 := by omega
  rcases this with rfl | rfl | rfl | rfl | rfl | rfl | rfl | rfl
  · exact ⟨_, rfl, by decide⟩
  · exact ⟨_, rfl, by decide⟩
  · exact ⟨_, rfl, by decide⟩
  · exact ⟨_, rfl, by decide⟩
  · exact ⟨_, rfl, by decide⟩
  · exact ⟨_, rfl, by decide⟩
  · exact ⟨_, rfl, by decide⟩
  · exact ⟨_, rfl, by decide⟩
theorem cutTo (xs : List V) (n : Nat) (h : n ≤ xs.length) : cutV xs none (some (n : Int)) = xs.take n := by
  unfold cutV
  rw [HT.sIx_none, HT.sIx_nat]
  rw [Nat.min_eq_left h]
  rfl
section
variable {P : Program} {w : World} {K : PySem.W.Frag} {mg : Str → Option Value} {base : Heap}
theorem scCall : FnScope NCa ["cell"] (defScope sLCall) := ⟨rfl, rfl, rfl, by decide +kernel, rfl, by decide +kernel, by decide +kernel⟩
theorem go_call (F : GT K mg "_law_call" sLCall ["cell"]) (B : Bn mg) (GDi : GO P w K mg base CX0 1 "_law_digits" ["cell", "bases"] (spDigs K)) : GO P w K mg base CX0 2 "_law_call" ["cell"] (spCall K) := by
  obtain ⟨f, fd, F, hm, hb⟩ := F
  refine ⟨f, fd, ?_, hm, F.kp, hb⟩
  refine F.ok scCall (fun vs H Q E h => ?_) (fun cdv A outer s H vs Q E hr h => ?_)
  · obtain ⟨c, rfl, _⟩ := h
    rfl
  · obtain ⟨c, rfl, k⟩ := h
    have nd := scCall.nd
    have hr1 : Room 1 _ := hr
    have hsl : sizeLine = 16777216 := sizeLine_eq
    refine ⟨_, (pss_cons (ps_set (i := 1) nd rfl (Or.inl rfl) (pc_ GDi hr1 (pa_cons (pv 0) (pa_cons (pe_lst (pa_cons pe_int (pa_cons pe_int (pa_cons pe_int (pa_cons pe_int (pa_cons pe_int (pa_cons pe_int pa_nil))))))) pa_nil))))
  (pss_cons (ps_set (i := 2) nd rfl (Or.inl rfl) (pe_ix ix_list (pe_lst (pa_cons pe_str (pa_cons pe_str (pa_cons pe_str (pa_cons pe_str (pa_cons pe_str (pa_cons pe_str (pa_cons pe_str (pa_cons pe_str pa_nil))))))))) (pe_ix ix_list (pv 1) pe_int (fun _ _ => rfl)) (fun _ _ => rfl)))
  (pss_cons (ps_set (i := 3) nd rfl (Or.inl rfl) (pe_ix ix_list (pv 1) pe_int (fun _ _ => rfl)))
  (pss_cons (ps_if (PW.pt (pw_or (pt_cmpR op_eq (pv 2) pe_str (nomark _)) (pw_or1 (pt_cmpR op_eq (pv 2) pe_str (nomark _)))))
  (pss_one (ps_ret (pe_tup (pa_cons (pv 2) (pa_cons (pv 3) pa_nil)))))
  pss_nil)
  (pss_cons (ps_if (pt_cmpR op_eq (pv 2) pe_str (nomark _))
  (pss_one (ps_ret (pe_tup (pa_cons (pv 2) (pa_cons (pv 3) (pa_cons (pe_ix ix_list (pv 1) pe_int (fun _ _ => rfl)) pa_nil))))))
  pss_nil)
  (pss_cons (ps_if (pt_cmpR op_eq (pv 2) pe_str (nomark _))
  (pss_one (ps_ret (pe_tup (pa_cons (pv 2) (pa_cons (pv 3) (pa_cons (pe_ix ix_list (pv 1) pe_int (fun _ _ => rfl)) (pa_cons (pe_ix ix_list (pv 1) pe_int (fun _ _ => rfl)) pa_nil)))))))
  pss_nil)
  (pss_cons (ps_if (pt_cmpR op_eq (pv 2) pe_str (nomark _))
  (pss_one (ps_ret (pe_tup (pa_cons (pv 2) (pa_cons (pv 3) (pa_cons (pe_op op_mod (pe_op op_add (pe_op op_add (pv 3) pe_int) (pe_op op_mod (pe_ix ix_list (pv 1) pe_int (fun _ _ => rfl)) pe_int)) pe_int) pa_nil))))))
  pss_nil)
  (pss_cons (ps_set (i := 4) nd rfl (Or.inl rfl) (pe_lst (pa_cons (pe_tup (pa_cons (pv 3) (pa_cons (pe_ix ix_list (pv 1) pe_int (fun _ _ => rfl)) pa_nil))) (pa_cons (pe_tup (pa_cons (pe_op op_mod (pe_op op_add (pe_op op_add (pv 3) pe_int) (pe_op op_mod (pe_ix ix_list (pv 1) pe_int (fun _ _ => rfl)) pe_int)) pe_int) (pa_cons (pe_ix ix_list (pv 1) pe_int (fun _ _ => rfl)) pa_nil))) (pa_cons (pe_tup (pa_cons (pe_op op_mod (pe_op op_add (pv 3) pe_int) pe_int) (pa_cons pe_int pa_nil))) pa_nil)))))
  (pss_one (ps_ret (pe_tup (pa_cons (pv 2) (pa_cons (pe_callTy Rd.call_tuple_ofF (by rfl) B.tuple (by decide +kernel) (pa_cons (pe_slice sl_list (pv 4) po_none (po_some (pe_op op_add pe_int (pe_ix ix_list (pv 1) pe_int (fun _ _ => rfl))))) pa_nil)) pa_nil))))))))))))), ?_⟩
    refine ⟨_, rfl, (by show 6 ≤ sizeLine; decide), fun b hb => ?_⟩
    have s1 := up1 (o := HO.lst [V.int 8, V.int 8, V.int 5, V.int 8, V.int 5, V.int 3]) hb
    have e1 : upd H b (HO.lst [V.int 8, V.int 8, V.int 5, V.int 8, V.int 5, V.int 3]) b = _ := upd_same
    generalize upd H b (HO.lst [V.int 8, V.int 8, V.int 5, V.int 8, V.int 5, V.int 3]) = H1 at s1 e1 ⊢
    refine ⟨c, b, [8, 8, 5, 8, 5, 3], rfl, SqL.of e1, by decide, by decide, fun H2 p ds s2 hp hd ok => ?_⟩
    have h12 := s1.trans s2
    obtain ⟨d0, d1, d2, d3, d4, d5, rfl⟩ : ∃ d0 d1 d2 d3 d4 d5, ds = [d0, d1, d2, d3, d4, d5] := by
      have := ok.l
      match ds, this with
      | [d0, d1, d2, d3, d4, d5], _ => exact ⟨_, _, _, _, _, _, rfl⟩
    obtain ⟨a0, b0⟩ := ok.b 0 _ _ rfl rfl
    obtain ⟨a1, b1⟩ := ok.b 1 _ _ rfl rfl
    obtain ⟨a3, b3⟩ := ok.b 3 _ _ rfl rfl
    obtain ⟨a5, b5⟩ := ok.b 5 _ _ rfl rfl
    obtain ⟨z, hz, hk⟩ := kinds_at a0 b0
    have hsd : ∀ {H3 : Hp}, Same H2 H3 → SqL K H3 p [.int d0, .int d1, .int d2, .int d3, .int d4, .int d5] := fun s => SqL.of (s _ _ hd)
    refine ⟨(by show 8 ≤ sizeLine; decide), fun l hl => ?_⟩
    have s3 := up1 (o := HO.lst kinds) hl
    refine ⟨_, rfl, p, _, 0, _, rfl, rfl, hsd s3, rfl, l, _, _, _, rfl, rfl, SqL.of upd_same, hz, ?_⟩
    have h13 : Same H (upd H2 l (HO.lst kinds)) := h12.trans s3
    have hd3 := s3 _ _ hd

    generalize upd H2 l (HO.lst kinds) = H3 at s3 h13 hd3 ⊢
    have hs : SqL K H3 p [.int d0, .int d1, .int d2, .int d3, .int d4, .int d5] := SqL.of hd3
    refine ⟨_, rfl, p, _, 1, _, rfl, rfl, hs, rfl, ?_⟩
    rcases hk with rfl | rfl | rfl | rfl | rfl | rfl
    · refine ⟨_, rfl, rfl, _, rfl, iteD rfl ?_⟩
      refine ⟨_, rfl, _, rfl, (by show 2 ≤ sizeLine; decide), fun t ht => ?_⟩
      exact k _ t (.look d1) (h13.trans (up1 ht)) (SqT.of upd_same) trivial
    · refine ⟨_, rfl, rfl, _, rfl, iteND (by decide) ⟨_, rfl, rfl, _, rfl, iteND (by decide) ?_⟩⟩
      refine ⟨_, rfl, rfl, _, rfl, iteD rfl ?_⟩
      refine ⟨_, rfl, _, rfl, _, rfl, p, _, 2, _, rfl, rfl, hs, rfl, (by show 3 ≤ sizeLine; decide), fun t ht => ?_⟩
      exact k _ t (.put d1 d2) (h13.trans (up1 ht)) (SqT.of upd_same) trivial
    · refine ⟨_, rfl, rfl, _, rfl, iteND (by decide) ⟨_, rfl, rfl, _, rfl, iteD rfl ?_⟩⟩
      refine ⟨_, rfl, _, rfl, (by show 2 ≤ sizeLine; decide), fun t ht => ?_⟩
      exact k _ t (.take d1) (h13.trans (up1 ht)) (SqT.of upd_same) trivial
    · refine ⟨_, rfl, rfl, _, rfl, iteND (by decide) ⟨_, rfl, rfl, _, rfl, iteND (by decide) ?_⟩⟩
      refine ⟨_, rfl, rfl, _, rfl, iteND (by decide) ?_⟩
      refine ⟨_, rfl, rfl, _, rfl, iteD rfl ?_⟩
      refine ⟨_, rfl, _, rfl, _, rfl, p, _, 2, _, rfl, rfl, hs, rfl, _, rfl, p, _, 4, _, rfl, rfl, hs, rfl, (by show 4 ≤ sizeLine; decide), fun t ht => ?_⟩
      exact k _ t (.change d1 d2 d4) (h13.trans (up1 ht)) (SqT.of upd_same) trivial
    · refine ⟨_, rfl, rfl, _, rfl, iteND (by decide) ⟨_, rfl, rfl, _, rfl, iteND (by decide) ?_⟩⟩
      refine ⟨_, rfl, rfl, _, rfl, iteND (by decide) ?_⟩
      refine ⟨_, rfl, rfl, _, rfl, iteND (by decide) ?_⟩
      refine ⟨_, rfl, rfl, _, rfl, iteD rfl ?_⟩
      refine ⟨_, rfl, _, rfl, _, rfl, _, _, rfl, rfl, _, rfl, p, _, 3, _, rfl, rfl, hs, rfl, _, _, rfl, rfl, (by show (0 : Int) < 7; decide), _, _, rfl, rfl, _, _, rfl, rfl, (by show (0 : Int) < 8; decide), (by show 3 ≤ sizeLine; decide), fun t ht => ?_⟩
      exact k _ t (.move d1 ((d1 + 1 + d3 % 7) % 8)) (h13.trans (up1 ht)) (SqT.of upd_same) (by show d1 ≠ _; omega)
    · refine ⟨_, rfl, rfl, _, rfl, iteND (by decide) ⟨_, rfl, rfl, _, rfl, iteND (by decide) ?_⟩⟩
      refine ⟨_, rfl, rfl, _, rfl, iteND (by decide) ?_⟩
      refine ⟨_, rfl, rfl, _, rfl, iteND (by decide) ?_⟩
      refine ⟨_, rfl, rfl, _, rfl, iteND (by decide) ?_⟩
      refine ⟨_, rfl, _, rfl, p, _, 2, _, rfl, rfl, hs, rfl, (by show 2 ≤ sizeLine; decide), fun t1 ht1 => ?_⟩
      have x1 := up1 (o := HO.tup [V.int d1, V.int d2]) ht1
      have f1 : upd H3 t1 (HO.tup [V.int d1, V.int d2]) t1 = _ := upd_same
      generalize upd H3 t1 (HO.tup [V.int d1, V.int d2]) = H4 at x1 f1 ⊢
      have hs4 := L2.SqL.same hs x1
      refine ⟨_, rfl, _, _, rfl, rfl, _, rfl, p, _, 3, _, rfl, rfl, hs4, rfl, _, _, rfl, rfl, (by show (0 : Int) < 3; decide), _, _, rfl, rfl, _, _, rfl, rfl, (by show (0 : Int) < 8; decide), _, rfl, p, _, 4, _, rfl, rfl, hs4, rfl, (by show 2 ≤ sizeLine; decide), fun t2 ht2 => ?_⟩
      have x2 := up1 (o := HO.tup [V.int ((d1 + 1 + d3 % 3) % 8), V.int d4]) ht2
      have f2 : upd H4 t2 (HO.tup [V.int ((d1 + 1 + d3 % 3) % 8), V.int d4]) t2 = _ := upd_same
      generalize upd H4 t2 (HO.tup [V.int ((d1 + 1 + d3 % 3) % 8), V.int d4]) = H5 at x2 f2 ⊢
      refine ⟨_, rfl, _, _, rfl, rfl, _, _, rfl, rfl, (by show (0 : Int) < 8; decide), (by show 2 ≤ sizeLine; decide), fun t3 ht3 => ?_⟩
      have x3 := up1 (o := HO.tup [V.int ((d1 + 5) % 8), V.int 9]) ht3
      have f3 : upd H5 t3 (HO.tup [V.int ((d1 + 5) % 8), V.int 9]) t3 = _ := upd_same
      generalize upd H5 t3 (HO.tup [V.int ((d1 + 5) % 8), V.int 9]) = H6 at x3 f3 ⊢
      refine ⟨(by show 3 ≤ sizeLine; decide), fun l2 hl2 => ?_⟩
      have x4 := up1 (o := HO.lst [V.ref t1, V.ref t2, V.ref t3]) hl2
      have f4 : upd H6 l2 (HO.lst [V.ref t1, V.ref t2, V.ref t3]) l2 = _ := upd_same
      generalize upd H6 l2 (HO.lst [V.ref t1, V.ref t2, V.ref t3]) = H7 at x4 f4 ⊢
      have h17 := h13.trans (x1.trans (x2.trans (x3.trans x4)))
      have hs7 := L2.SqL.same hs4 (x2.trans (x3.trans x4))
      have g1 : PairI K H7 (.ref t1) (d1, d2) := ⟨t1, rfl, SqT.of ((x2.trans (x3.trans x4)) _ _ f1)⟩
      have g2 : PairI K H7 (.ref t2) ((d1 + 1 + d3 % 3) % 8, d4) := ⟨t2, rfl, SqT.of ((x3.trans x4) _ _ f2)⟩
      have g3 : PairI K H7 (.ref t3) ((d1 + 5) % 8, 9) := ⟨t3, rfl, SqT.of (x4 _ _ f3)⟩
      obtain ⟨m, hm, rfl⟩ : ∃ m : Nat, m < 3 ∧ d5 = (m : Int) := ⟨d5.toNat, by omega, by omega⟩
      refine ⟨_, rfl, _, rfl, _, rfl, p, _, 5, _, rfl, rfl, hs7, rfl, _, _, rfl, rfl, _, rfl, l2, _, rfl, SqL.of f4, fun u hu => ?_⟩
      rw [show (1 : Int) + (m : Int) = ((m + 1 : Nat) : Int) by omega, cutTo _ (m + 1) (by show m + 1 ≤ 3; omega)]
      have x5 := up1 (o := HO.lst ([V.ref t1, V.ref t2, V.ref t3].take (m + 1))) hu
      have f5 : upd H7 u (HO.lst ([V.ref t1, V.ref t2, V.ref t3].take (m + 1))) u = _ := upd_same
      generalize upd H7 u (HO.lst ([V.ref t1, V.ref t2, V.ref t3].take (m + 1))) = H8 at x5 f5 ⊢
      refine ⟨u, _, rfl, SqL.of f5, fun q o hq ho => ⟨(by show 2 ≤ sizeLine; decide), fun t ht => ?_⟩⟩
      have x6 := up1 (o := HO.frz o (.tup ([V.ref t1, V.ref t2, V.ref t3].take (m + 1)))) hq
      have f6 : upd H8 q (HO.frz o (.tup ([V.ref t1, V.ref t2, V.ref t3].take (m + 1)))) q = _ := upd_same
      generalize upd H8 q (HO.frz o (.tup ([V.ref t1, V.ref t2, V.ref t3].take (m + 1)))) = H9 at x6 f6 ht ⊢
      have x7 := up1 (o := HO.tup [V.str "puts", V.ref q]) ht
      have xs := x5.trans (x6.trans x7)
      refine k _ t (.puts ([(d1, d2), ((d1 + 1 + d3 % 3) % 8, d4), ((d1 + 5) % 8, 9)].take (m + 1))) (h17.trans xs) ⟨q, _, SqT.of upd_same, ⟨o, x7 _ _ f6, ho⟩, ?_⟩ ?_
      · have all : Paired (PairI K (upd H9 t (HO.tup [V.str "puts", V.ref q]))) [V.ref t1, V.ref t2, V.ref t3] [(d1, d2), ((d1 + 1 + d3 % 3) % 8, d4), ((d1 + 5) % 8, 9)] := .cons (g1.same xs) (.cons (g2.same xs) (.cons (g3.same xs) .nil))
        have : m = 0 ∨ m = 1 ∨ m = 2 := by omega
        rcases this with rfl | rfl | rfl
        · exact .cons (g1.same xs) .nil
        · exact .cons (g1.same xs) (.cons (g2.same xs) .nil)
        · exact all
      · refine ⟨by rw [List.length_take]; show 0 < min (m + 1) 3; omega, by rw [List.length_take]; show min (m + 1) 3 ≤ 3; omega, ?_⟩
        have : (keys [(d1, d2), ((d1 + 1 + d3 % 3) % 8, d4), ((d1 + 5) % 8, 9)]).Nodup := by
          unfold keys
          simp only [List.map_cons, List.map_nil, List.nodup_cons, List.mem_cons, List.not_mem_nil, or_false, not_or, not_false_iff, List.nodup_nil, and_true]
          omega
        unfold keys at this ⊢
        rw [List.map_take]
        exact this.sublist (List.take_sublist _ _)
end
end Dk

set_option maxHeartbeats 8000000
/-! the law's own answer and table -/
namespace Dk
open PySem PySem.Spec PyProof.Rows L2 StX
theorem look_app {j v x u : Int} : ∀ {t : Tb}, t.lookup x = some u → (t ++ [(j, v)]).lookup x = some u
  | (k', v') :: t, h => by
    rw [List.lookup_cons] at h
    rw [List.cons_append, List.lookup_cons]
    by_cases c : x = k'
    · subst c
      rw [beq_self_eq_true] at h ⊢
      exact h
    · rw [beq_false_of_ne c] at h ⊢
      exact look_app (t := t) h
section
variable {P : Program} {w : World} {K : PySem.W.Frag} {mg : Str → Option Value} {base : Heap}
theorem scLAns : FnScope ["table", "call", "pair"] ["table", "call"] (defScope sLAns) := ⟨rfl, rfl, rfl, by decide +kernel, rfl, by decide +kernel, by decide +kernel⟩
theorem go_lans (F : GT K mg "_law_answer" sLAns ["table", "call"]) (B : Bn mg) : GO P w K mg base CX0 1 "_law_answer" ["table", "call"] (spAns K) := by
  obtain ⟨f, fd, F, hm, hb⟩ := F
  refine ⟨f, fd, ?_, hm, F.kp, hb⟩
  refine F.ok scLAns (fun vs H Q E h => ?_) (fun cdv A outer s H vs Q E hr h => ?_)
  · obtain ⟨d, c, tb, cl, rfl, _⟩ := h
    rfl
  · obtain ⟨d, c, tb, cl, rfl, hd, hc, ok, k⟩ := h
    have nd := scLAns.nd
    have hu := hu_of hr
    have hsl : sizeLine = 16777216 := sizeLine_eq
    refine ⟨_, (pss_cons (ps_if (pt_cmpR op_eq (pe_ix ix_tup (pv 1) pe_int (fun _ _ => rfl)) pe_str (nomark _))
  (pss_one (ps_ret (pe_cmpR op_eq (pe_dget2 hu (pv 0) (pe_ix ix_tup (pv 1) pe_int (fun _ _ => rfl)) pe_non ⟨rfl, rfl, rfl, rfl⟩) (pe_ix ix_tup (pv 1) pe_int (fun _ _ => rfl)) (nomark _))))
  pss_nil)
  (pss_cons (ps_if (pt_cmpR op_eq (pe_ix ix_tup (pv 1) pe_int (fun _ _ => rfl)) pe_str (nomark _))
  (pss_one (ps_ret (pe_and (pe_cmp (pc_din hu (pe_ix ix_tup (pv 1) pe_int (fun _ _ => rfl)) (pv 0))) (pe_one (pe_cmp (pc_dnotin hu (pe_ix ix_tup (pv 1) pe_int (fun _ _ => rfl)) (pv 0)))))))
  pss_nil)
  (pss_cons (ps_if (pt_cmpR op_eq (pe_ix ix_tup (pv 1) pe_int (fun _ _ => rfl)) pe_str (nomark _))
  (pss_one (ps_ret (pe_callTy call_tuple_of (by rfl) B.tuple (by decide +kernel) (pa_cons (pe_lc (own := [("pair", 2)]) (g := (gName 2)) (tt := tYes) (te := (tDGet2 (tVar 0) (tOp (rIxT K) (tVar 2) (tC (.int 0))) (tC .non))) rfl nd (pi_tup (pe_ix ix_tup (pv 1) pe_int (fun _ _ => rfl))) (blkOk_by (N := ["table", "call", "pair"]) (sc := defScope sLAns) (by decide +kernel)) (fun _ _ _ _ _ => (pg_name (i := 2) nd rfl (Or.inl rfl))) (fun _ _ _ _ _ => pts_nil) (fun _ _ _ _ _ => (pe_dget2 hu (pv 0) (pe_ix ix_tup (pv 2) pe_int (fun _ _ => rfl)) pe_non ⟨rfl, rfl, rfl, rfl⟩))) pa_nil))))
  pss_nil)
  (pss_one (ps_ret (pe_dget2 hu (pv 0) (pe_ix ix_tup (pv 1) pe_int (fun _ _ => rfl)) pe_non ⟨rfl, rfl, rfl, rfl⟩)))))), ?_⟩
    have isd : IsD H d := .inl ⟨_, .inl hd⟩
    have get : ∀ x : Int, DGet H d (.int x) (valV (Rt.kvI tb) (Sum.inl x : Key)) := fun x => DGet.k (k := (Sum.inl x : Key)) hd
    cases cl with
    | look x =>
      refine ⟨_, rfl, c, _, 0, _, rfl, rfl, hc, at0, rfl, _, rfl, iteND (by decide) ⟨_, rfl, c, _, 0, _, rfl, rfl, hc, at0, rfl, _, rfl, iteND (by decide) ⟨_, rfl, c, _, 0, _, rfl, rfl, hc, at0, rfl, _, rfl, iteND (by decide) ?_⟩⟩⟩
      refine ⟨_, rfl, d, rfl, isd, _, rfl, c, _, 1, _, rfl, rfl, hc, at1, _, get x, ?_⟩
      rw [gV]
      exact k _ _ (Same.refl H) rfl
    | put x v =>
      refine ⟨_, rfl, c, _, 0, _, rfl, rfl, hc, at0, rfl, _, rfl, iteND (by decide) ⟨_, rfl, c, _, 0, _, rfl, rfl, hc, at0, rfl, _, rfl, iteND (by decide) ⟨_, rfl, c, _, 0, _, rfl, rfl, hc, at0, rfl, _, rfl, iteND (by decide) ?_⟩⟩⟩
      refine ⟨_, rfl, d, rfl, isd, _, rfl, c, _, 1, _, rfl, rfl, hc, at1, _, get x, ?_⟩
      rw [gV]
      exact k _ _ (Same.refl H) rfl
    | take x =>
      refine ⟨_, rfl, c, _, 0, _, rfl, rfl, hc, at0, rfl, _, rfl, iteND (by decide) ⟨_, rfl, c, _, 0, _, rfl, rfl, hc, at0, rfl, _, rfl, iteND (by decide) ⟨_, rfl, c, _, 0, _, rfl, rfl, hc, at0, rfl, _, rfl, iteND (by decide) ?_⟩⟩⟩
      refine ⟨_, rfl, d, rfl, isd, _, rfl, c, _, 1, _, rfl, rfl, hc, at1, _, get x, ?_⟩
      rw [gV]
      exact k _ _ (Same.refl H) rfl
    | change x o n =>
      refine ⟨_, rfl, c, _, 0, _, rfl, rfl, hc, at0, rfl, _, rfl, iteD rfl ?_⟩
      refine ⟨_, rfl, d, rfl, isd, _, rfl, c, _, 1, _, rfl, rfl, hc, at1, _, get x, _, rfl, c, _, 2, _, rfl, rfl, hc, at2, ?_⟩
      rw [gV]
      refine ⟨by cases tb.lookup x <;> rfl, ?_⟩
      rw [chg_eq]
      exact k _ _ (Same.refl H) rfl
    | move x j =>
      refine ⟨_, rfl, c, _, 0, _, rfl, rfl, hc, at0, rfl, _, rfl, iteND (by decide) ⟨_, rfl, c, _, 0, _, rfl, rfl, hc, at0, rfl, _, rfl, iteD rfl ?_⟩⟩
      refine ⟨_, rfl, c, _, 1, _, rfl, rfl, hc, at1, _, rfl, d, _, rfl, get x, _, rfl, ?_⟩
      rw [valV_kvI]
      have e := k H (.bl ((tb.lookup x).isSome && (tb.lookup j).isNone)) (Same.refl H) rfl
      cases h1 : tb.lookup x with
      | none =>
        rw [h1] at e
        exact iteF e
      | some v =>
        refine iteT ⟨_, rfl, c, _, 2, _, rfl, rfl, hc, at2, _, rfl, d, _, rfl, get j, ?_⟩
        rw [valV_kvI]
        rw [h1] at e
        cases h2 : tb.lookup j <;> (rw [h2] at e; exact e)
    | puts ps =>
      obtain ⟨q, ts, h1, h2, h3⟩ := hc
      have hln := plen h3
      refine ⟨_, rfl, c, _, 0, _, rfl, rfl, h1, at0, rfl, _, rfl, iteND (by decide) ⟨_, rfl, c, _, 0, _, rfl, rfl, h1, at0, rfl, _, rfl, iteND (by decide) ⟨_, rfl, c, _, 0, _, rfl, rfl, h1, at0, rfl, _, rfl, iteD rfl ?_⟩⟩⟩
      refine ⟨_, rfl, c, _, 1, _, rfl, rfl, h1, at1, q, rfl, ⟨_, h2.sq⟩, fun D hD => lc_tup (K := K) (a := q) (xs := ts) (fun i H' => H' D = some (.lst (((ps.take i).map fun p => oV (tb.lookup p.1)))) ∧ Same H H') ⟨upd_same, up1 hD⟩ (fun i H' _ z => h2.sq.same z.2) ?_ ?_⟩
      · rintro i v H' hi ⟨hD', s1⟩
        obtain ⟨p, hp, t, rfl, ht⟩ := pget h3 hi
        have hil : i < ps.length := (List.getElem?_eq_some_iff.mp hp).1
        refine ⟨rfl, _, rfl, d, rfl, .inl ⟨_, .inl (s1 _ _ hd)⟩, _, rfl, t, _, 0, _, rfl, rfl, ht.same s1, at0, _, DGet.k (k := (Sum.inl p.1 : Key)) (s1 _ _ hd), ?_⟩
        rw [gV]
        refine ⟨_, hD', (by rw [List.length_map, List.length_take]; have := ok.2.1; omega), ?_, fun b o e => by rw [upd_ne (ne_of_none e hD)]; exact s1 b o e⟩
        rw [upd_same, List.take_succ_eq_append_getElem hil, List.map_append]
        have : ps[i] = p := by rw [List.getElem?_eq_getElem hil] at hp; exact Option.some.inj hp
        rw [this]
        rfl
      · rintro H' ⟨hD', s1⟩
        rw [hln, List.take_length] at hD'
        refine ⟨D, _, rfl, .inl ⟨SqL.of hD', fun l hl => ?_⟩⟩
        exact k _ _ (s1.trans (up1 hl)) ⟨l, rfl, SqT.of (by rw [upd_same, List.map_map]; rfl)⟩
theorem scLAft : FnScope NLf ["table", "call"] (defScope sLAft) := ⟨rfl, rfl, rfl, by decide +kernel, rfl, by decide +kernel, by decide +kernel⟩
theorem go_laft (F : GT K mg "_law_after" sLAft ["table", "call"]) (B : Bn mg) (GLn : GO P w K mg base CX0 1 "_law_answer" ["table", "call"] (spAns K)) : GO P w K mg base CX0 2 "_law_after" ["table", "call"] (spAft K) := by
  obtain ⟨f, fd, F, hm, hb⟩ := F
  refine ⟨f, fd, ?_, hm, F.kp, hb⟩
  refine F.ok scLAft (fun vs H Q E h => ?_) (fun cdv A outer s H vs Q E hr h => ?_)
  · obtain ⟨d, c, tb, cl, rfl, _⟩ := h
    rfl
  · obtain ⟨d, c, tb, cl, rfl, hd, hnd, hlen, hc, ok, k⟩ := h
    have nd := scLAft.nd
    have hrL : Room 1 _ := hr
    have hu := hu_of hr
    have hsl : sizeLine = 16777216 := sizeLine_eq
    refine ⟨_, (pss_cons (ps_set (i := 2) nd rfl (Or.inl rfl) (pe_callTy call_dictD (by rfl) B.dict (by decide +kernel) (pa_cons (pv 0) pa_nil)))
  (pss_cons (ps_if (pt_cmpR op_eq (pe_ix ix_tup (pv 1) pe_int (fun _ _ => rfl)) pe_str (nomark _))
  (pss_one (ps_dput hu (pv 2) (pe_ix ix_tup (pv 1) pe_int (fun _ _ => rfl)) (pe_ix ix_tup (pv 1) pe_int (fun _ _ => rfl)) rfl))
  pss_nil)
  (pss_cons (ps_if (pt_cmpR op_eq (pe_ix ix_tup (pv 1) pe_int (fun _ _ => rfl)) pe_str (nomark _))
  (pss_one (ps_for PassesOwn.never rfl (pi_tup (pe_ix ix_tup (pv 1) pe_int (fun _ _ => rfl))) (pg_tup (by rfl) (pgs_cons (pg_name (i := 3) nd rfl (Or.inl rfl)) (pgs_cons (pg_name (i := 4) nd rfl (Or.inl rfl)) pgs_nil)))
  (pss_one (ps_dput hu (pv 2) (pv 3) (pv 4) rfl))))
  pss_nil)
  (pss_cons (ps_if (pt_cmpR op_eq (pe_ix ix_tup (pv 1) pe_int (fun _ _ => rfl)) pe_str (nomark _))
  (pss_one (ps_expr (pe_dpop2 (pv 2) (pe_ix ix_tup (pv 1) pe_int (fun _ _ => rfl)) pe_non ⟨rfl, rfl, rfl, rfl⟩)))
  pss_nil)
  (pss_cons (ps_if (PW.pt (pw_and (pt_cmpR op_eq (pe_ix ix_tup (pv 1) pe_int (fun _ _ => rfl)) pe_str (nomark _)) (pw_and1 (pt_val (pc_ GLn hrL (pa_cons (pv 0) (pa_cons (pv 1) pa_nil)))))))
  (pss_one (ps_dput hu (pv 2) (pe_ix ix_tup (pv 1) pe_int (fun _ _ => rfl)) (pe_ix ix_tup (pv 1) pe_int (fun _ _ => rfl)) rfl))
  pss_nil)
  (pss_cons (ps_if (PW.pt (pw_and (pt_cmpR op_eq (pe_ix ix_tup (pv 1) pe_int (fun _ _ => rfl)) pe_str (nomark _)) (pw_and1 (pt_val (pc_ GLn hrL (pa_cons (pv 0) (pa_cons (pv 1) pa_nil)))))))
  (pss_cons (ps_dput hu (pv 2) (pe_ix ix_tup (pv 1) pe_int (fun _ _ => rfl)) (pe_dget hu (pv 0) (pe_ix ix_tup (pv 1) pe_int (fun _ _ => rfl)) (fun _ _ => rfl)) rfl)
  (pss_one (ps_expr (pe_dpop1 (pv 2) (pe_ix ix_tup (pv 1) pe_int (fun _ _ => rfl)) ⟨rfl, rfl, rfl, rfl⟩))))
  pss_nil)
  (pss_one (ps_ret (pv 2))))))))), ?_⟩
    refine ⟨_, rfl, d, _, rfl, .inl hd, fun p hp => ?_⟩
    have s1 := up1 (o := HO.dK (Rt.kvI tb)) hp
    have e1 : upd H p (HO.dK (Rt.kvI tb)) p = _ := upd_same
    have off : ∀ o, Same H (upd (upd H p (HO.dK (Rt.kvI tb))) p o) := fun o b u e => by rw [upd_ne (ne_of_none e hp), upd_ne (ne_of_none e hp)]; exact e
    generalize upd H p (HO.dK (Rt.kvI tb)) = H1 at s1 e1 off ⊢
    have hd1 := s1 _ _ hd
    have hc1 := hc.same s1
    have offp : ∀ {H2 : Hp} o, Same H H2 → Same H (upd H2 p o) := fun o s b u e => by rw [upd_ne (ne_of_none e hp)]; exact s b u e
    have fin : ∀ {H2 : Hp} (tb' : Tb), Same H H2 → tb' = aftOf tb cl → Q (.ref p) (upd H2 p (.dK (Rt.kvI tb'))) := fun tb' s e => k _ p (offp _ s) hp (by rw [upd_same, e])
    cases cl with
    | look x =>
      exact ⟨_, rfl, c, _, 0, _, rfl, rfl, hc1, at0, rfl, _, rfl, iteND (by decide) ⟨_, rfl, c, _, 0, _, rfl, rfl, hc1, at0, rfl, _, rfl, iteND (by decide) ⟨_, rfl, c, _, 0, _, rfl, rfl, hc1, at0, rfl, _, rfl, iteND (by decide) ⟨_, rfl, c, _, 0, _, rfl, rfl, hc1, at0, rfl, _, rfl, iteND (by decide) ⟨_, rfl, c, _, 0, _, rfl, rfl, hc1, at0, rfl, _, rfl, iteND (by decide) ⟨_, rfl, k _ p s1 hp e1⟩⟩⟩⟩⟩⟩
    | put x v =>
      refine ⟨_, rfl, c, _, 0, _, rfl, rfl, hc1, at0, rfl, _, rfl, iteD rfl ⟨_, rfl, c, _, 2, _, rfl, rfl, hc1, at2, _, rfl, _, rfl, c, _, 1, _, rfl, rfl, hc1, at1, p, _, rfl, DPut.k (k := (Sum.inl x : Key)) e1 (by rw [kvI_len]; omega), ?_⟩⟩
      rw [putK_kvI]
      have hc2 := L2.SqT.same hc (offp (.dK (Rt.kvI (putI tb x v))) s1)
      exact ⟨_, rfl, c, _, 0, _, rfl, rfl, hc2, at0, rfl, _, rfl, iteND (by decide) ⟨_, rfl, c, _, 0, _, rfl, rfl, hc2, at0, rfl, _, rfl, iteND (by decide) ⟨_, rfl, c, _, 0, _, rfl, rfl, hc2, at0, rfl, _, rfl, iteND (by decide) ⟨_, rfl, c, _, 0, _, rfl, rfl, hc2, at0, rfl, _, rfl, iteND (by decide) ⟨_, rfl, fin _ s1 rfl⟩⟩⟩⟩⟩
    | take x =>
      refine ⟨_, rfl, c, _, 0, _, rfl, rfl, hc1, at0, rfl, _, rfl, iteND (by decide) ⟨_, rfl, c, _, 0, _, rfl, rfl, hc1, at0, rfl, _, rfl, iteND (by decide) ⟨_, rfl, c, _, 0, _, rfl, rfl, hc1, at0, rfl, _, rfl, iteD rfl ⟨_, rfl, p, rfl, .inl ⟨_, .inl e1⟩, _, rfl, c, _, 1, _, rfl, rfl, hc1, at1, _, (Sum.inl x : Key), e1, rfl, fun v hv => ?_, fun hv => ?_⟩⟩⟩⟩
      · rw [dropK_kvI]
        have hc2 := L2.SqT.same hc (offp (.dK (Rt.kvI (wo tb x))) s1)
        exact ⟨_, rfl, c, _, 0, _, rfl, rfl, hc2, at0, rfl, _, rfl, iteND (by decide) ⟨_, rfl, c, _, 0, _, rfl, rfl, hc2, at0, rfl, _, rfl, iteND (by decide) ⟨_, rfl, fin _ s1 rfl⟩⟩⟩
      · have hn : tb.lookup x = none := by
          rw [valV_kvI] at hv
          cases e : tb.lookup x with
          | none => rfl
          | some v => rw [e] at hv; cases hv
        exact ⟨_, rfl, c, _, 0, _, rfl, rfl, hc1, at0, rfl, _, rfl, iteND (by decide) ⟨_, rfl, c, _, 0, _, rfl, rfl, hc1, at0, rfl, _, rfl, iteND (by decide) ⟨_, rfl, k _ p s1 hp (by rw [e1]; show _ = some (HO.dK (Rt.kvI (wo tb x))); rw [wo_none hn])⟩⟩⟩
    | change x o n =>
      refine ⟨_, rfl, c, _, 0, _, rfl, rfl, hc1, at0, rfl, _, rfl, iteND (by decide) ⟨_, rfl, c, _, 0, _, rfl, rfl, hc1, at0, rfl, _, rfl, iteND (by decide) ⟨_, rfl, c, _, 0, _, rfl, rfl, hc1, at0, rfl, _, rfl, iteND (by decide) ⟨_, rfl, c, _, 0, _, rfl, rfl, hc1, at0, rfl, _, rfl, iteD rfl ⟨_, rfl, _, rfl, d, c, tb, _, rfl, hd1, hc1, ok, fun H2 v s2 hv => ?_⟩⟩⟩⟩⟩
      have hv : v = .bl _ := hv
      subst hv
      have e2 := s2 _ _ e1
      have s12 := s1.trans s2
      have hc3 := L2.SqT.same hc1 s2
      refine ⟨_, rfl, ite2 (fun h => ?_) (fun h => ?_)⟩
      · have h := of_decide_eq_true h
        refine ⟨_, rfl, c, _, 3, _, rfl, rfl, hc3, at3, _, rfl, _, rfl, c, _, 1, _, rfl, rfl, hc3, at1, p, _, rfl, DPut.k (k := (Sum.inl x : Key)) e2 (by rw [kvI_len]; omega), ?_⟩
        rw [putK_kvI]
        have hc2 := L2.SqT.same hc (offp (.dK (Rt.kvI (putI tb x n))) s12)
        exact ⟨_, rfl, c, _, 0, _, rfl, rfl, hc2, at0, rfl, _, rfl, iteND (by decide) ⟨_, rfl, fin _ s12 (by unfold aftOf; dsimp only; rw [if_pos h])⟩⟩
      · have h : ¬ tb.lookup x = some o := fun z => h (decide_eq_true z)
        exact ⟨_, rfl, c, _, 0, _, rfl, rfl, hc3, at0, rfl, _, rfl, iteND (by decide) ⟨_, rfl, k _ p s12 hp (by rw [e2]; unfold aftOf; dsimp only; rw [if_neg h])⟩⟩
    | move x j =>
      refine ⟨_, rfl, c, _, 0, _, rfl, rfl, hc1, at0, rfl, _, rfl, iteND (by decide) ⟨_, rfl, c, _, 0, _, rfl, rfl, hc1, at0, rfl, _, rfl, iteND (by decide) ⟨_, rfl, c, _, 0, _, rfl, rfl, hc1, at0, rfl, _, rfl, iteND (by decide) ⟨_, rfl, c, _, 0, _, rfl, rfl, hc1, at0, rfl, _, rfl, iteND (by decide) ⟨_, rfl, c, _, 0, _, rfl, rfl, hc1, at0, rfl, _, rfl, iteD rfl ⟨_, rfl, _, rfl, d, c, tb, _, rfl, hd1, hc1, ok, fun H2 v s2 hv => ?_⟩⟩⟩⟩⟩⟩
      have hv : v = .bl _ := hv
      subst hv
      have e2 := s2 _ _ e1
      have s12 := s1.trans s2
      have hc3 := L2.SqT.same hc1 s2
      have hd3 := s2 _ _ hd1
      refine ⟨_, rfl, ite2 (fun h => ?_) (fun h => ?_)⟩
      · rw [Bool.and_eq_true] at h
        obtain ⟨v, hv⟩ := Option.isSome_iff_exists.mp h.1
        have hj : tb.lookup j = none := Option.isNone_iff_eq_none.mp h.2
        refine ⟨_, rfl, _, rfl, c, _, 1, _, rfl, rfl, hc3, at1, d, _, rfl, (by have g := DGet.k (k := (Sum.inl x : Key)) hd3; rw [valV_kvI, hv] at g; exact g), _, rfl, _, rfl, c, _, 2, _, rfl, rfl, hc3, at2, p, _, rfl, DPut.k (k := (Sum.inl j : Key)) e2 (by rw [kvI_len]; omega), ?_⟩
        rw [putK_kvI, putI_none hj]
        have hc2 := L2.SqT.same hc (offp (.dK (Rt.kvI (tb ++ [(j, v)]))) s12)
        refine ⟨_, rfl, p, rfl, .inl ⟨_, .inl upd_same⟩, _, rfl, c, _, 1, _, rfl, rfl, hc2, at1, _, (Sum.inl x : Key), V.int v, upd_same, rfl, (by rw [valV_kvI, look_app hv]; rfl), ?_⟩
        rw [dropK_kvI, wo_app (fun z => ok z.symm)]
        exact ⟨_, rfl, fin _ (offp _ s12) (by unfold aftOf; dsimp only; rw [hv, hj])⟩
      · refine ⟨_, rfl, k _ p s12 hp ?_⟩
        rw [e2]
        unfold aftOf
        dsimp only
        split
        · rename_i v h1 h2
          rw [h1, h2] at h
          exact absurd rfl h
        · rfl
    | puts ps =>
      obtain ⟨q, ts, h1, h2, h3⟩ := hc
      have hln := plen h3
      have h11 := h1.same s1
      have hl2 := ok.2.1
      refine ⟨_, rfl, c, _, 0, _, rfl, rfl, h11, at0, rfl, _, rfl, iteND (by decide) ⟨_, rfl, c, _, 0, _, rfl, rfl, h11, at0, rfl, _, rfl, iteD rfl ⟨_, rfl, c, _, 1, _, rfl, rfl, h11, at1, q, rfl, ⟨_, h2.sq.same s1⟩, for_tup (K := K) (a := q) (xs := ts) (fun i σ H' => ∃ x3 x4, σ = [some (.ref d), some (.ref c), some (.ref p), x3, x4] ∧ H' p = some (.dK (Rt.kvI (putAll tb (ps.take i)))) ∧ Same H H') ⟨_, _, rfl, e1, s1⟩ (fun i σ H' _ z => by obtain ⟨_, _, _, _, s⟩ := z; exact h2.sq.same s) ?_ ?_⟩⟩⟩
      · rintro i v σ H' hi ⟨x3, x4, rfl, hp', s⟩
        obtain ⟨n, hn, t, rfl, ht⟩ := pget h3 hi
        have hil : i < ps.length := (List.getElem?_eq_some_iff.mp hn).1
        have hl3 := putAll_len (ps := ps.take i) (t := tb)
        rw [List.length_take] at hl3
        refine ⟨t, _, rfl, ht.same s, rfl, _, _, rfl, _, _, rfl, rfl, _, rfl, _, rfl, _, rfl, p, _, rfl, DPut.k (k := (Sum.inl n.1 : Key)) hp' (by rw [kvI_len]; omega), ?_⟩
        rw [putK_kvI]
        refine ⟨_, _, rfl, ?_, offp _ s⟩
        rw [upd_same, List.take_succ_eq_append_getElem hil]
        have : ps[i] = n := by rw [List.getElem?_eq_getElem hil] at hn; exact Option.some.inj hn
        rw [this]
        unfold putAll
        rw [List.foldl_append]
        rfl
      · rintro σ H' ⟨x3, x4, rfl, hp', s⟩
        rw [hln, List.take_length] at hp'
        have h12 := h1.same s
        exact ⟨_, rfl, c, _, 0, _, rfl, rfl, h12, at0, rfl, _, rfl, iteND (by decide) ⟨_, rfl, c, _, 0, _, rfl, rfl, h12, at0, rfl, _, rfl, iteND (by decide) ⟨_, rfl, c, _, 0, _, rfl, rfl, h12, at0, rfl, _, rfl, iteND (by decide) ⟨_, rfl, k _ p s hp hp'⟩⟩⟩⟩
end
end Dk

set_option maxHeartbeats 8000000
/-! the law k23 -/
namespace Dk
open PySem PySem.Spec PyProof.Rows L2 StX
abbrev sLaw : Stmt := top 10
abbrev NLw : List Str := ["script", "table", "k", "call", "kept", "told", "due", "after"]
def isBl : Ans → Bool
  | .bl _ => true
  | _ => false
theorem tyT {K : PySem.W.Frag} {H : Hp} {a : Addr} {xs : List V} (h : SqT K H a xs) : TyX K H (.ref a) (.type "tuple") := by
  rcases h with (h | ⟨o, h⟩) | ⟨o, its, n, h, c, _⟩
  · exact .base (.tup h)
  · exact .fTuple h
  · exact .kTuple h c
theorem ans_isi {K : PySem.W.Frag} {H : Hp} {v : V} {a : Ans} (h : AnsAt K H v a) : ∃ t, TyX K H v t ∧ PySem.W.kitOne K t (.type "bool") = some (isBl a) := by
  cases a with
  | bl b =>
    have h : v = _ := h
    subst h
    exact ⟨_, .base (.bl b), kit_ty (show kitB "bool" "bool" = some true by decide +kernel)⟩
  | val o =>
    have h : v = _ := h
    subst h
    cases o with
    | none => exact ⟨_, .base .non, kit_ty (show kitB "NoneType" "bool" = some false by decide +kernel)⟩
    | some i => exact ⟨_, .base (.int i), kit_ty (show kitB "int" "bool" = some false by decide +kernel)⟩
  | tup os =>
    obtain ⟨t, rfl, h⟩ := h
    exact ⟨_, tyT h, kit_ty (show kitB "tuple" "bool" = some false by decide +kernel)⟩
def oD : Option Int → PyData
  | some v => .int v
  | none => .none
theorem oD_all {K : PySem.W.Frag} {H : Hp} : ∀ os : List (Option Int), DpAll K H (os.map oV) (os.map oD)
  | [] => .nil
  | some i :: os => .cons (.int i) (oD_all os)
  | none :: os => .cons .non (oD_all os)
def ansE : Ans → PyData
  | .bl b => .bool b
  | .val o => oD o
  | .tup os => .tuple (os.map oD)
theorem oD_lay : ∀ os : List (Option Int), PyData.canLayAll0 (os.map oD) = true
  | [] => by simp [PyData.canLayAll0]
  | some i :: os => by simp [PyData.canLayAll0, PyData.canLay0, oD_lay os, oD]
  | none :: os => by simp [PyData.canLayAll0, PyData.canLay0, oD_lay os, oD]
theorem oD_depth : ∀ os : List (Option Int), PyData.depthAll (os.map oD) ≤ 1
  | [] => by simp [PyData.depthAll]
  | some i :: os => by
    have := oD_depth os
    simp only [List.map_cons, PyData.depthAll, PyData.depth, oD]
    omega
  | none :: os => by
    have := oD_depth os
    simp only [List.map_cons, PyData.depthAll, PyData.depth, oD]
    omega
theorem ansE_shaped (a : Ans) : SeqAt.shaped (ansE a) = true := by
  cases a with
  | bl b => cases b <;> decide +kernel
  | val o =>
    cases o with
    | none => decide +kernel
    | some i => rfl
  | tup os =>
    have h := oD_depth os
    unfold ansE
    show (PyData.canLay0 (.tuple _) && decide (PyData.depth (.tuple _) ≤ 64)) = true
    rw [Bool.and_eq_true]
    refine ⟨by simp only [PyData.canLay0]; exact oD_lay os, decide_eq_true ?_⟩
    simp only [PyData.depth]
    omega
theorem AnsAt.dp {K : PySem.W.Frag} {H : Hp} {v : V} {a : Ans} (h : AnsAt K H v a) : Dp K H v (ansE a) := by
  cases a with
  | bl b =>
    have h : v = _ := h
    subst h
    exact .bl b
  | val o =>
    have h : v = _ := h
    subst h
    cases o with
    | none => exact .non
    | some i => exact .int i
  | tup os =>
    obtain ⟨t, rfl, h⟩ := h
    exact .tup h (oD_all os)
theorem eqv_sh {d : PyData} (h : SeqAt.shaped d = true) : PyData.eqv d d = true := SeqAt.eqv_refl _ (SeqAt.canLay_of_shaped h)
theorem same_dict {tb : Tb} (h : (keys tb).Nodup) : ∀ p ∈ Rt.kvI tb, valV (Rt.kvI tb) p.1 = some p.2 ∧ flatB p.2 = true := fun p hp => ⟨val_nodup (kvI_nd h) p hp, kvI_flat tb p hp⟩
def spLaw (K : PySem.W.Frag) : Sp := fun vs H Q _ => ∃ (a : Addr) (ns : List Int), vs = [.ref a] ∧ SqL K H a (ns.map V.int) ∧ ns.length ≤ 63 ∧ ∀ H', Q (.bl true) H'
section
variable {P : Program} {w : World} {K : PySem.W.Frag} {mg : Str → Option Value} {base : Heap}
theorem scLaw : FnScope NLw ["script"] (defScope sLaw) := ⟨rfl, rfl, rfl, by decide +kernel, rfl, by decide +kernel, by decide +kernel⟩
theorem ok_law {f : Addr} {fd : FuncData} (F : Fun K "law" "law" sLaw f fd) (B : Bn mg) (GAn : GO P w K mg base CX0 1 "answer_of" ["plain", "call"] (spAns K)) (GAf : GO P w K mg base CX0 2 "after_call" ["plain", "call"] (spAft K))
    (GCe : GO P w K mg base CX0 1 "_law_cell" ["script", "k"] (spCell K)) (GMa : GO P w K mg base CX0 1 "_law_many" ["script", "few", "many"] (spMany K)) (GCa : GO P w K mg base CX0 2 "_law_call" ["cell"] (spCall K))
    (GLn : GO P w K mg base CX0 1 "_law_answer" ["table", "call"] (spAns K)) (GLf : GO P w K mg base CX0 2 "_law_after" ["table", "call"] (spAft K)) : FnOk P w K mg base CX0 3 f fd ["script"] (spLaw K) := by
  refine F.ok scLaw (fun vs H Q E h => ?_) (fun cdv A outer s H vs Q E hr h => ?_)
  · obtain ⟨a, ns, rfl, _⟩ := h
    rfl
  · obtain ⟨a, ss, rfl, hS, hlen, kQ⟩ := h
    have nd := scLaw.nd
    have hr1 : Room 1 _ := hr.mono (by decide)
    have hrA : Room 1 _ := hr.mono (by decide)
    have hrF : Room 2 _ := hr
    have hrC : Room 2 _ := hr
    have hrL : Room 1 _ := hr.mono (by decide)
    have hrM : Room 2 _ := hr
    have hu := hu_of hr
    have hu0 := Nat.lt_of_succ_lt hu
    have hsl : sizeLine = 16777216 := sizeLine_eq
    refine ⟨_, (pss_cons (ps_set (i := 1) nd rfl (Or.inl rfl) pe_dnewK)
  (pss_cons (ps_for PassesOwn.never rfl (pi_range1 (by rfl) B.range (pa_cons (pe_callB (call_min2 rfl) (by rfl) B.min (by decide +kernel) (pa_cons (pe_callB call_len_seq (by rfl) B.len PySem.boot_len (pa_cons (pv 0) pa_nil)) (pa_cons (pc_ GMa hr1 (pa_cons (pv 0) (pa_cons pe_int (pa_cons pe_int pa_nil)))) pa_nil))) pa_nil)) (pg_name (i := 2) nd rfl (Or.inl rfl))
  (pss_cons (ps_set (i := 3) nd rfl (Or.inl rfl) (pc_ GCa hrC (pa_cons (pe_op op_add (pc_ GCe hr1 (pa_cons (pv 0) (pa_cons (pv 2) pa_nil))) (pe_op op_mul pe_int (pv 2))) pa_nil)))
  (pss_cons (ps_set (i := 4) nd rfl (Or.inl rfl) (pe_callTy call_dictD (by rfl) B.dict (by decide +kernel) (pa_cons (pv 1) pa_nil)))
  (pss_cons (ps_set (i := 5) nd rfl (Or.inl rfl) (pc_ GAn hrA (pa_cons (pv 1) (pa_cons (pv 3) pa_nil))))
  (pss_cons (ps_set (i := 6) nd rfl (Or.inl rfl) (pc_ GLn hrL (pa_cons (pv 1) (pa_cons (pv 3) pa_nil))))
  (pss_cons (ps_if (PW.pt (pw_or (pt_cmpR op_ne (pe_callB call_isi (by rfl) B.isi (by decide +kernel) (pa_cons (pv 5) (pa_cons (pe_bltn (v := .ty "bool") (by rfl) B.bool (by decide +kernel) rfl) pa_nil))) (pe_callB call_isi (by rfl) B.isi (by decide +kernel) (pa_cons (pv 6) (pa_cons (pe_bltn (v := .ty "bool") (by rfl) B.bool (by decide +kernel) rfl) pa_nil))) (nomark _)) (pw_or1 (pt_cmpR (op_neD hr.units) (pv 5) (pv 6) (nomark _)))))
  (pss_one (ps_ret pe_bl))
  pss_nil)
  (pss_cons (ps_set (i := 7) nd rfl (Or.inl rfl) (pc_ GAf hrF (pa_cons (pv 1) (pa_cons (pv 3) pa_nil))))
  (pss_cons (ps_if (PW.pt (pw_or (pt_cmpR (op_ne_dictA hu0) (pv 7) (pc_ GLf hrM (pa_cons (pv 1) (pa_cons (pv 3) pa_nil))) (nomark _)) (pw_or1 (pt_cmpR (op_ne_dictA hu0) (pv 1) (pv 4) (nomark _)))))
  (pss_one (ps_ret pe_bl))
  pss_nil)
  (pss_cons (ps_dput hu (pv 7) pe_int pe_int rfl)
  (pss_cons (ps_if (pt_cmpR (op_ne_dictA hu0) (pv 1) (pv 4) (nomark _))
  (pss_one (ps_ret pe_bl))
  pss_nil)
  (pss_one (ps_set (i := 1) nd rfl (Or.inl rfl) (pc_ GLf hrM (pa_cons (pv 1) (pa_cons (pv 3) pa_nil)))))))))))))))
  (pss_one (ps_ret pe_bl)))), ?_⟩
    intro d hd
    have s1 := up1 (o := HO.dK []) hd
    have e1 : upd H d (HO.dK []) d = _ := upd_same
    generalize upd H d (HO.dK []) = H1 at s1 e1 ⊢
    have hS1 := L2.SqL.same hS s1
    refine ⟨_, rfl, a, _, rfl, .inl hS1, _, rfl, a, ss, 8, 20, rfl, hS1, hlen, ⟨by decide, by decide⟩, ⟨by decide, by decide⟩, fun m hm0 hm20 => ?_⟩
    refine ⟨_, _, rfl, ?_⟩
    have hn0 : 0 ≤ (if m < ((ss.map V.int).length : Int) then m else ((ss.map V.int).length : Int)) ∧ (if m < ((ss.map V.int).length : Int) then m else ((ss.map V.int).length : Int)) ≤ 63 := by
      rw [List.length_map]
      split <;> omega
    refine ⟨_, rfl, by omega, by omega, ?_⟩
    generalize (if m < ((ss.map V.int).length : Int) then m else ((ss.map V.int).length : Int)) = n at hn0 ⊢
    refine for_range (lo := 0) (n := n.toNat) (fun i σ H' => ∃ (x2 x3 x4 x5 x6 x7 : Option V) (d : Addr) (tb : Tb), σ = [some (.ref a), some (.ref d), x2, x3, x4, x5, x6, x7] ∧ H' d = some (.dK (Rt.kvI tb)) ∧ (keys tb).Nodup ∧ tb.length ≤ 3 * i ∧ SqL K H' a (ss.map V.int)) ⟨_, _, _, _, _, _, d, [], rfl, e1, List.nodup_nil, Nat.le_refl _, hS1⟩ ?_ ?_
    · rintro i σ H2 hi ⟨x2, x3, x4, x5, x6, x7, d, tb, rfl, hd2, hnd, htl, hS2⟩
      have hi : i < 63 := by omega
      -- call
      refine ⟨_, rfl, _, rfl, a, ss, i, (by rw [Int.zero_add]; rfl), hS2, hlen, fun z => ⟨_, rfl, _, _, rfl, rfl, .inl ⟨by decide, by decide⟩, _, _, rfl, rfl, _, rfl, fun H3 c cl s3 hc3 ok => ?_⟩⟩
      have hd3 := s3 _ _ hd2
      have hS3 := L2.SqL.same hS2 s3
      -- kept
      refine ⟨_, rfl, d, _, rfl, .inl hd3, fun kp hkp => ?_⟩
      have s4 := up1 (o := HO.dK (Rt.kvI tb)) hkp
      have k4 : upd H3 kp (HO.dK (Rt.kvI tb)) kp = _ := upd_same
      generalize upd H3 kp (HO.dK (Rt.kvI tb)) = H4 at s4 k4 ⊢
      have hd4 := s4 _ _ hd3
      have hc4 := hc3.same s4
      have hS4 := L2.SqL.same hS3 s4
      -- told, due
      refine ⟨_, rfl, _, rfl, d, c, tb, cl, rfl, hd4, hc4, ok, fun H5 told s5 h5 => ?_⟩
      refine ⟨_, rfl, _, rfl, d, c, tb, cl, rfl, s5 _ _ hd4, hc4.same s5, ok, fun H6 due s6 h6 => ?_⟩
      have s56 := s5.trans s6
      have h5 := h5.same s6
      have hd6 := s56 _ _ hd4
      have k6 := s56 _ _ k4
      have hc6 := hc4.same s56
      have hS6 := L2.SqL.same hS4 s56
      generalize ansOf tb cl = an at h5 h6
      obtain ⟨ty5, hy5, hb5⟩ := ans_isi h5
      obtain ⟨ty6, hy6, hb6⟩ := ans_isi h6
      refine ⟨_, rfl, _, _, _, _, _, rfl, .ty "bool", hy5, hb5, _, rfl, _, _, _, _, _, rfl, .ty "bool", hy6, hb6, (by cases an <;> rfl), _, rfl, iteNS rfl ?_⟩
      refine ⟨_, rfl, _, rfl, ansE an, ansE an, h5.dp, h6.dp, ansE_shaped an, ansE_shaped an, _, rfl, iteC (by rw [eqv_sh (ansE_shaped an)]; rfl) ?_⟩
      -- after
      refine ⟨_, rfl, _, rfl, d, c, tb, cl, rfl, hd6, hnd, by omega, hc6, ok, fun H7 p s7 hp hp7 => ?_⟩
      refine ⟨_, rfl, _, rfl, _, rfl, d, c, tb, cl, rfl, s7 _ _ hd6, hnd, by omega, hc6.same s7, ok, fun H8 p2 s8 hp2 hp8 => ?_⟩
      have hnd8 := aft_nd hnd cl
      have hl8 := aft_len (tb := tb) ok
      generalize ht8 : aftOf tb cl = tb8 at hp7 hp8 hnd8 hl8
      have s78 := s7.trans s8
      have q8 := s8 _ _ hp7
      refine ⟨p, p2, _, _, rfl, rfl, q8, hp8, rfl, same_dict hnd8, _, rfl, iteF ?_⟩
      refine ⟨_, rfl, _, rfl, d, kp, _, _, rfl, rfl, s78 _ _ hd6, s78 _ _ k6, rfl, same_dict hnd, _, rfl, iteF ?_⟩
      -- after[99] = 1
      refine ⟨_, rfl, p, _, rfl, DPut.k (k := (Sum.inl 99 : Key)) q8 (by rw [kvI_len]; omega), ?_⟩
      have s9 : Same H6 (upd H8 p (.dK (putK (Rt.kvI tb8) (Sum.inl 99 : Key) (.int 1)))) := fun b u e => by rw [upd_ne (ne_of_none e hp)]; exact s78 b u e
      generalize upd H8 p (.dK (putK (Rt.kvI tb8) (Sum.inl 99 : Key) (.int 1))) = H9 at s9 ⊢
      refine ⟨_, rfl, _, rfl, d, kp, _, _, rfl, rfl, s9 _ _ hd6, s9 _ _ k6, rfl, same_dict hnd, _, rfl, iteF ?_⟩
      refine ⟨_, rfl, _, rfl, d, c, tb, cl, rfl, s9 _ _ hd6, hnd, by omega, hc6.same s9, ok, fun H10 p3 s10 hp3 hp10 => ?_⟩
      exact ⟨_, _, _, _, _, _, p3, aftOf tb cl, rfl, hp10, by rw [ht8]; exact hnd8, by rw [ht8]; omega, L2.SqL.same (L2.SqL.same hS6 s9) s10⟩
    · rintro σ H' ⟨x2, x3, x4, x5, x6, x7, d, tb, rfl, _⟩
      exact kQ _
end
end Dk

set_option maxHeartbeats 8000000
namespace Dk
open PySem PySem.Spec PyProof.Rows L2
theorem all_mk {l : PySem.W.OpenLaw} {w : World} {K : PySem.W.Frag} {h : Heap} {mg : Str → Option Value} {fa f1 f2 f3 f4 f5 f6 f7 f8 f9 : Addr} (X : K.In h) (G : h.Ns mainGlobals mg) (hfa : mg "law" = some (.ref fa))
    {od1 an1 : Option Addr} {sl1 : Array (Option Value)} {oc1 kV1 dc1 pm1 cd1 ct1 : Value}
    {od2 an2 : Option Addr} {sl2 : Array (Option Value)} {oc2 kV2 dc2 pm2 cd2 ct2 : Value}
    {od3 an3 : Option Addr} {sl3 : Array (Option Value)} {oc3 kV3 dc3 pm3 cd3 ct3 : Value}
    {od4 an4 : Option Addr} {sl4 : Array (Option Value)} {oc4 kV4 dc4 pm4 cd4 ct4 : Value}
    {od5 an5 : Option Addr} {sl5 : Array (Option Value)} {oc5 kV5 dc5 pm5 cd5 ct5 : Value}
    {od6 an6 : Option Addr} {sl6 : Array (Option Value)} {oc6 kV6 dc6 pm6 cd6 ct6 : Value}
    {od7 an7 : Option Addr} {sl7 : Array (Option Value)} {oc7 kV7 dc7 pm7 cd7 ct7 : Value}
    {od8 an8 : Option Addr} {sl8 : Array (Option Value)} {oc8 kV8 dc8 pm8 cd8 ct8 : Value}
    {od9 an9 : Option Addr} {sl9 : Array (Option Value)} {oc9 kV9 dc9 pm9 cd9 ct9 : Value}
    (a1 : PySem.W.nsIn K mainGlobals "answer_of" = some (some (.ref f1)))
    (l1 : K.lookup f1 = some ⟨oc1, od1, .func (PySem.W.fnOf "answer_of" "answer_of" (defArgs sAns) (defBody sAns) (defScope sAns) .none kV1 dc1 pm1 an1 cd1 ct1), sl1⟩)
    (c1 : PySem.W.codeIn K cd1 "answer_of" = true)
    (k1 : PySem.W.keepIn K (.ref f1) = true)
    (a2 : PySem.W.nsIn K mainGlobals "after_call" = some (some (.ref f2)))
    (l2 : K.lookup f2 = some ⟨oc2, od2, .func (PySem.W.fnOf "after_call" "after_call" (defArgs sAft) (defBody sAft) (defScope sAft) .none kV2 dc2 pm2 an2 cd2 ct2), sl2⟩)
    (c2 : PySem.W.codeIn K cd2 "after_call" = true)
    (k2 : PySem.W.keepIn K (.ref f2) = true)
    (a3 : PySem.W.nsIn K mainGlobals "_law_cell" = some (some (.ref f3)))
    (l3 : K.lookup f3 = some ⟨oc3, od3, .func (PySem.W.fnOf "_law_cell" "_law_cell" (defArgs sLCell) (defBody sLCell) (defScope sLCell) .none kV3 dc3 pm3 an3 cd3 ct3), sl3⟩)
    (c3 : PySem.W.codeIn K cd3 "_law_cell" = true)
    (k3 : PySem.W.keepIn K (.ref f3) = true)
    (a4 : PySem.W.nsIn K mainGlobals "_law_digits" = some (some (.ref f4)))
    (l4 : K.lookup f4 = some ⟨oc4, od4, .func (PySem.W.fnOf "_law_digits" "_law_digits" (defArgs sLDig) (defBody sLDig) (defScope sLDig) .none kV4 dc4 pm4 an4 cd4 ct4), sl4⟩)
    (c4 : PySem.W.codeIn K cd4 "_law_digits" = true)
    (k4 : PySem.W.keepIn K (.ref f4) = true)
    (a5 : PySem.W.nsIn K mainGlobals "_law_many" = some (some (.ref f5)))
    (l5 : K.lookup f5 = some ⟨oc5, od5, .func (PySem.W.fnOf "_law_many" "_law_many" (defArgs sLMany) (defBody sLMany) (defScope sLMany) .none kV5 dc5 pm5 an5 cd5 ct5), sl5⟩)
    (c5 : PySem.W.codeIn K cd5 "_law_many" = true)
    (k5 : PySem.W.keepIn K (.ref f5) = true)
    (a6 : PySem.W.nsIn K mainGlobals "_law_call" = some (some (.ref f6)))
    (l6 : K.lookup f6 = some ⟨oc6, od6, .func (PySem.W.fnOf "_law_call" "_law_call" (defArgs sLCall) (defBody sLCall) (defScope sLCall) .none kV6 dc6 pm6 an6 cd6 ct6), sl6⟩)
    (c6 : PySem.W.codeIn K cd6 "_law_call" = true)
    (k6 : PySem.W.keepIn K (.ref f6) = true)
    (a7 : PySem.W.nsIn K mainGlobals "_law_answer" = some (some (.ref f7)))
    (l7 : K.lookup f7 = some ⟨oc7, od7, .func (PySem.W.fnOf "_law_answer" "_law_answer" (defArgs sLAns) (defBody sLAns) (defScope sLAns) .none kV7 dc7 pm7 an7 cd7 ct7), sl7⟩)
    (c7 : PySem.W.codeIn K cd7 "_law_answer" = true)
    (k7 : PySem.W.keepIn K (.ref f7) = true)
    (a8 : PySem.W.nsIn K mainGlobals "_law_after" = some (some (.ref f8)))
    (l8 : K.lookup f8 = some ⟨oc8, od8, .func (PySem.W.fnOf "_law_after" "_law_after" (defArgs sLAft) (defBody sLAft) (defScope sLAft) .none kV8 dc8 pm8 an8 cd8 ct8), sl8⟩)
    (c8 : PySem.W.codeIn K cd8 "_law_after" = true)
    (k8 : PySem.W.keepIn K (.ref f8) = true)
    (a9 : PySem.W.nsIn K mainGlobals "law" = some (some (.ref f9)))
    (l9 : K.lookup f9 = some ⟨oc9, od9, .func (PySem.W.fnOf "law" "law" (defArgs sLaw) (defBody sLaw) (defScope sLaw) .none kV9 dc9 pm9 an9 cd9 ct9), sl9⟩)
    (c9 : PySem.W.codeIn K cd9 "law" = true)
    (k9 : PySem.W.keepIn K (.ref f9) = true)
    (z_isinstance : PySem.W.nsIn K mainGlobals "isinstance" = some none)
    (z_int : PySem.W.nsIn K mainGlobals "int" = some none)
    (z_bool : PySem.W.nsIn K mainGlobals "bool" = some none)
    (z_tuple : PySem.W.nsIn K mainGlobals "tuple" = some none)
    (z_range : PySem.W.nsIn K mainGlobals "range" = some none)
    (z_len : PySem.W.nsIn K mainGlobals "len" = some none)
    (z_min : PySem.W.nsIn K mainGlobals "min" = some none)
    (z_dict : PySem.W.nsIn K mainGlobals "dict" = some none)
    : ∃ fd : FuncData, (∀ (s : Shared) (v : Value), BindsTo s fd ⟨[v], []⟩ [("script", v)]) ∧ ∀ base : Heap, K.In base → base.Ns mainGlobals mg → FnOk l.prog w K mg base CX0 3 fa fd ["script"] (spLaw K) := by
  have e := hfa.symm.trans (PySem.W.mg_of X G a9)
  cases e
  have F1 := fun_mk (st := sAns) l1 c1 k1
  have b1 := F1.binds (ps := ["plain", "call"]) fun _ _ _ _ _ _ us hl => match us, hl with | [_, _], _ => rfl
  have T_answer_of : GT K mg "answer_of" sAns ["plain", "call"] := ⟨_, _, F1, PySem.W.mg_of X G a1, b1⟩
  have F2 := fun_mk (st := sAft) l2 c2 k2
  have b2 := F2.binds (ps := ["plain", "call"]) fun _ _ _ _ _ _ us hl => match us, hl with | [_, _], _ => rfl
  have T_after_call : GT K mg "after_call" sAft ["plain", "call"] := ⟨_, _, F2, PySem.W.mg_of X G a2, b2⟩
  have F3 := fun_mk (st := sLCell) l3 c3 k3
  have b3 := F3.binds (ps := ["script", "k"]) fun _ _ _ _ _ _ us hl => match us, hl with | [_, _], _ => rfl
  have T__law_cell : GT K mg "_law_cell" sLCell ["script", "k"] := ⟨_, _, F3, PySem.W.mg_of X G a3, b3⟩
  have F4 := fun_mk (st := sLDig) l4 c4 k4
  have b4 := F4.binds (ps := ["cell", "bases"]) fun _ _ _ _ _ _ us hl => match us, hl with | [_, _], _ => rfl
  have T__law_digits : GT K mg "_law_digits" sLDig ["cell", "bases"] := ⟨_, _, F4, PySem.W.mg_of X G a4, b4⟩
  have F5 := fun_mk (st := sLMany) l5 c5 k5
  have b5 := F5.binds (ps := ["script", "few", "many"]) fun _ _ _ _ _ _ us hl => match us, hl with | [_, _, _], _ => rfl
  have T__law_many : GT K mg "_law_many" sLMany ["script", "few", "many"] := ⟨_, _, F5, PySem.W.mg_of X G a5, b5⟩
  have F6 := fun_mk (st := sLCall) l6 c6 k6
  have b6 := F6.binds (ps := ["cell"]) fun _ _ _ _ _ _ us hl => match us, hl with | [_], _ => rfl
  have T__law_call : GT K mg "_law_call" sLCall ["cell"] := ⟨_, _, F6, PySem.W.mg_of X G a6, b6⟩
  have F7 := fun_mk (st := sLAns) l7 c7 k7
  have b7 := F7.binds (ps := ["table", "call"]) fun _ _ _ _ _ _ us hl => match us, hl with | [_, _], _ => rfl
  have T__law_answer : GT K mg "_law_answer" sLAns ["table", "call"] := ⟨_, _, F7, PySem.W.mg_of X G a7, b7⟩
  have F8 := fun_mk (st := sLAft) l8 c8 k8
  have b8 := F8.binds (ps := ["table", "call"]) fun _ _ _ _ _ _ us hl => match us, hl with | [_, _], _ => rfl
  have T__law_after : GT K mg "_law_after" sLAft ["table", "call"] := ⟨_, _, F8, PySem.W.mg_of X G a8, b8⟩
  have F9 := fun_mk (st := sLaw) l9 c9 k9
  have Bn0 : Bn mg := ⟨PySem.W.mg_none_of X G z_isinstance, PySem.W.mg_none_of X G z_int, PySem.W.mg_none_of X G z_bool, PySem.W.mg_none_of X G z_tuple, PySem.W.mg_none_of X G z_range, PySem.W.mg_none_of X G z_len, PySem.W.mg_none_of X G z_min, PySem.W.mg_none_of X G z_dict⟩
  refine ⟨PySem.W.fnOf "law" "law" (defArgs sLaw) (defBody sLaw) (defScope sLaw) .none kV9 dc9 pm9 an9 cd9 ct9, fun s v => .of_eq rfl, fun base _ _ => ?_⟩
  have Gan := go_ans (P := l.prog) (w := w) (base := base) T_answer_of Bn0
  have Gaf := go_aft T_after_call Bn0 Gan
  have Gce := go_cell (P := l.prog) (w := w) (base := base) T__law_cell Bn0
  have Gdi := go_digs (P := l.prog) (w := w) (base := base) T__law_digits Bn0
  have Gma := go_many (P := l.prog) (w := w) (base := base) T__law_many Bn0
  have Gca := go_call T__law_call Bn0 Gdi
  have Gln := go_lans (P := l.prog) (w := w) (base := base) T__law_answer Bn0
  have Glf := go_laft T__law_after Bn0 Gln
  exact ok_law F9 Bn0 Gan Gaf Gce Gma Gca Gln Glf
theorem walk {l : PySem.W.OpenLaw} {q : Program} {loose : List Str} {XP : (Str → Option Value) → Heap → Prop} {YP : World → Heap → Prop} {d : DefRec} {K : Params → PySem.W.Frag} (hn : l.most = some 63) (hdf : d.params.defaults = [])
    (hY : ∀ (w : World) (h : Heap), YP w h → (K w.params).In h)
    (F : ∀ (w : World) (mg : Str → Option Value) (fa : Addr) (h : Heap), (K w.params).In h → h.Ns mainGlobals mg → mg d.name = some (.ref fa) →
      ∃ fd : FuncData, (∀ (s : Shared) (u : Value), BindsTo s fd ⟨[u], []⟩ [("script", u)]) ∧ ∀ base : Heap, (K w.params).In base → base.Ns mainGlobals mg → FnOk l.prog w (K w.params) mg base CX0 3 fa fd ["script"] (spLaw (K w.params))) :
    PySem.W.WalkO q loose XP YP l.row.toRowW d [] (fun f vs => PySem.call f vs) :=
  L2.walk_of (n := 63) (k := 3) (x := "script") (CX := fun _ => CX0) (sp := fun w => spLaw (K w.params)) hn (by decide) hdf ⟨rfl, by decide, by decide⟩ hY F (fun _ _ a ns hl _ hS => ⟨a, ns, rfl, hS, hl, fun _ => rfl⟩) fun _ _ _ _ _ z => z
end Dk
open PySem PySem.W PyProof.Rows
set_option maxRecDepth 100000 in
set_option maxHeartbeats 0 in
theorem PySem.Challenge.cw_driftkept_k23_calls_on_plain_maps_holds : PySem.Challenge.rw_driftkept_k23_calls_on_plain_maps.Holds := by
  w_on; o_law; k_head; (case hw => w_witness2)
  k_fill
  refine Dk.walk (l := PySem.Challenge.rw_driftkept_k23_calls_on_plain_maps) rfl rfl (fun w h Y => PySem.W.kIn_of Y) ?F
  case F =>
    intro w mg fa h KX G hmg
    refine' Dk.all_mk KX G hmg ?a1 ?l1 ?c1 ?k1 ?a2 ?l2 ?c2 ?k2 ?a3 ?l3 ?c3 ?k3 ?a4 ?l4 ?c4 ?k4 ?a5 ?l5 ?c5 ?k5 ?a6 ?l6 ?c6 ?k6 ?a7 ?l7 ?c7 ?k7 ?a8 ?l8 ?c8 ?k8 ?a9 ?l9 ?c9 ?k9 ?z_isinstance ?z_int ?z_bool ?z_tuple ?z_range ?z_len ?z_min ?z_dict
    (case a1 => k_is)
    (case l1 => k_is)
    (case c1 => k_is)
    (case k1 => k_is)
    (case a2 => k_is)
    (case l2 => k_is)
    (case c2 => k_is)
    (case k2 => k_is)
    (case a3 => k_is)
    (case l3 => k_is)
    (case c3 => k_is)
    (case k3 => k_is)
    (case a4 => k_is)
    (case l4 => k_is)
    (case c4 => k_is)
    (case k4 => k_is)
    (case a5 => k_is)
    (case l5 => k_is)
    (case c5 => k_is)
    (case k5 => k_is)
    (case a6 => k_is)
    (case l6 => k_is)
    (case c6 => k_is)
    (case k6 => k_is)
    (case a7 => k_is)
    (case l7 => k_is)
    (case c7 => k_is)
    (case k7 => k_is)
    (case a8 => k_is)
    (case l8 => k_is)
    (case c8 => k_is)
    (case k8 => k_is)
    (case a9 => k_is)
    (case l9 => k_is)
    (case c9 => k_is)
    (case k9 => k_is)
    (case z_isinstance => k_is)
    (case z_int => k_is)
    (case z_bool => k_is)
    (case z_tuple => k_is)
    (case z_range => k_is)
    (case z_len => k_is)
    (case z_min => k_is)
    (case z_dict => k_is)

