import PyProof.Rows.All
import Wide.All
import OpenK.AllK
import Wide.FinOn
import HandS.ForMost
import HandS.ForExc
import HandS.IsInst
import HandS.ExcIs
import HandS.DictComp
import HandS.Style
import HandS.Walk
import HandS.SortInts
import HandS.Star
import HandS.SortRule
import HandS.ListItems
import HandS.Zip
import HandS.Codes
import PySem.Challenge.RW_driftkept_k13_records_are_tables
set_option Elab.async false
set_option linter.all false
set_option maxRecDepth 100000
set_option maxHeartbeats 4000000
/-! general rules -/
namespace Dk
open PySem PySem.Spec PyProof.Rows L2
/-- a def of the top keeps a promise -/
def GO (P : Program) (w : World) (K : PySem.W.Frag) (mg : Str → Option Value) (base : Heap) (CX : CXT) (k : Nat) (x : Str) (ps : List Str) (sp : Sp) : Prop :=
  ∃ f fd, FnOk P w K mg base CX k f fd ps sp ∧ mg x = some (.ref f) ∧ PySem.W.keepIn K (.ref f) = true ∧ Binds K fd ps []
def MO (P : Program) (w : World) (K : PySem.W.Frag) (mg : Str → Option Value) (base : Heap) (CX : CXT) (C : Addr) (k : Nat) (m : Str) (ps : List Str) (sp : Sp) : Prop :=
  ∃ f fd, FnOk P w K mg base CX k f fd ps sp ∧ Meth K C m f ∧ Binds K fd ps []
/-- where a def of the top, a method stands -/
def GT (K : PySem.W.Frag) (mg : Str → Option Value) (x : Str) (st : Stmt) (ps : List Str) : Prop := ∃ f fd, Fun K x x st f fd ∧ mg x = some (.ref f) ∧ Binds K fd ps []
def MT (K : PySem.W.Frag) (C : Addr) (m qual : Str) (st : Stmt) (ps : List Str) : Prop := ∃ f fd, Fun K m qual st f fd ∧ Meth K C m f ∧ Binds K fd ps []
section
variable {X : Cx} {CX : CXT} {k : Nat} {f C : Addr} {fd : FuncData} {ps : List Str} {sp : Sp} {x m : Str} {p pos apos : Pos} {e o : Expr} {es : List Expr} {ta : TE} {t : TA}
theorem pc_ (G : GO X.prog X.w X.K X.mg X.base CX0 k x ps sp) (hr : Room k X.A) (ha : PA X (e :: es) t) (hg : Gl X x := by rfl) (hdb : (x == ("__debug__" : Str)) = false := by decide)
    (he : starEach (e :: es) X.env = (false, eval e X.env) :: starEach es X.env := by rfl) (hpl : (backTo pos (starEach es X.env)).any (·.1) = false := by rfl) : PE X (.Call (.Name x p) (e :: es) [] pos) (tCall sp [] E0 t) := by
  obtain ⟨f, fd, F, hm, hk, hb⟩ := G
  exact pe_call F hr hg hm hk hb .nil pass0 ha hdb he hpl
theorem pm_ {pl : Sem Bool} (G : MO X.prog X.w X.K X.mg X.base CX0 C k m ps sp) (c : Cls X.K C) (hr : Room k X.A) (he : PE X o ta) (ha : PA X (e :: es) t)
    (hst : starEach (e :: es) X.env = (false, eval e X.env) :: starEach es X.env := by rfl) (hpl : (backTo pos (starEach es X.env)).any (·.1) = false := by rfl)
    (ht : eval (.Call (.Attribute o m apos) (e :: es) [] pos) X.env = (do
      let ov ← eval o X.env
      standAt apos.atName
      let (f, first) ← holding [ov] (getMethod ov m pl)
      callWith pos f first (backTo pos (starEach (e :: es) X.env)) (backToKw pos (keywordEach [] X.env))) := by rfl) : PE X (.Call (.Attribute o m apos) (e :: es) [] pos) (tMeth C m sp [] E0 ta t) := by
  obtain ⟨f, fd, F, hm, hb⟩ := G
  exact pe_meth he c hm F hr hb .nil pass0 ha hst hpl ht
theorem pm0_ {pl : Sem Bool} (G : MO X.prog X.w X.K X.mg X.base CX0 C k m ps sp) (c : Cls X.K C) (hr : Room k X.A) (he : PE X o ta)
    (ht : eval (.Call (.Attribute o m apos) [] [] pos) X.env = (do
      let ov ← eval o X.env
      standAt apos.atName
      let (f, first) ← holding [ov] (getMethod ov m pl)
      callWith pos f first (backTo pos (starEach [] X.env)) (backToKw pos (keywordEach [] X.env))) := by rfl) : PE X (.Call (.Attribute o m apos) [] [] pos) (tMeth C m sp [] E0 ta tNil) := by
  obtain ⟨f, fd, F, hm, hb⟩ := G
  exact pe_meth0 he c hm F hr hb .nil pass0 ht
/-- a method that may raise, called at the slots -/
def tMethE (C : Addr) (m : Str) (sp : Sp) (E : L2.St → XK) (ta : TE) (t : TA) : TE := fun σ H Q => ta σ H fun x H1 => ∃ a dx fs, x = .ref a ∧ H1 a = some (.ins C dx fs) ∧ fs.lookup m = none ∧
  t σ H1 fun vs H2 => sp (x :: vs) H2 Q (E σ)
theorem pmE_ {pl : Sem Bool} {E : L2.St → XK} (G : MO X.prog X.w X.K X.mg X.base CX C k m ps sp) (c : Cls X.K C) (hr : Room k X.A) (hx : ∀ σ, PassesAt CX X σ (E σ)) (he : PE X o ta) (ha : PA X (e :: es) t)
    (hst : starEach (e :: es) X.env = (false, eval e X.env) :: starEach es X.env := by rfl) (hpl : (backTo pos (starEach es X.env)).any (·.1) = false := by rfl)
    (ht : eval (.Call (.Attribute o m apos) (e :: es) [] pos) X.env = (do
      let ov ← eval o X.env
      standAt apos.atName
      let (f, first) ← holding [ov] (getMethod ov m pl)
      callWith pos f first (backTo pos (starEach (e :: es) X.env)) (backToKw pos (keywordEach [] X.env))) := by rfl) : PE X (.Call (.Attribute o m apos) (e :: es) [] pos) (tMethE C m sp E ta t) := by
  obtain ⟨f, fd, F, hm, hb⟩ := G
  refine ⟨fun pins s σ H Q I h => ?_⟩
  refine PySem.W.methodCall_KW (pl := pl) (thn (he.run pins s σ H _ I h) fun u s1 ⟨x, H1, I1, rx, a, dx, fs, ex, ea, l, q⟩ => ?_) ht
  subst ex
  obtain rfl : u = Value.ref a := rx
  refine getmeth_ok I1 ea c hm l ?_
  refine PySem.W.callWith_K (first := [.ref a]) (h₀ := X.base) I.ok.mod.kin hm.kp (thn (ha.run pos pins s1 σ H1 _ I1 q) fun us s2 ⟨vs, H2, I2, r, q2⟩ => ⟨I2.kIn, ?_⟩) hst hpl
  exact run_fnS (us := .ref a :: us) (vs := .ref a :: vs) F hr hb (hx σ) I2 (.cons rfl r) q2
/-- C(e, ..) where __init__ may raise, at the slots -/
def tMakeE (C : Addr) (sp : Sp) (E : L2.St → XK) (t : TA) : TE := fun σ H Q => t σ H fun vs H1 => ∀ x dx, H1 x = none → H1 dx = none → dx ≠ x →
  sp (.ref x :: vs) (upd (upd H1 dx (.own x)) x (.ins C dx [])) (fun v H2 => v = .non ∧ Q (.ref x) H2) (fun cls d H2 => E σ cls d H2)
theorem run_makeE {pins : List (Addr × Obj)} {σ : L2.St} {H : Hp} {s : Shared} {Q : VK} {E : XK} {us : List Value} {vs : List V} (M : Mk X.K C f) (F : FnOk X.prog X.w X.K X.mg X.base CX k f fd ps sp) (hr : Room (k + 1) X.A) (hb : Binds X.K fd ps [])
    (hx : PassesAt CX X σ E) (I : Inv X pins σ H s) (r : Vals vs us)
    (h : ∀ x dx, H x = none → H dx = none → dx ≠ x → sp (.ref x :: vs) (upd (upd H dx (.own x)) x (.ins C dx [])) (fun v H2 => v = .non ∧ Q (.ref x) H2) E) :
    wpAny (model X.prog X.w) X.A (call (.ref C) us) (EP X pins σ Q) X.xe s := by
  have hq := h (s.heap.objs.size + 1) s.heap.objs.size (I.hok.fresh (Nat.le_succ _)) (I.hok.fresh (Nat.le_refl _)) (Nat.ne_of_lt (Nat.lt_succ_self _))
  have I2 := Inv.made (C := C) I
  have r2 : Vals (V.ref (s.heap.objs.size + 1) :: vs) (Value.ref (s.heap.objs.size + 1) :: us) := .cons rfl r
  have hl : (Value.ref (s.heap.objs.size + 1) :: us ++ []).length = ps.length := by
    have e := r2.length
    rw [F.len _ _ _ _ hq] at e
    rw [List.append_nil]
    exact e.symm
  have b := hb _ (Value.ref (s.heap.objs.size + 1) :: us) I2.kIn hl
  rw [List.append_nil] at b
  refine wpAny_call (make_map (f := f) I.kIn M.makes M.init (beq_iff_eq.mp M.fn) (codeAny_mono (F.run _ X.stack _ _ ⟨Value.ref (s.heap.objs.size + 1) :: us, []⟩ (Value.ref (s.heap.objs.size + 1) :: us) _ _ E (hr.make C us [])
    (I2.env0.make C us []) b r2 hq) fun r s' hq' => ?_))
  cases r with
  | error e => exact hx pins _ _ e s' I2 hq'
  | ok fl =>
    cases fl with
    | ret u =>
      obtain ⟨v, H', I3, rv, ev, q3⟩ := I2.after hq'
      subst ev
      exact ⟨rv, ⟨V.ref (s.heap.objs.size + 1), H', I3, rfl, q3⟩⟩
    | next => exact False.elim hq'
    | brk => exact False.elim hq'
    | cont => exact False.elim hq'
theorem pe_makeE {E : L2.St → XK} (M : Mk X.K C f) (F : FnOk X.prog X.w X.K X.mg X.base CX k f fd ps sp) (hr : Room (k + 1) X.A) (hg : Gl X x) (hm : X.mg x = some (.ref C)) (hb : Binds X.K fd ps []) (hx : ∀ σ, PassesAt CX X σ (E σ))
    (ha : PA X (e :: es) t) (hdb : (x == ("__debug__" : Str)) = false := by decide) (he : starEach (e :: es) X.env = (false, eval e X.env) :: starEach es X.env := by rfl) (hpl : (backTo pos (starEach es X.env)).any (·.1) = false := by rfl) :
    PE X (.Call (.Name x p) (e :: es) [] pos) (tMakeE C sp E t) := by
  refine ⟨fun pins s σ H Q I h => ?_⟩
  refine wpAny_Call_Name_kw (ld_glob I hg hm ?_ hdb)
  refine PySem.W.callWith_K (h₀ := X.base) I.ok.mod.kin M.kp (thn (ha.run pos pins s σ H _ I h) fun us s1 ⟨vs, H1, I1, r, q⟩ => ⟨I1.kIn, ?_⟩) he hpl
  exact run_makeE M F hr hb (hx σ) I1 r q
end
section
variable {X : Cx} {C : Addr} {bmB : List Value} {B newId initId : String}
/-- X() -/
theorem pmk_own0 {x : Str} {p pos : Pos} (F : ExcBaseFacts B newId initId bmB) (q : PySem.W.excIn X.K C bmB newId = true) (gC : X.mg x = some (.ref C)) (kC : PySem.W.keepIn X.K (.ref C) = true) (r : Raises X (.ref C)) (hg : Gl X x)
    (hdb : (x == ("__debug__" : Str)) = false := by decide) : PMk X (.Call (.Name x p) [] [] pos) (fun _ H Q => Q (.ref C) none H) := by
  intro pins s σ H Q I h
  refine wpAny_Call_Name_kw (ld_glob I hg gC ?_ hdb)
  refine PySem.W.callWith_K0 I.kIn kC ?_
  show wpAny _ _ (call (.ref C) []) _ _ _
  obtain ⟨bm, N, nm, qn, bs, hdct, sn, sub, ab, col, dd, k0, k1, k2, k3, k5, mN, hC, hN, hni, T⟩ := exc_obj I.kIn q
  refine wpAny_call_exc_subT F T hC hN hni (fun h' e hm => ?_) (by show 0 ≤ sizeLine; exact Nat.zero_le _)
  exact mk_of I hm r h (I.hok.gone hm.new)
end
/-- a dict comprehension over a walk -/
theorem dc_it {J : It} {n : Nat} {G : Hp → Prop} {Y : Nat → Hp → V → Hp → Prop} (w : Walk J n G Y) {g : TG} {tt : TT} {tk tv : TE} {vs : List Nat} {σ : L2.St} {H1 : Hp} {D : Addr} {Qd : Hp → Prop} (Pv : Nat → Hp → Prop) (h0 : Pv 0 (upd H1 D (.dK []))) (hG : ∀ i H, i ≤ n → Pv i H → G H)
    (hs : ∀ i x H H', i < n → Pv i H → Y i H x H' → g x (wipe σ vs) H' fun σ2 H2 => wipe σ2 vs = wipe σ vs ∧ tt σ2 H2 fun b H3 =>
      if b = true then tk σ2 H3 fun y H4 => tv σ2 H4 fun z H5 => ∃ kvs k, y = kV k ∧ H5 D = some (.dK kvs) ∧ kvs.length < sizeLine ∧ Pv (i + 1) (upd H5 D (.dK (putK kvs k z))) else Pv (i + 1) H3) (hd : ∀ H, Pv n H → Qd H) :
    ∃ W : Nat → Nat → Hp → Prop, (∃ m, W 0 m (upd H1 D (.dK []))) ∧ ∀ i m H, W i m H →
      (J.stop i H ∧ Qd H) ∨ (J.go i H ∧ ∃ Nx : Hp → Prop, (∀ H', Nx H' → ∃ m', m' < m ∧ W (i + 1) m' H') ∧ ∀ x H', J.yld i H x H' → g x (wipe σ vs) H' fun σ2 H2 => wipe σ2 vs = wipe σ vs ∧ tt σ2 H2 fun b H3 =>
        if b = true then tk σ2 H3 fun y H4 => tv σ2 H4 fun z H5 => ∃ kvs k, y = kV k ∧ H5 D = some (.dK kvs) ∧ kvs.length < sizeLine ∧ Nx (upd H5 D (.dK (putK kvs k z))) else Nx H3) := by
  refine ⟨fun i m H => m = n - i ∧ i ≤ n ∧ Pv i H, ⟨n, by simp, Nat.zero_le _, h0⟩, ?_⟩
  rintro i m H ⟨rfl, hi, p⟩
  have q := hG i H hi p
  by_cases hlt : i < n
  · refine .inr ⟨w.goes i H hlt q, Pv (i + 1), fun H' p' => ⟨n - (i + 1), by omega, rfl, hlt, p'⟩, fun x H' y => hs i x H H' hlt p (w.yields i H x H' hlt q y)⟩
  · have e : i = n := by omega
    subst e
    exact .inl ⟨w.stops H q, hd H p⟩
end Dk

set_option maxHeartbeats 4000000
/-! sorted(d.items()), d with int keys and int values -/
namespace Rt
open PySem PySem.Spec PyProof.Rows L2 LiI
theorem pair_fun {h : Heap} {v : Value} {x y x' y' : Int} (p : Srt.IsPair h v x y) (q : Srt.IsPair h v x' y') : x = x' ∧ y = y' := by
  obtain ⟨a, o, t, u, n, rfl, h1, _, d1⟩ := p
  obtain ⟨b, o', t', u', n', e, h2, _, d2⟩ := q
  cases e
  rw [h1] at h2
  cases h2
  rw [d1] at d2
  injection d2 with d3 _
  have e := congrArg Array.toList d3
  simp at e
  exact ⟨e.1.1, e.2.1⟩
open Classical in
noncomputable def kOf (h : Heap) (v : Value) : Int × Int := if q : ∃ p : Int × Int, Srt.IsPair h v p.1 p.2 then choose q else (0, 0)
theorem kOf_eq {h : Heap} {v : Value} {n : Int × Int} (p : Srt.IsPair h v n.1 n.2) : kOf h v = n := by
  unfold kOf
  have q : ∃ p : Int × Int, Srt.IsPair h v p.1 p.2 := ⟨n, p⟩
  rw [dif_pos q]
  obtain ⟨e1, e2⟩ := pair_fun (Classical.choose_spec q) p
  exact Prod.ext e1 e2
def addrOf : Value → Addr
  | .ref a => a
  | _ => 0
theorem paired_map {α β γ : Type} {F : β → γ → Prop} {f : α → β} {g : α → γ} : ∀ {l : List α}, (∀ v ∈ l, F (f v) (g v)) → Paired F (l.map f) (l.map g)
  | [], _ => .nil
  | v :: l, h => .cons (h v List.mem_cons_self) (paired_map fun u hu => h u (List.mem_cons_of_mem _ hu))
section
variable {X : Cx} {e : Expr} {te : TE} {p apos cpos pos : Pos}
theorem laid {pins : List (Addr × Obj)} {σ : L2.St} {H : Hp} {s : Shared} {h3 : Heap} {tk : Nat} {kvs : List (Key × V)} {vs : List (Key × Value)} {out : Array Value} {outs : List Addr} {c : Nat} {as : List Addr} {P : Addr} (I : Inv X pins σ H s) (kv : KV kvs vs)
    (hk : ∀ b o, s.heap.get? b = some o → h3.get? b = some o) (hP : s.heap.objs.size ≤ P) (hPn : P ∉ as) (hS : h3.get? P = some (seqObj "list" out c)) (hl : as.length = vs.length) (hG : PySem.W.KdxG (mixKind X.prog X.w) vs s.heap.objs.size h3 as) (ho : out.toList = outs.map Value.ref) (hol : outs.length ≤ sizeLine) :
    ∃ H' : Hp, (∀ b o, H b = some o → H' b = some o) ∧ H P = none ∧ (∀ t ∈ as, H t = none) ∧ H' P = some (.lst (outs.map V.ref)) ∧ Paired (fun (t : Addr) (q : Key × V) => H' t = some (.tup [kV q.1, q.2])) as kvs ∧ Inv X pins σ H' { s with heap := h3, toks := tk } := by
  have lk : kvs.length = vs.length := Paired.length kv
  have nd : as.Nodup := List.Pairwise.imp (fun {a b} (h : a < b) => Nat.ne_of_lt h) hG.rise
  have new : ∀ t ∈ as, H t = none := fun t ht => I.hok.fresh (Nat.le_of_lt (hG.above t ht))
  have newS : H P = none := I.hok.fresh hP
  have atP := putT_at as kvs (upd H P (.lst (outs.map V.ref))) (by omega) nd
  have off : ∀ b, b ∉ as → b ≠ P → putT (upd H P (.lst (outs.map V.ref))) as kvs b = H b := fun b h1 h2 => by rw [putT_off as kvs _ h1, upd_ne h2]
  have low : ∀ b o, s.heap.get? b = some o → b ∉ as ∧ b ≠ P := fun b o e => ⟨fun z => absurd (Heap.lt_size e) (Nat.not_lt.mpr (Nat.le_of_lt (hG.above b z))), Nat.ne_of_lt (Nat.lt_of_lt_of_le (Heap.lt_size e) hP)⟩
  have kp : ∀ b u, H b = some u → (putT (upd H P (.lst (outs.map V.ref))) as kvs) b = some u := fun b u e => by
    rw [off b (fun z => by rw [new b z] at e; cases e) (fun z => by rw [z, newS] at e; cases e)]
    exact e
  have eS : putT (upd H P (.lst (outs.map V.ref))) as kvs P = some (.lst (outs.map V.ref)) := by rw [putT_off as kvs _ hPn, upd_same]
  refine ⟨putT (upd H P (.lst (outs.map V.ref))) as kvs, kp, newS, new, eS, atP, ?_⟩
  refine I.call' (ch := []) rfl ⟨fun b o q _ _ _ => hk b o q, fun b o q _ _ _ => ⟨o.slots, hk b o q⟩, fun b o q n _ => ?_, fun b o q _ => ⟨o, hk b o q⟩, fun b xs q => kp b _ q, fun b o u q => kp b _ q, fun b ps q => ⟨#[], by rw [kp b _ q]; simp⟩⟩ (fun b u q => ?_) I.bare fun b z => by simp at z
  · obtain ⟨z1, z2⟩ := low b o q
    rw [off b z1 z2]
    exact n
  · by_cases hb : b ∈ as
    · obtain ⟨j, pk, e1, e2, e3⟩ := paired_ix atP hb
      rw [e3] at q
      cases q
      obtain ⟨key, k, x, f1, f2, f3⟩ := hG.pairs j b e1
      obtain ⟨qv, g1, g2, g3⟩ := LiI.paired_get kv e2
      rw [f1] at g1
      cases g1
      have rk : RelV (kV pk.1) key := by
        rw [g2]
        exact relV_key (show keyIs k key = true from f2)
      exact ⟨by show 2 ≤ sizeLine; decide, [key, x], .cons rk (.cons g3 .nil), ⟨_, f3, rfl, _, rfl⟩⟩
    · by_cases hb2 : b = P
      · rw [hb2] at q ⊢
        rw [eS] at q
        cases q
        refine ⟨by rw [List.length_map]; omega, out.toList, c, by rw [ho]; exact vals_refs outs, ?_⟩
        rw [Array.toArray_toList]
        exact hS
      · rw [off b hb hb2] at q
        exact (I.hok b u q).stay (fun d v _ y => hk d v y) (fun d y => kp d _ y) fun d xs y => kp d _ y
def kvI (ns : List (Int × Int)) : List (Key × V) := ns.map fun n => (Sum.inl n.1, V.int n.2)
def rItemsS : V → Hp → VK → Prop := fun x H Q => ∃ (d : Addr) (ns : List (Int × Int)), x = .ref d ∧ H d = some (.dK (kvI ns)) ∧
  ∀ (H' : Hp) (p : Addr) (ts : List Addr) (ms : List (Int × Int)), (∀ b o, H b = some o → H' b = some o) → H p = none → H' p = some (.lst (ts.map V.ref)) → Paired (fun (t : Addr) (n : Int × Int) => H' t = some (.tup [.int n.1, .int n.2])) ts ms → ms.Perm ns → ms.Pairwise (fun a b => SrtO.lexB b a = false) → Q (.ref p) H'
def tItemsS (te : TE) : TE := fun σ H Q => te σ H fun x H1 => rItemsS x H1 Q
/-- sorted(e.items()) -/
theorem pe_sortedItems (hc : X.calm = true) (he : PE X e te) (hg : Gl X "sorted") (hm : X.mg "sorted" = none) (hv : bootBuiltins "sorted" = some (.builtin "sorted")) (hbase : attributeBase e "items" X.env (eval e X.env) = eval e X.env := by rfl) (hline : (apos.endLine == cpos.line) = true := by rfl)
    (hs : starEach [.Call (.Attribute e "items" apos) [] [] cpos] X.env = (false, eval (.Call (.Attribute e "items" apos) [] [] cpos) X.env) :: starEach [] X.env := by rfl) :
    PE X (.Call (.Name "sorted" p) [.Call (.Attribute e "items" apos) [] [] cpos] [] pos) (tItemsS te) := by
  refine ⟨fun pins s σ H Q I hq => ?_⟩
  refine wpAny_Call_Name_kw (ld_blt I hg hm hv ?_)
  refine PyProof.Rows.callWith_builtin1 ?_ hs rfl
  rw [hs]
  show wpAny _ _ (spliced ((false, eval (.Call (.Attribute e "items" apos) [] [] cpos) X.env) :: backTo pos (starEach [] X.env))) _ _ s
  refine Calls.spliced_cons ?_
  refine wpAny_Call_method (T := "dict") (id := "dict.items") hbase rfl hline F.plainAttrs_dict F.slot_dict_items F.type_dict_items (thn (he.run pins s σ H _ I hq) fun u s1 ⟨x, H1, I1, rx, d, ns, ex, hd, q⟩ => ?_)
  subst ex
  obtain rfl : u = Value.ref d := rx
  obtain ⟨hz, hs0, vs, kv, hdo⟩ := I1.hok d _ hd
  obtain ⟨ep, hat⟩ := hdo.dictAt
  have lk : (kvI ns).length = vs.length := Paired.length kv
  have I2 : Inv X pins σ H1 { s1 with heap := s1.heap.push { cls := .type "dict_items", data := .fields #[.ref d] } } := I1.kept (t' := s1.toks) fun b ob q => Heap.get?_push_of_some _ q
  refine ⟨hdo.typeIs, hdo.mapOf.noDict, ?_⟩
  show wpAny _ _ (callWith cpos (.builtin "dict.items") [.ref d] [] []) _ X.xe s1
  refine method_meetsIn F.slot_dict_items F.entry_dict_items rfl (PySem.evalArgs_none ⟨rfl, hdo.typeIs, F.args_dict_items_1 _, _, meets_dict_items (mixKind X.prog X.w) d hs0, ⟨vs, hdo⟩, ?_⟩)
  refine Calls.spliced_nil ?_
  refine Calls.call_function_entry kind_sorted plain_sorted entry_sorted (args_sorted1 _) ?_
  unfold Builtin.«sorted»
  refine wpAny_bind (m := checkCount "sorted" 1 1 _) (wpAny_pure ?_)
  refine wpAny_bind (PySem.W.kdx_collect (A := X.A.in1) (knd := mixKind X.prog X.w) (kvs := vs) (ep := ep) (I1.ok.hd hc) ⟨_, Heap.get?_push_size _ rfl, rfl, rfl⟩ (hat.push _) (by omega) fun h' tk as hk hl hG => ?_)
  refine wpAny_bind (wpAny_newList ?_ (by rw [List.length_map]; omega))
  have hob : (h'.push { cls := .type "list", data := .seq (as.map Value.ref).toArray }).get? h'.objs.size = some (seqObj "list" (as.map Value.ref).toArray 0) := Heap.get?_push_size _ rfl
  have ka : ∀ b o, h'.get? b = some o → b ≠ h'.objs.size ∧ (h'.push { cls := .type "list", data := .seq (as.map Value.ref).toArray }).get? b = some o := fun b o e => ⟨Nat.ne_of_lt (Heap.lt_size e), Heap.get?_push_of_some _ e⟩
  have hsz : (h'.push { cls := .type "list", data := .seq (as.map Value.ref).toArray }).objs.size = h'.objs.size + 1 := Heap.size_push _ _
  generalize h'.push { cls := .type "list", data := .seq (as.map Value.ref).toArray } = h2 at hob ka hsz ⊢
  -- the pairs
  have pr : ∀ (j : Nat) (b : Addr), as[j]? = some b → ∃ n, ns[j]? = some n ∧ Srt.IsPair h2 (.ref b) n.1 n.2 := by
    intro j b hj
    obtain ⟨key, k, x, f1, f2, f3⟩ := hG.pairs j b hj
    have hjl : j < vs.length := (List.getElem?_eq_some_iff.mp f1).1
    have hjn : j < ns.length := by rw [← lk] at hjl; unfold kvI at hjl; rw [List.length_map] at hjl; exact hjl
    have e2 : (kvI ns)[j]? = some (Sum.inl ns[j].1, V.int ns[j].2) := by unfold kvI; rw [List.getElem?_map, List.getElem?_eq_getElem hjn]; rfl
    obtain ⟨qv, g1, g2, g3⟩ := LiI.paired_get kv e2
    rw [f1] at g1
    cases g1
    have g2 : (Sum.inl ns[j].1 : Key) = k := g2
    subst g2
    have rk : RelV (.int ns[j].1) key := relV_key (k := (Sum.inl ns[j].1 : Key)) (show keyIs (Sum.inl ns[j].1) key = true from f2)
    obtain ⟨t1, rfl⟩ := rk
    obtain ⟨t2, rfl⟩ := (show RelV (.int ns[j].2) x from g3)
    exact ⟨ns[j], List.getElem?_eq_getElem hjn, b, _, t1, t2, 0, rfl, (ka _ _ f3).2, rfl, rfl⟩
  have len : as.length = ns.length := by
    rw [hl, ← lk]
    unfold kvI
    rw [List.length_map]
  have emap : (as.map Value.ref).map (kOf h2) = ns := by
    apply List.ext_getElem (by rw [List.length_map, List.length_map, len])
    intro j h1 h3
    obtain ⟨n, e1, e2⟩ := pr j as[j] (List.getElem?_eq_getElem _)
    rw [List.getElem_map, List.getElem_map, kOf_eq e2]
    rw [List.getElem?_eq_getElem h3] at e1
    exact (Option.some.inj e1).symm
  have hp : ∀ v ∈ as.map Value.ref, Srt.IsPair h2 v (kOf h2 v).1 (kOf h2 v).2 := fun v hv => by
    obtain ⟨b, hb, rfl⟩ := List.mem_map.mp hv
    obtain ⟨j, hj⟩ := List.mem_iff_getElem?.mp hb
    obtain ⟨n, _, e⟩ := pr j b hj
    rw [kOf_eq e]
    exact e
  refine wpAny_bind (wpAny_holding (wpAny_call_entry slot_list_sort ⟨_, hob, rfl⟩ entry_list_sort (SrtO.list_sort_ord (SrtO.swo_lex (kOf h2)) hob (by rw [List.length_map]; omega) (fun h2' => SrtO.pairs_sortableO (s := { s1 with heap := h2, toks := tk }) (by omega) hp fun o e => ?_) fun out h1 hb => ⟨_, rfl, ?_⟩) (args_list_sort _)))
  · have e' : some o = some (seqObj "list" (as.map Value.ref).toArray 0) := e.symm.trans hob
    cases e'
    intro c
    exact absurd (Value.type.inj c) (by decide)
  refine wpAny_pure ⟨_, rfl, ?_⟩
  obtain ⟨en, he'⟩ := sortedHeap_at (vs := as.map Value.ref) (out := out.toArray) hob
  have k3 : ∀ b o, h'.get? b = some o → (sortedHeap h2 h'.objs.size (as.map Value.ref) out.toArray).get? b = some o := fun b o e => by
    rw [sortedHeap_old (ka b o e).1 (Heap.lt_size (ka b o e).2)]
    exact (ka b o e).2
  have hrefs : ∀ v ∈ out, ∃ b, b ∈ as ∧ v = Value.ref b := fun v hv => by
    obtain ⟨b, hb', e⟩ := List.mem_map.mp (hb.perm.mem_iff.mp hv)
    exact ⟨b, hb', e.symm⟩
  have eo : out = (out.map addrOf).map Value.ref := by
    rw [List.map_map]
    have : out.map id = out.map (Value.ref ∘ addrOf) := List.map_congr_left fun v hv => by
      obtain ⟨b, _, rfl⟩ := hrefs v hv
      rfl
    rw [List.map_id] at this
    exact this
  have hG3 : PySem.W.KdxG (mixKind X.prog X.w) vs (s1.heap.push { cls := .type "dict_items", data := .fields #[.ref d] }).objs.size (sortedHeap h2 h'.objs.size (as.map Value.ref) out.toArray) as :=
    ⟨hG.rise, hG.above, fun j a hj => by
      obtain ⟨key, k, x, f1, f2, f3⟩ := hG.pairs j a hj
      exact ⟨key, k, x, f1, f2, k3 _ _ f3⟩⟩
  have hPas : h'.objs.size ∉ as := fun z => by
    have := hG.there z
    exact Nat.lt_irrefl _ this
  have hPle : (s1.heap.push { cls := .type "dict_items", data := .fields #[.ref d] }).objs.size ≤ h'.objs.size := by
    have := Heap.lt_size (hk s1.heap.objs.size _ (Heap.get?_push_size _ rfl))
    rw [Heap.size_push]
    exact this
  have hol : out.length = as.length := by rw [hb.perm.length_eq, List.length_map]
  obtain ⟨H', q1, q2, q3, q4, q5, J⟩ := laid (tk := tk) (P := h'.objs.size) (outs := out.map addrOf) I2 kv (fun b o e => k3 _ _ (hk b o e)) hPle hPas he' hl hG3 (by rw [← eo]) (by rw [List.length_map, hol]; omega)
  refine ⟨.ref _, H', J, rfl, q H' _ (out.map addrOf) (out.map (kOf h2)) q1 q2 q4 ?_ ?_ ?_⟩
  · refine paired_map fun v hv => ?_
    obtain ⟨b, hb', rfl⟩ := hrefs v hv
    obtain ⟨j, hj⟩ := List.mem_iff_getElem?.mp hb'
    obtain ⟨n, e1, e2⟩ := pr j b hj
    rw [kOf_eq e2]
    obtain ⟨qv, g1, g2⟩ := LiI.paired_get q5 hj
    have : (kvI ns)[j]? = some (Sum.inl n.1, V.int n.2) := by unfold kvI; rw [List.getElem?_map, e1]; rfl
    rw [this] at g1
    cases g1
    exact g2
  · have := hb.perm.map (kOf h2)
    rw [emap] at this
    exact this
  · exact List.pairwise_map.mpr h1
/-- xs[i] op= e: what is read, 0 ≤ i -/
theorem pget_list : PGet X (rIxL X.K) := by
  intro pins s σ H o i ov iv Q I ro ri h
  obtain ⟨p, xs, k, z, rfl, rfl, hq, he, q⟩ := h
  cases ro
  obtain ⟨t, rfl⟩ := ri
  obtain ⟨its, r, pl, hz⟩ := I.list hq
  obtain ⟨j, h1, h2, h3, h4, h5⟩ := atI_get he
  obtain ⟨w, ew, rw'⟩ := r.get h2
  have hl := r.length
  have hn := line63
  have fin : EP X pins σ Q w s := ⟨z, H, I, rw', q⟩
  by_cases h0 : 0 ≤ k
  · have hj : k.toNat = j := by
      rw [seqIndex_of h0 h5] at h1
      exact Option.some.inj h1
    exact wpAny_getItem_list pl.isList h0 (by omega) (by rw [hj]; simpa using ew) fin
  · have hj : (k + (its.toArray.size : Int)).toNat = j := by
      rw [seqIndex_neg (by omega) h4] at h1
      rw [List.size_toArray, ← hl]
      exact Option.some.inj h1
    exact wpAny_getItem_list_neg pl.isList (by omega) (by rw [List.size_toArray] <;> omega) (by omega) (by rw [hj]; simpa using ew) fin
end
end Rt

set_option maxHeartbeats 4000000
/-! the records -/
namespace Dk
open PySem PySem.Spec PyProof.Rows L2 StX
def top (i : Nat) : Stmt := PySem.Challenge.pw_driftkept_k13_records_are_tables.main.body.getD i (.Pass ⟨0, 0, 0, 0⟩)
abbrev sWhole : Stmt := top 1
abbrev sAsc : Stmt := top 2
abbrev sBucket : Stmt := top 6
abbrev sIsItems : Stmt := top 7
abbrev sIsPair : Stmt := top 8
abbrev sValIn : Stmt := top 9
abbrev sWith : Stmt := top 10
abbrev sWithout : Stmt := top 11
abbrev sInteg : Stmt := top 16
theorem iteD {c A B : Prop} [Decidable c] (hc : c) (h : A) : if decide c = true then A else B := by
  rw [decide_eq_true hc]
  exact iteT h
theorem iteND {c A B : Prop} [Decidable c] (hc : ¬ c) (h : B) : if decide c = true then A else B := by
  rw [decide_eq_false hc]
  exact iteF h
theorem iteNT {c A B : Prop} [Decidable c] (hc : ¬ c) (h : A) : if (!decide c) = true then A else B := by
  rw [decide_eq_false hc]
  exact iteT h
theorem iteC {c : Bool} {A B : Prop} (hc : c = false) (h : B) : if c = true then A else B := by
  rw [hc]
  exact iteF h
theorem up1 {H1 : Hp} {p : Addr} {o : HO} (hp : H1 p = none) : Same H1 (upd H1 p o) := fun b u e => by rw [upd_ne (ne_of_none e hp)]; exact e
/-- the built-in names as they are -/
structure Bn (mg : Str → Option Value) : Prop where
  isi : mg "isinstance" = none
  int : mg "int" = none
  bool : mg "bool" = none
  tuple : mg "tuple" = none
  list : mg "list" = none
  range : mg "range" = none
  len : mg "len" = none
  abs : mg "abs" = none
  all : mg "all" = none
  zip : mg "zip" = none
  sorted : mg "sorted" = none
  max : mg "max" = none
/-- the type of a value that is no object -/
def vty : V → Option String
  | .non => some "NoneType"
  | .bl _ => some "bool"
  | .int _ => some "int"
  | .str _ => some "str"
  | _ => none
/-- a value, of a type -/
inductive SV (H : Hp) : V → String → Prop
  | flat {v : V} {t : String} (h : vty v = some t) : SV H v t
  | tup {a : Addr} {xs : List V} (h : H a = some (.tup xs)) : SV H (.ref a) "tuple"
theorem SV.same {H H' : Hp} {v : V} {t : String} (h : SV H v t) (s : Same H H') : SV H' v t := by
  cases h with
  | flat h => exact .flat h
  | tup h => exact .tup (s _ _ h)
theorem SV.ty {K : PySem.W.Frag} {H : Hp} {v : V} {t : String} (h : SV H v t) : TyX K H v (.type t) := by
  cases h with
  | flat h =>
    cases v <;> cases h
    · exact .base .non
    · exact .base (.bl _)
    · exact .base (.int _)
    · exact .base (.str _)
  | tup h => exact .base (.tup h)
def isI : V → Bool
  | .int _ => true
  | _ => false
theorem tyT {K : PySem.W.Frag} {H : Hp} {a : Addr} {xs : List V} (h : SqT K H a xs) : TyX K H (.ref a) (.type "tuple") := by
  rcases h with (h | ⟨o, h⟩) | ⟨o, its, n, h, c, _⟩
  · exact .base (.tup h)
  · exact .fTuple h
  · exact .kTuple h c
theorem _root_.L2.SqT.same {K : PySem.W.Frag} {H H' : Hp} {a : Addr} {xs : List V} (h : SqT K H a xs) (s : Same H H') : SqT K H' a xs :=
  h.elim (fun h => .inl (h.elim (fun h => .inl (s _ _ h)) fun ⟨o, h⟩ => .inr ⟨o, s _ _ h⟩)) fun h => .inr h
abbrev Pr := V × V
/-- a pair at v -/
def PairV (H : Hp) (v : V) (p : Pr) : Prop := ∃ t, v = .ref t ∧ H t = some (.tup [p.1, p.2]) ∧ (∃ u, SV H p.1 u) ∧ ∃ u, SV H p.2 u
theorem PairV.same {H H' : Hp} {v : V} {p : Pr} (h : PairV H v p) (s : Same H H') : PairV H' v p := by
  obtain ⟨t, e, h1, ⟨u1, h2⟩, u2, h3⟩ := h
  exact ⟨t, e, s _ _ h1, ⟨u1, h2.same s⟩, u2, h3.same s⟩
def PrsV (H : Hp) (vs : List V) (ps : List Pr) : Prop := Paired (PairV H) vs ps
theorem PrsV.same {H H' : Hp} (s : Same H H') : ∀ {vs : List V} {ps : List Pr}, PrsV H vs ps → PrsV H' vs ps
  | _, _, .nil => .nil
  | _, _, .cons h t => .cons (h.same s) (PrsV.same s t)
/-- the record of the pairs ps at r -/
def Rec (K : PySem.W.Frag) (H : Hp) (r : Addr) (ps : List Pr) : Prop := ∃ q ts, SqT K H r [.str "items", .ref q] ∧ SqT K H q ts ∧ PrsV H ts ps
theorem Rec.same {K : PySem.W.Frag} {H H' : Hp} {r : Addr} {ps : List Pr} (h : Rec K H r ps) (s : Same H H') : Rec K H' r ps := by
  obtain ⟨q, ts, h1, h2, h3⟩ := h
  exact ⟨q, ts, h1.same s, h2.same s, h3.same s⟩
abbrev vp (n : Int × Int) : Pr := (.int n.1, .int n.2)
theorem pget {α β : Type} {F : α → β → Prop} : ∀ {xs : List α} {ys : List β}, Paired F xs ys → ∀ {i : Nat} {x : α}, xs[i]? = some x → ∃ y, ys[i]? = some y ∧ F x y
  | _, _, .nil, i, x, h => by cases h
  | _, _, .cons r t, 0, x, h => by
    have e := Option.some.inj h
    subst e
    exact ⟨_, rfl, r⟩
  | _, _, .cons r t, i + 1, x, h => pget t h
theorem pget2 {α β : Type} {F : α → β → Prop} : ∀ {xs : List α} {ys : List β}, Paired F xs ys → ∀ {i : Nat} {y : β}, ys[i]? = some y → ∃ x, xs[i]? = some x ∧ F x y
  | _, _, .nil, i, x, h => by cases h
  | _, _, .cons r t, 0, x, h => by
    have e := Option.some.inj h
    subst e
    exact ⟨_, rfl, r⟩
  | _, _, .cons r t, i + 1, x, h => pget2 t h
theorem plen {α β : Type} {F : α → β → Prop} : ∀ {xs : List α} {ys : List β}, Paired F xs ys → xs.length = ys.length
  | _, _, .nil => rfl
  | _, _, .cons _ t => by rw [List.length_cons, List.length_cons, plen t]
theorem papp {α β : Type} {F : α → β → Prop} : ∀ {xs xs' : List α} {ys ys' : List β}, Paired F xs ys → Paired F xs' ys' → Paired F (xs ++ xs') (ys ++ ys')
  | _, _, _, _, .nil, t => t
  | _, _, _, _, .cons r t, u => .cons r (papp t u)
theorem pmono {α β : Type} {F G : α → β → Prop} (h : ∀ a b, F a b → G a b) : ∀ {xs : List α} {ys : List β}, Paired F xs ys → Paired G xs ys
  | _, _, .nil => .nil
  | _, _, .cons r t => .cons (h _ _ r) (pmono h t)
def Adj (ns : List Int) : Prop := ∀ i x y, ns[i]? = some x → ns[i + 1]? = some y → x < y
/-- a pair as it should be -/
def pok (b : Int) : V → V → Bool
  | .int k, .int _ => decide (k % 4 = b)
  | _, _ => false
structure Good (b : Int) (ps : List Pr) : Prop where
  each : ∀ p ∈ ps, pok b p.1 p.2 = true
  adj : ∀ i k1 v1 k2 v2, ps[i]? = some (.int k1, v1) → ps[i + 1]? = some (.int k2, v2) → k1 < k2
/-- what is_items is asked with -/
inductive Bent (K : PySem.W.Frag) (H : Hp) (b : Int) : Addr → Prop → Prop
  | rcd {r : Addr} {ps : List Pr} (h : Rec K H r ps) (hl : ps.length < 1000) : Bent K H b r (Good b ps)
  | lst {r q : Addr} {xs : List V} (h : SqT K H r [.str "items", .ref q]) (h2 : H q = some (.lst xs)) : Bent K H b r False
  | row {r : Addr} {v : V} (h : SqT K H r [.str "rows", v]) : Bent K H b r False
  | tri {r : Addr} {u v x : V} (h : SqT K H r [u, v, x]) : Bent K H b r False
theorem Bent.same {K : PySem.W.Frag} {H H' : Hp} {b : Int} {r : Addr} {g : Prop} (h : Bent K H b r g) (s : Same H H') : Bent K H' b r g := by
  cases h with
  | rcd h hl => exact .rcd (h.same s) hl
  | lst h h2 => exact .lst (h.same s) (s _ _ h2)
  | row h => exact .row (h.same s)
  | tri h => exact .tri (h.same s)
def spWhole : Sp := fun vs H Q _ => ∃ v t, vs = [v] ∧ SV H v t ∧ Q (.bl (isI v)) H
def spAsc : Sp := fun vs H Q _ => ∃ (a : Addr) (ns : List Int), vs = [.ref a] ∧ H a = some (.lst (ns.map V.int)) ∧ ns.length < 1000 ∧ ∀ (b : Bool) (H' : Hp), (b = true ↔ Adj ns) → Same H H' → Q (.bl b) H'
def spBucket : Sp := fun vs H Q _ => ∃ k : Int, vs = [.int k] ∧ Q (.int (k % 4)) H
def spIsPair : Sp := fun vs H Q _ => ∃ (v : V) (p : Pr) (b : Int), vs = [v, .int b] ∧ PairV H v p ∧ Q (.bl (pok b p.1 p.2)) H
def spIsItems (K : PySem.W.Frag) : Sp := fun vs H Q _ => ∃ (r : Addr) (b : Int) (g : Prop), vs = [.ref r, .int b] ∧ Bent K H b r g ∧ ∀ (c : Bool) (H' : Hp), (c = true ↔ g) → Same H H' → Q (.bl c) H'
def lkV (ns : List (Int × Int)) (k : Int) : V := match ns.lookup k with
  | some v => .int v
  | none => .non
def spValIn (K : PySem.W.Frag) : Sp := fun vs H Q _ => ∃ (r : Addr) (k : Int) (ns : List (Int × Int)), vs = [.ref r, .int k] ∧ Rec K H r (ns.map vp) ∧ Q (lkV ns k) H
def spWithout (K : PySem.W.Frag) : Sp := fun vs H Q _ => ∃ (r : Addr) (k : Int) (ns : List (Int × Int)), vs = [.ref r, .int k] ∧ Rec K H r (ns.map vp) ∧ ns.length < 1000 ∧
  ∀ (H' : Hp) (r' : Addr), Same H H' → Rec K H' r' ((ns.filter fun n => !decide (n.1 = k)).map vp) → Q (.ref r') H'
def spWith (K : PySem.W.Frag) : Sp := fun vs H Q _ => ∃ (r : Addr) (k v : Int) (ns : List (Int × Int)), vs = [.ref r, .int k, .int v] ∧ Rec K H r (ns.map vp) ∧ ns.length < 1000 ∧
  ∀ (H' : Hp) (r' : Addr) (ms : List (Int × Int)), Same H H' → Rec K H' r' (ms.map vp) → ms.Perm ((ns.filter fun n => !decide (n.1 = k)) ++ [(k, v)]) → ms.Pairwise (fun a b => SrtO.lexB b a = false) → Q (.ref r') H'
section
variable {P : Program} {w : World} {K : PySem.W.Frag} {mg : Str → Option Value} {base : Heap}
theorem scWhole : FnScope ["value"] ["value"] (defScope sWhole) := ⟨rfl, rfl, rfl, by decide +kernel, rfl, by decide +kernel, by decide +kernel⟩
theorem go_whole (F : GT K mg "is_whole" sWhole ["value"]) (B : Bn mg) : GO P w K mg base CX0 1 "is_whole" ["value"] spWhole := by
  obtain ⟨f, fd, F, hm, hb⟩ := F
  refine ⟨f, fd, ?_, hm, F.kp, hb⟩
  refine F.ok scWhole (fun vs H Q E h => ?_) (fun cdv A outer s H vs Q E hr h => ?_)
  · obtain ⟨v, t, rfl, _⟩ := h
    rfl
  · obtain ⟨v, t, rfl, sv, k⟩ := h
    refine ⟨_, (pss_one (ps_ret (pe_and (pe_callB call_isi (by rfl) B.isi (by decide +kernel) (pa_cons (pv 0) (pa_cons (pe_bltn (v := .ty "int") (by rfl) B.int (by decide +kernel) rfl) pa_nil))) (pe_one (pe_not (pe_callB call_isi (by rfl) B.isi (by decide +kernel) (pa_cons (pv 0) (pa_cons (pe_bltn (v := .ty "bool") (by rfl) B.bool (by decide +kernel) rfl) pa_nil)))))))), ?_⟩
    have ty := sv.ty (K := K)
    cases sv with
    | tup h => exact ⟨_, rfl, _, _, _, _, false, rfl, .ty "int", ty, kit_ty (by decide +kernel), false, rfl, k⟩
    | flat ht =>
      cases v <;> cases ht
      · exact ⟨_, rfl, _, _, _, _, false, rfl, .ty "int", ty, kit_ty (by decide +kernel), false, rfl, k⟩
      · refine ⟨_, rfl, _, _, _, _, true, rfl, .ty "int", ty, kit_ty (by decide +kernel), true, rfl, ?_⟩
        exact iteT ⟨_, rfl, _, _, _, _, true, rfl, .ty "bool", ty, kit_ty (by decide +kernel), true, rfl, k⟩
      · refine ⟨_, rfl, _, _, _, _, true, rfl, .ty "int", ty, kit_ty (by decide +kernel), true, rfl, ?_⟩
        exact iteT ⟨_, rfl, _, _, _, _, false, rfl, .ty "bool", ty, kit_ty (by decide +kernel), false, rfl, k⟩
      · exact ⟨_, rfl, _, _, _, _, false, rfl, .ty "int", ty, kit_ty (by decide +kernel), false, rfl, k⟩
theorem scInteg : FnScope ["value"] ["value"] (defScope sInteg) := ⟨rfl, rfl, rfl, by decide +kernel, rfl, by decide +kernel, by decide +kernel⟩
theorem go_integ (F : GT K mg "_law_integer" sInteg ["value"]) (B : Bn mg) : GO P w K mg base CX0 1 "_law_integer" ["value"] spWhole := by
  obtain ⟨f, fd, F, hm, hb⟩ := F
  refine ⟨f, fd, ?_, hm, F.kp, hb⟩
  refine F.ok scInteg (fun vs H Q E h => ?_) (fun cdv A outer s H vs Q E hr h => ?_)
  · obtain ⟨v, t, rfl, _⟩ := h
    rfl
  · obtain ⟨v, t, rfl, sv, k⟩ := h
    refine ⟨_, (pss_one (ps_ret (pe_and (pe_callB call_isi (by rfl) B.isi (by decide +kernel) (pa_cons (pv 0) (pa_cons (pe_bltn (v := .ty "int") (by rfl) B.int (by decide +kernel) rfl) pa_nil))) (pe_one (pe_not (pe_callB call_isi (by rfl) B.isi (by decide +kernel) (pa_cons (pv 0) (pa_cons (pe_bltn (v := .ty "bool") (by rfl) B.bool (by decide +kernel) rfl) pa_nil)))))))), ?_⟩
    have ty := sv.ty (K := K)
    cases sv with
    | tup h => exact ⟨_, rfl, _, _, _, _, false, rfl, .ty "int", ty, kit_ty (by decide +kernel), false, rfl, k⟩
    | flat ht =>
      cases v <;> cases ht
      · exact ⟨_, rfl, _, _, _, _, false, rfl, .ty "int", ty, kit_ty (by decide +kernel), false, rfl, k⟩
      · refine ⟨_, rfl, _, _, _, _, true, rfl, .ty "int", ty, kit_ty (by decide +kernel), true, rfl, ?_⟩
        exact iteT ⟨_, rfl, _, _, _, _, true, rfl, .ty "bool", ty, kit_ty (by decide +kernel), true, rfl, k⟩
      · refine ⟨_, rfl, _, _, _, _, true, rfl, .ty "int", ty, kit_ty (by decide +kernel), true, rfl, ?_⟩
        exact iteT ⟨_, rfl, _, _, _, _, false, rfl, .ty "bool", ty, kit_ty (by decide +kernel), false, rfl, k⟩
      · exact ⟨_, rfl, _, _, _, _, false, rfl, .ty "int", ty, kit_ty (by decide +kernel), false, rfl, k⟩
def ltB (ns : List Int) (j : Nat) : Bool := decide (ns.getD j 0 < ns.getD (j + 1) 0)
theorem adj_all (ns : List Int) : ((List.range (ns.length - 1)).map (ltB ns)).all id = true ↔ Adj ns := by
  rw [List.all_eq_true]
  constructor
  · intro h i x y hx hy
    have hi : i + 1 < ns.length := (List.getElem?_eq_some_iff.mp hy).1
    have := h (ltB ns i) (List.mem_map.mpr ⟨i, List.mem_range.mpr (by omega), rfl⟩)
    have := of_decide_eq_true this
    rw [List.getD_eq_getElem?_getD, List.getD_eq_getElem?_getD, hx, hy] at this
    exact this
  · intro h b hb
    obtain ⟨i, hi, rfl⟩ := List.mem_map.mp hb
    have hi := List.mem_range.mp hi
    refine decide_eq_true ?_
    have h1 : i < ns.length := by omega
    have h2 : i + 1 < ns.length := by omega
    rw [List.getD_eq_getElem?_getD, List.getD_eq_getElem?_getD, List.getElem?_eq_getElem h1, List.getElem?_eq_getElem h2]
    exact h i _ _ (List.getElem?_eq_getElem h1) (List.getElem?_eq_getElem h2)
theorem cut1 (ns : List Int) : cutV (ns.map V.int) (some 1) none = (ns.drop 1).map V.int := by
  unfold cutV
  rw [HT.sIx_none, show (1 : Int) = ((1 : Nat) : Int) from rfl, HT.sIx_nat, List.length_map, List.map_drop]
  cases ns with
  | nil => rfl
  | cons n ns =>
    rw [show min 1 (n :: ns).length = 1 by simp]
    refine List.take_of_length_le ?_
    rw [List.length_drop, List.length_map]
    exact Nat.le_refl _
theorem scAsc : FnScope ["numbers", "low", "high"] ["numbers"] (defScope sAsc) := ⟨rfl, rfl, rfl, by decide +kernel, rfl, by decide +kernel, by decide +kernel⟩
theorem go_asc (F : GT K mg "is_ascending" sAsc ["numbers"]) (B : Bn mg) : GO P w K mg base CX0 1 "is_ascending" ["numbers"] spAsc := by
  obtain ⟨f, fd, F, hm, hb⟩ := F
  refine ⟨f, fd, ?_, hm, F.kp, hb⟩
  refine F.ok scAsc (fun vs H Q E h => ?_) (fun cdv A outer s H vs Q E hr h => ?_)
  · obtain ⟨a, ns, rfl, _⟩ := h
    rfl
  · obtain ⟨a, ns, rfl, ha, hl, k⟩ := h
    have nd := scAsc.nd
    have hsl : sizeLine = 16777216 := sizeLine_eq
    refine ⟨_, (pss_one (ps_ret (pe_callB (cr_all rfl) (by rfl) B.all (by decide +kernel) (pa_cons (pe_lc (own := [("low", 1), ("high", 2)]) (g := (gTup K 2 (gCons (gName 1) (gCons (gName 2) gNil)))) (tt := tYes) rfl nd (pi_zip (by rfl) B.zip (pa_cons (pv 0) (pa_cons (pe_slice sl_list (pv 0) (po_some pe_int) po_none) pa_nil))) (blkOk_by (N := ["numbers", "low", "high"]) (sc := defScope sAsc) (by decide +kernel)) (fun _ _ _ _ _ => (pg_tup (by rfl) (pgs_cons (pg_name (i := 1) nd rfl (Or.inl rfl)) (pgs_cons (pg_name (i := 2) nd rfl (Or.inl rfl)) pgs_nil)))) (fun _ _ _ _ _ => pts_nil) (fun _ _ _ _ _ => (pe_cmpR op_lt (pv 1) (pv 2) (nomark _)))) pa_nil)))), ?_⟩
    refine ⟨_, rfl, _, rfl, _, rfl, a, _, rfl, SqL.of ha, fun p hp => ?_⟩
    rw [cut1]
    have s1 := up1 (o := HO.lst ((ns.drop 1).map V.int)) hp
    have e1 : upd H p (HO.lst ((ns.drop 1).map V.int)) p = _ := upd_same
    generalize upd H p (HO.lst ((ns.drop 1).map V.int)) = H1 at s1 e1 ⊢
    refine ⟨a, p, _, _, rfl, SqL.of (s1 _ _ ha), SqL.of e1, fun D hD => lc_it (walk_zip (K := K) (a := a) (b := p) (xs := ns.map V.int) (ys := (ns.drop 1).map V.int) (n := ns.length - 1) (by simp)) (fun i H' => H' D = some (.lst (((List.range i).map (ltB ns)).map V.bl)) ∧ Same H1 H') ⟨upd_same, up1 hD⟩
      (fun i H' _ q => ⟨SqL.of (q.2 _ _ (s1 _ _ ha)), SqL.of (q.2 _ _ e1)⟩) ?_ ?_⟩
    · rintro i x H' H'' hi ⟨hD', s2⟩ ⟨T, x1, y1, rfl, hT, rfl, hx, hy⟩
      have h1 : i < ns.length := by omega
      have h2 : i + 1 < ns.length := by omega
      dsimp only at hx hy
      have ex : x1 = .int ns[i] := by
        rw [List.getElem?_map, List.getElem?_eq_getElem h1] at hx
        exact (Option.some.inj hx).symm
      have ey : y1 = .int ns[i + 1] := by
        rw [List.getElem?_map, List.getElem?_drop, show 1 + i = i + 1 by omega, List.getElem?_eq_getElem h2] at hy
        exact (Option.some.inj hy).symm
      subst ex
      subst ey
      refine ⟨T, _, rfl, SqT.of upd_same, rfl, _, _, rfl, _, _, rfl, rfl, rfl, _, rfl, _, rfl, _, _, rfl, rfl, ?_⟩
      have D_T : D ≠ T := ne_of_none hD' hT
      refine ⟨_, (by rw [upd_ne D_T]; exact hD'), (by rw [List.length_map, List.length_map, List.length_range]; omega), ?_, fun b o e => ?_⟩
      · rw [upd_same, List.range_succ, List.map_append, List.map_append]
        have : ltB ns i = decide (ns[i] < ns[i + 1]) := by
          unfold ltB
          rw [List.getD_eq_getElem?_getD, List.getD_eq_getElem?_getD, List.getElem?_eq_getElem h1, List.getElem?_eq_getElem h2]
          rfl
        show some (HO.lst (_ ++ [V.bl (decide (ns[i] < ns[i + 1]))])) = some (HO.lst (_ ++ [V.bl (ltB ns i)]))
        rw [this]
      · rw [upd_ne (ne_of_none e hD), upd_ne (ne_of_none (s2 _ _ e) hT)]
        exact s2 _ _ e
    · rintro H' ⟨hD', s2⟩
      exact ⟨D, _, rfl, SqL.of hD', k _ H' (adj_all ns) (s1.trans s2)⟩
theorem scBucket : FnScope ["key"] ["key"] (defScope sBucket) := ⟨rfl, rfl, rfl, by decide +kernel, rfl, by decide +kernel, by decide +kernel⟩
theorem go_bucket {tB : Tok} (F : GT K mg "bucket_of" sBucket ["key"]) (gBk : mg "BUCKETS" = some (.int 4 tB)) : GO P w K mg base CX0 1 "bucket_of" ["key"] spBucket := by
  obtain ⟨f, fd, F, hm, hb⟩ := F
  refine ⟨f, fd, ?_, hm, F.kp, hb⟩
  refine F.ok scBucket (fun vs H Q E h => ?_) (fun cdv A outer s H vs Q E hr h => ?_)
  · obtain ⟨k, rfl, _⟩ := h
    rfl
  · obtain ⟨k, rfl, q⟩ := h
    refine ⟨_, (pss_one (ps_ret (pe_op op_mod (pv 0) (pe_glob (v := .int 4) rfl gBk ⟨_, rfl⟩)))), ?_⟩
    exact ⟨_, rfl, _, _, rfl, rfl, (by show (0 : Int) < 4; decide), q⟩
theorem at0 {x y : V} : atI [x, y] 0 = some x := rfl
theorem at1 {x y : V} : atI [x, y] 1 = some y := rfl
theorem scIsPair : FnScope ["value", "bucket"] ["value", "bucket"] (defScope sIsPair) := ⟨rfl, rfl, rfl, by decide +kernel, rfl, by decide +kernel, by decide +kernel⟩
theorem go_ispair (F : GT K mg "is_pair" sIsPair ["value", "bucket"]) (B : Bn mg) (GWh : GO P w K mg base CX0 1 "is_whole" ["value"] spWhole) (GBk : GO P w K mg base CX0 1 "bucket_of" ["key"] spBucket) : GO P w K mg base CX0 2 "is_pair" ["value", "bucket"] spIsPair := by
  obtain ⟨f, fd, F, hm, hb⟩ := F
  refine ⟨f, fd, ?_, hm, F.kp, hb⟩
  refine F.ok scIsPair (fun vs H Q E h => ?_) (fun cdv A outer s H vs Q E hr h => ?_)
  · obtain ⟨v, p, b, rfl, _⟩ := h
    rfl
  · obtain ⟨v, ⟨x, y⟩, b, rfl, ⟨t, rfl, ht, ⟨u1, sx⟩, u2, sy⟩, k⟩ := h
    have hrW : Room 1 _ := hr
    have hrB : Room 1 _ := hr
    refine ⟨_, (pss_cons (ps_if (pt_not (PW.pt (pw_and (pt_val (pe_callB call_isi (by rfl) B.isi (by decide +kernel) (pa_cons (pv 0) (pa_cons (pe_bltn (v := .ty "tuple") (by rfl) B.tuple (by decide +kernel) rfl) pa_nil)))) (pw_and1 (pt_cmpR op_eq (pe_callB call_len_seq (by rfl) B.len PySem.boot_len (pa_cons (pv 0) pa_nil)) pe_int (nomark _))))))
  (pss_one (ps_ret pe_bl))
  pss_nil)
  (pss_one (ps_ret (pe_and (pc_ GWh hrW (pa_cons (pe_ix ix_tup (pv 0) pe_int (fun _ _ => rfl)) pa_nil)) (pe_and (pc_ GWh hrW (pa_cons (pe_ix ix_tup (pv 0) pe_int (fun _ _ => rfl)) pa_nil)) (pe_one (pe_cmpR op_eq (pc_ GBk hrB (pa_cons (pe_ix ix_tup (pv 0) pe_int (fun _ _ => rfl)) pa_nil)) (pv 1) (nomark _)))))))), ?_⟩
    refine ⟨_, rfl, _, _, _, _, true, rfl, .ty "tuple", .base (.tup ht), kit_ty (by decide +kernel), _, rfl, iteT ⟨_, rfl, t, _, rfl, .inr (SqT.of ht), rfl, _, rfl, iteNS rfl ?_⟩⟩
    refine ⟨_, rfl, t, _, 0, x, rfl, rfl, SqT.of ht, at0, x, u1, rfl, sx, _, rfl, ?_⟩
    have hx : isI x = false → pok b x y = false := fun e => by cases x <;> first | rfl | cases e
    have hy : isI y = false → pok b x y = false := fun e => by cases x <;> cases y <;> first | rfl | cases e
    cases cx : isI x with
    | false =>
      dsimp only at k
      rw [hx cx] at k
      exact iteF k
    | true =>
      refine iteT ⟨_, rfl, t, _, 1, y, rfl, rfl, SqT.of ht, at1, y, u2, rfl, sy, _, rfl, ?_⟩
      cases cy : isI y with
      | false =>
        dsimp only at k
        rw [hy cy] at k
        exact iteF k
      | true =>
        cases x with
        | int kx =>
          cases y with
          | int ky => 
            refine iteT ⟨_, rfl, t, _, 0, _, rfl, rfl, SqT.of ht, at0, kx, rfl, _, rfl, rfl, ?_⟩
            have e : decide (V.int (kx % 4) = V.int b) = decide (kx % 4 = b) := by
              by_cases c : kx % 4 = b
              · rw [decide_eq_true c, decide_eq_true (congrArg V.int c)]
              · rw [decide_eq_false c, decide_eq_false fun z => c (V.int.inj z)]
            rw [e]
            exact k
          | _ => cases cy
        | _ => cases cx
end
end Dk

set_option maxHeartbeats 4000000
/-! the records: their functions -/
namespace Dk
open PySem PySem.Spec PyProof.Rows L2 StX
def kI (p : Pr) : Int := match p.1 with
  | .int k => k
  | _ => 0
theorem pok_int {b : Int} {p : Pr} (h : pok b p.1 p.2 = true) : ∃ k v : Int, p = (.int k, .int v) ∧ k % 4 = b := by
  obtain ⟨x, y⟩ := p
  cases x with
  | int k =>
    cases y with
    | int v => exact ⟨k, v, rfl, of_decide_eq_true h⟩
    | _ => cases h
  | _ => cases h
theorem good_iff {b : Int} {ps : List Pr} (h : ∀ p ∈ ps, pok b p.1 p.2 = true) : Good b ps ↔ Adj (ps.map kI) := by
  constructor
  · intro g i x y hx hy
    rw [List.getElem?_map] at hx hy
    cases e1 : ps[i]? with
    | none => rw [e1] at hx; cases hx
    | some p =>
      cases e2 : ps[i + 1]? with
      | none => rw [e2] at hy; cases hy
      | some q =>
        rw [e1] at hx
        rw [e2] at hy
        obtain ⟨k1, v1, rfl, _⟩ := pok_int (h p (List.mem_of_getElem? e1))
        obtain ⟨k2, v2, rfl, _⟩ := pok_int (h q (List.mem_of_getElem? e2))
        cases hx
        cases hy
        exact g.adj i _ _ _ _ e1 e2
  · intro a
    refine ⟨h, fun i k1 v1 k2 v2 h1 h2 => ?_⟩
    exact a i k1 k2 (by rw [List.getElem?_map, h1]; rfl) (by rw [List.getElem?_map, h2]; rfl)
theorem firsts {b : Int} : ∀ {ps : List Pr}, (∀ p ∈ ps, pok b p.1 p.2 = true) → ps.map (fun p => p.1) = (ps.map kI).map V.int
  | [], _ => rfl
  | p :: ps, h => by
    obtain ⟨k, v, rfl, _⟩ := pok_int (h p List.mem_cons_self)
    rw [List.map_cons, List.map_cons, List.map_cons, firsts fun q hq => h q (List.mem_cons_of_mem _ hq)]
    rfl
def kH (H : Hp) : V → Int × Int
  | .ref t => match H t with
    | some (.tup [.int a, .int b]) => (a, b)
    | _ => (0, 0)
  | _ => (0, 0)
theorem kH_eq {H : Hp} {t : Addr} {a b : Int} (h : H t = some (.tup [.int a, .int b])) : kH H (.ref t) = (a, b) := by
  unfold kH
  dsimp only
  rw [h]
theorem pmem {α β : Type} {F : α → β → Prop} : ∀ {xs : List α} {ys : List β}, Paired F xs ys → ∀ x ∈ xs, ∃ y ∈ ys, F x y
  | _, _, .nil, x, h => by cases h
  | _, _, .cons r t, x, h => by
    rcases List.mem_cons.mp h with e | h
    · subst e
      exact ⟨_, List.mem_cons_self, r⟩
    · obtain ⟨y, hy, hf⟩ := pmem t x h
      exact ⟨y, List.mem_cons_of_mem _ hy, hf⟩
theorem pmap_k {H : Hp} : ∀ {vs : List V} {ns : List (Int × Int)}, PrsV H vs (ns.map vp) → vs.map (kH H) = ns
  | _, [], .nil => rfl
  | _, n :: ns, .cons h t => by
    obtain ⟨u, rfl, h1, _⟩ := h
    rw [List.map_cons, pmap_k t, kH_eq h1]
theorem prs_of {H : Hp} : ∀ {vs : List V}, (∀ v ∈ vs, ∃ n, PairV H v (vp n)) → PrsV H vs ((vs.map (kH H)).map vp)
  | [], _ => .nil
  | v :: vs, h => by
    refine .cons ?_ (prs_of fun u hu => h u (List.mem_cons_of_mem _ hu))
    obtain ⟨n, hn⟩ := h v List.mem_cons_self
    obtain ⟨t, rfl, h1, h2, h3⟩ := id hn
    have e : kH H (.ref t) = n := kH_eq h1
    show PairV H (.ref t) (vp (kH H (.ref t)))
    rw [e]
    exact hn
section
variable {P : Program} {w : World} {K : PySem.W.Frag} {mg : Str → Option Value} {base : Heap}
theorem scIsItems : FnScope ["value", "bucket", "pairs", "pair"] ["value", "bucket"] (defScope sIsItems) := ⟨rfl, rfl, rfl, by decide +kernel, rfl, by decide +kernel, by decide +kernel⟩
theorem go_isitems (F : GT K mg "is_items" sIsItems ["value", "bucket"]) (B : Bn mg) (GPr : GO P w K mg base CX0 2 "is_pair" ["value", "bucket"] spIsPair) (GAs : GO P w K mg base CX0 1 "is_ascending" ["numbers"] spAsc) : GO P w K mg base CX0 3 "is_items" ["value", "bucket"] (spIsItems K) := by
  obtain ⟨f, fd, F, hm, hb⟩ := F
  refine ⟨f, fd, ?_, hm, F.kp, hb⟩
  refine F.ok scIsItems (fun vs H Q E h => ?_) (fun cdv A outer s H vs Q E hr h => ?_)
  · obtain ⟨r, b, g, rfl, _⟩ := h
    rfl
  · obtain ⟨r, b, g, rfl, hb, k⟩ := h
    have nd := scIsItems.nd
    have hrP : Room 2 _ := hr
    have hrA : Room 1 _ := hr.mono (by decide)
    have hsl : sizeLine = 16777216 := sizeLine_eq
    refine ⟨_, (pss_cons (ps_if (pt_not (PW.pt (pw_and (pt_val (pe_callB call_isi (by rfl) B.isi (by decide +kernel) (pa_cons (pv 0) (pa_cons (pe_bltn (v := .ty "tuple") (by rfl) B.tuple (by decide +kernel) rfl) pa_nil)))) (pw_and (pt_cmpR op_eq (pe_callB call_len_seq (by rfl) B.len PySem.boot_len (pa_cons (pv 0) pa_nil)) pe_int (nomark _)) (pw_and1 (pt_cmpR op_eq (pe_ix ix_tup (pv 0) pe_int (fun _ _ => rfl)) pe_str (nomark _)))))))
  (pss_one (ps_ret pe_bl))
  pss_nil)
  (pss_cons (ps_set (i := 2) nd rfl (Or.inl rfl) (pe_ix ix_tup (pv 0) pe_int (fun _ _ => rfl)))
  (pss_cons (ps_if (pt_not (PW.pt (pw_and (pt_val (pe_callB call_isi (by rfl) B.isi (by decide +kernel) (pa_cons (pv 2) (pa_cons (pe_bltn (v := .ty "tuple") (by rfl) B.tuple (by decide +kernel) rfl) pa_nil)))) (pw_and1 (pt_val (pe_callB (cr_all rfl) (by rfl) B.all (by decide +kernel) (pa_cons (pe_lc (own := [("pair", 3)]) (g := (gName 3)) (tt := tYes) rfl nd (pi_tup (pv 2)) (blkOk_by (N := ["value", "bucket", "pairs", "pair"]) (sc := defScope sIsItems) (by decide +kernel)) (fun _ _ _ _ _ => (pg_name (i := 3) nd rfl (Or.inl rfl))) (fun _ _ _ _ _ => pts_nil) (fun _ _ _ _ _ => (pc_ GPr hrP (pa_cons (pv 3) (pa_cons (pv 1) pa_nil))))) pa_nil)))))))
  (pss_one (ps_ret pe_bl))
  pss_nil)
  (pss_one (ps_ret (pc_ GAs hrA (pa_cons (pe_lc (own := [("pair", 3)]) (g := (gName 3)) (tt := tYes) (te := (tOp (rIxT K) (tVar 3) (tC (.int 0)))) rfl nd (pi_tup (pv 2)) (blkOk_by (N := ["value", "bucket", "pairs", "pair"]) (sc := defScope sIsItems) (by decide +kernel)) (fun _ _ _ _ _ => (pg_name (i := 3) nd rfl (Or.inl rfl))) (fun _ _ _ _ _ => pts_nil) (fun _ _ _ _ _ => (pe_ix ix_tup (pv 3) pe_int (fun _ _ => rfl)))) pa_nil))))))), ?_⟩
    cases hb with
    | tri h =>
      refine ⟨_, rfl, _, _, _, _, true, rfl, .ty "tuple", tyT h, kit_ty (by decide +kernel), _, rfl, iteT ⟨_, rfl, r, _, rfl, .inr h, rfl, _, rfl, iteND (fun z => by have := V.int.inj z; simp at this) (iteT ?_)⟩⟩
      exact k false H (by simp) (Same.refl H)
    | row h =>
      refine ⟨_, rfl, _, _, _, _, true, rfl, .ty "tuple", tyT h, kit_ty (by decide +kernel), _, rfl, iteT ⟨_, rfl, r, _, rfl, .inr h, rfl, _, rfl, iteD rfl ⟨_, rfl, r, _, 0, _, rfl, rfl, h, at0, rfl, _, rfl, iteNT (by decide +kernel) ?_⟩⟩⟩
      exact k false H (by simp) (Same.refl H)
    | lst h h2 =>
      rename_i q xs
      refine ⟨_, rfl, _, _, _, _, true, rfl, .ty "tuple", tyT h, kit_ty (by decide +kernel), _, rfl, iteT ⟨_, rfl, r, _, rfl, .inr h, rfl, _, rfl, iteD rfl ⟨_, rfl, r, _, 0, _, rfl, rfl, h, at0, rfl, _, rfl, iteNS rfl ?_⟩⟩⟩
      refine ⟨_, rfl, r, _, 1, _, rfl, rfl, h, at1, _, rfl, _, _, _, _, false, rfl, .ty "tuple", .base (.lst h2), kit_ty (by decide +kernel), _, rfl, iteF (iteT ?_)⟩
      exact k false H (by simp) (Same.refl H)
    | rcd h hl =>
      rename_i ps
      obtain ⟨q, ts, h1, h2, h3⟩ := h
      have hln := plen h3
      refine ⟨_, rfl, _, _, _, _, true, rfl, .ty "tuple", tyT h1, kit_ty (by decide +kernel), _, rfl, iteT ⟨_, rfl, r, _, rfl, .inr h1, rfl, _, rfl, iteD rfl ⟨_, rfl, r, _, 0, _, rfl, rfl, h1, at0, rfl, _, rfl, iteNS rfl ?_⟩⟩⟩
      refine ⟨_, rfl, r, _, 1, _, rfl, rfl, h1, at1, _, rfl, _, _, _, _, true, rfl, .ty "tuple", tyT h2, kit_ty (by decide +kernel), _, rfl, iteT ?_⟩
      refine ⟨_, rfl, q, rfl, ⟨_, h2⟩, fun D hD => lc_tup (K := K) (a := q) (xs := ts) (fun i H' => H' D = some (.lst (((ps.take i).map fun p => pok b p.1 p.2).map V.bl)) ∧ Same H H') ⟨upd_same, up1 hD⟩ (fun i H' _ z => h2.same z.2) ?_ ?_⟩
      · rintro i x H' hi ⟨hD', s1⟩
        obtain ⟨p, hp, hx⟩ := pget h3 hi
        have hil : i < ps.length := (List.getElem?_eq_some_iff.mp hp).1
        refine ⟨rfl, _, rfl, _, rfl, x, p, b, rfl, hx.same s1, _, hD', (by rw [List.length_map, List.length_map, List.length_take]; omega), ?_, fun b o e => by rw [upd_ne (ne_of_none e hD)]; exact s1 b o e⟩
        rw [upd_same, List.take_succ_eq_append_getElem hil, List.map_append, List.map_append]
        have : ps[i] = p := by rw [List.getElem?_eq_getElem hil] at hp; exact Option.some.inj hp
        rw [this]
        rfl
      · rintro H' ⟨hD', s1⟩
        rw [hln, List.take_length] at hD'
        refine ⟨D, _, rfl, SqL.of hD', _, rfl, ?_⟩
        cases ca : (ps.map fun p => pok b p.1 p.2).all id with
        | false =>
          refine iteT (k false H' ?_ s1)
          constructor
          · intro z; cases z
          · intro g
            have : (ps.map fun p => pok b p.1 p.2).all id = true := List.all_eq_true.mpr fun c hc => by
              obtain ⟨p, hp, rfl⟩ := List.mem_map.mp hc
              exact g.each p hp
            rw [ca] at this
            cases this
        | true =>
          have hall : ∀ p ∈ ps, pok b p.1 p.2 = true := fun p hp => (List.all_eq_true.mp ca) _ (List.mem_map.mpr ⟨p, hp, rfl⟩)
          refine iteF ?_
          refine ⟨_, rfl, q, rfl, ⟨_, h2.same s1⟩, fun D2 hD2 => lc_tup (K := K) (a := q) (xs := ts) (fun i H2 => H2 D2 = some (.lst ((ps.take i).map fun p => p.1)) ∧ Same H' H2) ⟨upd_same, up1 hD2⟩ (fun i H2 _ z => (h2.same s1).same z.2) ?_ ?_⟩
          · rintro i x H2 hi ⟨hD2', s2⟩
            obtain ⟨p, hp, hx⟩ := pget h3 hi
            have hil : i < ps.length := (List.getElem?_eq_some_iff.mp hp).1
            obtain ⟨t, rfl, ht, _⟩ := hx.same (s1.trans s2)
            refine ⟨rfl, _, rfl, t, _, 0, _, rfl, rfl, SqT.of ht, at0, _, hD2', (by rw [List.length_map, List.length_take]; omega), ?_, fun b o e => by rw [upd_ne (ne_of_none e hD2)]; exact s2 b o e⟩
            rw [upd_same, List.take_succ_eq_append_getElem hil, List.map_append]
            have : ps[i] = p := by rw [List.getElem?_eq_getElem hil] at hp; exact Option.some.inj hp
            rw [this]
            rfl
          · rintro H2 ⟨hD2', s2⟩
            rw [hln, List.take_length, firsts hall] at hD2'
            exact ⟨D2, _, rfl, hD2', (by rw [List.length_map]; exact hl), fun c H3 hc s3 => k c H3 (hc.trans (good_iff hall).symm) ((s1.trans s2).trans s3)⟩
theorem scValIn : FnScope ["record", "key", "other", "value"] ["record", "key"] (defScope sValIn) := ⟨rfl, rfl, rfl, by decide +kernel, rfl, by decide +kernel, by decide +kernel⟩
theorem go_valin (F : GT K mg "value_in" sValIn ["record", "key"]) : GO P w K mg base CX0 1 "value_in" ["record", "key"] (spValIn K) := by
  obtain ⟨f, fd, F, hm, hb⟩ := F
  refine ⟨f, fd, ?_, hm, F.kp, hb⟩
  refine F.ok scValIn (fun vs H Q E h => ?_) (fun cdv A outer s H vs Q E hr h => ?_)
  · obtain ⟨r, k, ns, rfl, _⟩ := h
    rfl
  · obtain ⟨r, k, ns, rfl, ⟨q, ts, h1, h2, h3⟩, kQ⟩ := h
    have nd := scValIn.nd
    refine ⟨_, (pss_cons (ps_for PassesOwn.never rfl (pi_tup (pe_ix ix_tup (pv 0) pe_int (fun _ _ => rfl))) (pg_tup (by rfl) (pgs_cons (pg_name (i := 2) nd rfl (Or.inl rfl)) (pgs_cons (pg_name (i := 3) nd rfl (Or.inl rfl)) pgs_nil)))
  (pss_one (ps_if (pt_cmpR op_eq (pv 2) (pv 1) (nomark _))
  (pss_one (ps_ret (pv 3)))
  pss_nil)))
  (pss_one (ps_ret pe_non))), ?_⟩
    refine ⟨_, rfl, r, _, 1, _, rfl, rfl, h1, at1, q, rfl, ⟨_, h2⟩, for_tup (K := K) (a := q) (xs := ts) (fun i σ H' => ∃ x y, σ = [some (.ref r), some (.int k), x, y] ∧ H' = H ∧ (ns.drop i).lookup k = ns.lookup k) ⟨_, _, rfl, rfl, rfl⟩ (fun i σ H' _ z => by obtain ⟨_, _, _, rfl, _⟩ := z; exact h2) ?_ ?_⟩
    · rintro i v σ H' hi ⟨x, y, rfl, rfl, hlk⟩
      obtain ⟨p, hp, hx⟩ := pget h3 hi
      have hil : i < ns.length := by
        have := (List.getElem?_eq_some_iff.mp hp).1
        rw [List.length_map] at this
        exact this
      have ep : p = vp ns[i] := by
        rw [List.getElem?_map, List.getElem?_eq_getElem hil] at hp
        exact (Option.some.inj hp).symm
      subst ep
      obtain ⟨t, rfl, ht, _⟩ := hx
      rw [List.drop_eq_getElem_cons hil] at hlk
      generalize hn : ns[i] = n at *
      obtain ⟨k', v'⟩ := n
      refine ⟨t, _, rfl, SqT.of ht, rfl, _, _, rfl, _, _, rfl, rfl, _, rfl, _, rfl, rfl, _, rfl, ?_⟩
      by_cases c : k' = k
      · subst c
        refine iteD rfl ⟨_, rfl, ?_⟩
        unfold lkV at kQ
        rw [← hlk, List.lookup_cons_self] at kQ
        exact kQ
      · refine iteND (fun z => c (V.int.inj z)) ⟨_, _, rfl, rfl, ?_⟩
        rw [List.lookup_cons, beq_false_of_ne (fun z => c z.symm)] at hlk
        exact hlk
    · rintro σ H' ⟨x, y, rfl, rfl, hlk⟩
      have : ns.drop ts.length = [] := by
        rw [plen h3, List.length_map, List.drop_length]
      rw [this] at hlk
      unfold lkV at kQ
      rw [← hlk] at kQ
      exact kQ
theorem scWithout : FnScope ["record", "key", "pair"] ["record", "key"] (defScope sWithout) := ⟨rfl, rfl, rfl, by decide +kernel, rfl, by decide +kernel, by decide +kernel⟩
theorem go_without (F : GT K mg "without_item" sWithout ["record", "key"]) (B : Bn mg) : GO P w K mg base CX0 1 "without_item" ["record", "key"] (spWithout K) := by
  obtain ⟨f, fd, F, hm, hb⟩ := F
  refine ⟨f, fd, ?_, hm, F.kp, hb⟩
  refine F.ok scWithout (fun vs H Q E h => ?_) (fun cdv A outer s H vs Q E hr h => ?_)
  · obtain ⟨r, k, ns, rfl, _⟩ := h
    rfl
  · obtain ⟨r, k, ns, rfl, ⟨q, ts, h1, h2, h3⟩, hl, kQ⟩ := h
    have nd := scWithout.nd
    have hsl : sizeLine = 16777216 := sizeLine_eq
    have hln : ts.length = ns.length := by rw [plen h3, List.length_map]
    refine ⟨_, (pss_one (ps_ret (pe_tup (pa_cons pe_str (pa_cons (pe_callTy call_tuple_of (by rfl) B.tuple (by decide +kernel) (pa_cons (pe_lc (own := [("pair", 2)]) (g := (gName 2)) (tt := tTest (tOp rNe (tOp (rIxT K) (tVar 2) (tC (.int 0))) (tVar 1))) rfl nd (pi_tup (pe_ix ix_tup (pv 0) pe_int (fun _ _ => rfl))) (blkOk_by (N := ["record", "key", "pair"]) (sc := defScope sWithout) (by decide +kernel)) (fun _ _ _ _ _ => (pg_name (i := 2) nd rfl (Or.inl rfl))) (fun _ _ _ _ _ => pts_one (pt_cmpR op_ne (pe_ix ix_tup (pv 2) pe_int (fun _ _ => rfl)) (pv 1) (nomark _))) (fun _ _ _ _ _ => (pv 2))) pa_nil)) pa_nil))))), ?_⟩
    refine ⟨_, rfl, r, _, 1, _, rfl, rfl, h1, at1, q, rfl, ⟨_, h2⟩, fun D hD => lc_tup (K := K) (a := q) (xs := ts) (fun i H' => ∃ us, H' D = some (.lst us) ∧ us.length ≤ i ∧ PrsV H us (((ns.take i).filter fun n => !decide (n.1 = k)).map vp) ∧ Same H H') ⟨[], upd_same, Nat.le_refl _, .nil, up1 hD⟩ (fun i H' _ z => by obtain ⟨_, _, _, _, s⟩ := z; exact h2.same s) ?_ ?_⟩
    · rintro i v H' hi ⟨us, hD', hlu, hus, s1⟩
      obtain ⟨p, hp, hx⟩ := pget h3 hi
      have hil : i < ns.length := by
        have := (List.getElem?_eq_some_iff.mp hp).1
        rw [List.length_map] at this
        exact this
      have ep : p = vp ns[i] := by
        rw [List.getElem?_map, List.getElem?_eq_getElem hil] at hp
        exact (Option.some.inj hp).symm
      subst ep
      obtain ⟨t, rfl, ht, _⟩ := id hx
      refine ⟨rfl, _, rfl, t, _, 0, _, rfl, rfl, SqT.of (s1 _ _ ht), at0, _, rfl, rfl, _, rfl, ?_⟩
      rw [List.take_succ_eq_append_getElem hil, List.filter_append, List.map_append]
      by_cases c : (ns[i]).1 = k
      · refine iteNS (congrArg V.int c) ⟨us, hD', by omega, ?_, s1⟩
        rw [List.filter_cons, if_neg (by simp [c])]
        simpa using hus
      · refine iteNT (fun z => c (V.int.inj z)) ⟨_, rfl, _, hD', by omega, us ++ [.ref t], upd_same, (by rw [List.length_append, List.length_singleton]; omega), papp hus ?_, fun b o e => by rw [upd_ne (ne_of_none e hD)]; exact s1 b o e⟩
        rw [List.filter_cons, if_pos (by simp [c])]
        exact .cons hx .nil
    · rintro H' ⟨us, hD', hlu, hus, s1⟩
      rw [hln, List.take_length] at hus
      refine ⟨D, _, rfl, .inl ⟨SqL.of hD', fun u hu => ⟨(by show 2 ≤ sizeLine; decide), fun x hx => ?_⟩⟩⟩
      have s2 := s1.trans (up1 (o := HO.tup us) hu)
      have e2 : upd H' u (HO.tup us) u = _ := upd_same
      generalize upd H' u (HO.tup us) = H2 at s2 e2 hx ⊢
      exact kQ _ x (s2.trans (up1 hx)) ⟨u, us, SqT.of upd_same, SqT.of (up1 hx _ _ e2), hus.same (s2.trans (up1 hx))⟩
theorem scWith : FnScope ["record", "key", "value", "pairs"] ["record", "key", "value"] (defScope sWith) := ⟨rfl, rfl, rfl, by decide +kernel, rfl, by decide +kernel, by decide +kernel⟩
theorem go_with (F : GT K mg "with_item" sWith ["record", "key", "value"]) (B : Bn mg) (GWo : GO P w K mg base CX0 1 "without_item" ["record", "key"] (spWithout K)) : GO P w K mg base CX0 2 "with_item" ["record", "key", "value"] (spWith K) := by
  obtain ⟨f, fd, F, hm, hb⟩ := F
  refine ⟨f, fd, ?_, hm, F.kp, hb⟩
  refine F.ok scWith (fun vs H Q E h => ?_) (fun cdv A outer s H vs Q E hr h => ?_)
  · obtain ⟨r, k, v, ns, rfl, _⟩ := h
    rfl
  · obtain ⟨r, k, v, ns, rfl, R, hl, kQ⟩ := h
    have nd := scWith.nd
    have hrWo : Room 1 _ := hr
    have hsl : sizeLine = 16777216 := sizeLine_eq
    refine ⟨_, (pss_cons (ps_set (i := 3) nd rfl (Or.inl rfl) (pe_ix ix_tup (pc_ GWo hrWo (pa_cons (pv 0) (pa_cons (pv 1) pa_nil))) pe_int (fun _ _ => rfl)))
  (pss_one (ps_ret (pe_tup (pa_cons pe_str (pa_cons (pe_callTy call_tuple_of (by rfl) B.tuple (by decide +kernel) (pa_cons (pe_callB cr_sortedPO (by rfl) B.sorted (by decide +kernel) (pa_cons (pe_lst (pa_star (pv 3) (pa_cons (pe_tup (pa_cons (pv 1) (pa_cons (pv 2) pa_nil))) pa_nil))) pa_nil)) pa_nil)) pa_nil)))))), ?_⟩
    refine ⟨_, rfl, _, rfl, r, k, ns, rfl, R, hl, fun H1 r1 s1 R1 => ?_⟩
    obtain ⟨q, ts, h1, h2, h3⟩ := R1
    have hln : ts.length ≤ ns.length := by
      rw [plen h3, List.length_map]
      exact List.length_filter_le _ _
    generalize (ns.filter fun n => !decide (n.1 = k)) = fs at h3 kQ
    refine ⟨r1, _, 1, _, rfl, rfl, h1, at1, _, rfl, q, ts, rfl, .inl h2, _, rfl, _, rfl, (by show 2 ≤ sizeLine; decide), fun u hu => ⟨?_, fun l hl' => ?_⟩⟩
    · rw [List.length_append]
      show ts.length + 1 ≤ _
      omega
    have s2 := s1.trans (up1 (o := HO.tup [V.int k, V.int v]) hu)
    have e2 : upd H1 u (HO.tup [V.int k, V.int v]) u = _ := upd_same
    have s12 := up1 (o := HO.tup [V.int k, V.int v]) hu
    generalize upd H1 u (HO.tup [V.int k, V.int v]) = H2 at s2 s12 e2 hl' ⊢
    have p2 : PrsV H2 (ts ++ [.ref u]) ((fs ++ [(k, v)]).map vp) := by
      rw [List.map_append]
      exact papp (h3.same s12) (.cons ⟨u, rfl, e2, ⟨_, .flat rfl⟩, _, .flat rfl⟩ .nil)
    have s3 := s2.trans (up1 (o := HO.lst (ts ++ [.ref u])) hl')
    have p3 := p2.same (up1 (o := HO.lst (ts ++ [.ref u])) hl')
    have e3 : upd H2 l (HO.lst (ts ++ [.ref u])) l = _ := upd_same
    generalize upd H2 l (HO.lst (ts ++ [.ref u])) = H3 at s3 p3 e3 ⊢
    have ek : (ts ++ [V.ref u]).map (kH H3) = fs ++ [(k, v)] := pmap_k p3
    have hmem : ∀ x ∈ ts ++ [V.ref u], ∃ n, PairV H3 x (vp n) := fun x hx => by
      obtain ⟨p, hp, hf⟩ := pmem p3 x hx
      obtain ⟨n, _, rfl⟩ := List.mem_map.mp hp
      exact ⟨n, hf⟩
    refine ⟨l, _, kH H3, rfl, SqL.of e3, fun x hx => ?_, fun ys p srt stb hp => ?_⟩
    · obtain ⟨n, t, rfl, ht, _⟩ := hmem x hx
      exact ⟨t, rfl, by rw [kH_eq ht]; exact ht⟩
    · have s4 := s3.trans (up1 (o := HO.lst ys) hp)
      have e4 : upd H3 p (HO.lst ys) p = _ := upd_same
      have s34 := up1 (o := HO.lst ys) hp
      generalize upd H3 p (HO.lst ys) = H4 at s4 s34 e4 ⊢
      refine ⟨p, _, rfl, .inl ⟨SqL.of e4, fun z hz => ⟨(by show 2 ≤ sizeLine; decide), fun x hx => ?_⟩⟩⟩
      have s5 := s4.trans (up1 (o := HO.tup ys) hz)
      have s45 := s34.trans (up1 (o := HO.tup ys) hz)
      have e5 : upd H4 z (HO.tup ys) z = _ := upd_same
      generalize upd H4 z (HO.tup ys) = H5 at s5 s45 e5 hx ⊢
      have pys : PrsV H3 ys ((ys.map (kH H3)).map vp) := prs_of fun y hy => hmem y (stb.perm.mem_iff.mp hy)
      refine kQ _ x (ys.map (kH H3)) (s5.trans (up1 hx)) ⟨z, ys, SqT.of upd_same, SqT.of (up1 hx _ _ e5), (pys.same s45).same (up1 hx)⟩ ?_ ?_
      · have := stb.perm.map (kH H3)
        rw [ek] at this
        exact this
      · exact List.pairwise_map.mpr srt
end
end Dk

set_option maxHeartbeats 8000000
/-! the law k13: its tape, its key, what is due -/
namespace Dk
open PySem PySem.Spec PyProof.Rows L2 StX
abbrev sNext : Stmt := top 13
abbrev sKey : Stmt := top 14
abbrev sBent : Stmt := top 15
abbrev sDue : Stmt := top 17
structure TapeAt (H : Hp) (tp sp : Addr) (ns : List Int) (pos : Nat) (rest seed : Int) : Prop where
  t : H tp = some (.lst [.ref sp, .int (pos : Int), .int rest, .int seed])
  s : H sp = some (.lst (ns.map V.int))
  r : 0 ≤ rest
  s0 : 0 ≤ seed
  s1 : seed < 2147483647
/-- kept but at a -/
def Kept (a : Addr) (H H' : Hp) : Prop := ∀ b o, H b = some o → b ≠ a → H' b = some o
theorem Kept.trans {a : Addr} {H H1 H2 : Hp} (h : Kept a H H1) (k : Kept a H1 H2) : Kept a H H2 := fun b o e n => k b o (h b o e n) n
theorem Kept.of {a : Addr} {H H1 : Hp} (h : Same H H1) : Kept a H H1 := fun b o e _ => h b o e
/-- tuples are kept -/
def ExT (H H' : Hp) : Prop := (∀ b xs, H b = some (.tup xs) → H' b = some (.tup xs)) ∧ ∀ b o xs, H b = some (.frz o (.tup xs)) → H' b = some (.frz o (.tup xs))
theorem ExT.of {H H' : Hp} (s : Same H H') : ExT H H' := ⟨fun _ _ e => s _ _ e, fun _ _ _ e => s _ _ e⟩
theorem ExT.trans {H H1 H2 : Hp} (h : ExT H H1) (k : ExT H1 H2) : ExT H H2 := ⟨fun _ _ e => k.1 _ _ (h.1 _ _ e), fun _ _ _ e => k.2 _ _ _ (h.2 _ _ _ e)⟩
theorem Kept.ext {a : Addr} {H H' : Hp} {l : List V} (k : Kept a H H') (h : H a = some (.lst l)) : ExT H H' :=
  ⟨fun b xs e => k b _ e (ne_of e h (by intro z; cases z)), fun b o xs e => k b _ e (ne_of e h (by intro z; cases z))⟩
theorem SV.ext {H H' : Hp} {v : V} {t : String} (h : SV H v t) (s : ExT H H') : SV H' v t := by
  cases h with
  | flat h => exact .flat h
  | tup h => exact .tup (s.1 _ _ h)
theorem _root_.L2.SqT.extT {K : PySem.W.Frag} {H H' : Hp} {a : Addr} {xs : List V} (h : SqT K H a xs) (s : ExT H H') : SqT K H' a xs :=
  h.elim (fun h => .inl (h.elim (fun h => .inl (s.1 _ _ h)) fun ⟨o, h⟩ => .inr ⟨o, s.2 _ _ _ h⟩)) fun h => .inr h
theorem PairV.ext {H H' : Hp} {v : V} {p : Pr} (h : PairV H v p) (s : ExT H H') : PairV H' v p := by
  obtain ⟨t, e, h1, ⟨u1, h2⟩, u2, h3⟩ := h
  exact ⟨t, e, s.1 _ _ h1, ⟨u1, h2.ext s⟩, u2, h3.ext s⟩
theorem PrsV.ext {H H' : Hp} (s : ExT H H') {vs : List V} {ps : List Pr} (h : PrsV H vs ps) : PrsV H' vs ps := pmono (fun _ _ h => h.ext s) h
theorem Rec.ext {K : PySem.W.Frag} {H H' : Hp} {r : Addr} {ps : List Pr} (h : Rec K H r ps) (s : ExT H H') : Rec K H' r ps := by
  obtain ⟨q, ts, h1, h2, h3⟩ := h
  exact ⟨q, ts, h1.extT s, h2.extT s, h3.ext s⟩
def spNext : Sp := fun vs H Q _ => ∃ (tp sp : Addr) (ns : List Int) (pos : Nat) (rest seed many : Int), vs = [.ref tp, .int many] ∧ TapeAt H tp sp ns pos rest seed ∧ 0 < many ∧ many < 1000 ∧ ns.length ≤ 63 ∧
  ∀ (r : Int) (H' : Hp) (pos' : Nat) (rest' seed' : Int), 0 ≤ r → r < many → TapeAt H' tp sp ns pos' rest' seed' → Kept tp H H' → Q (.int r) H'
def spKey : Sp := fun vs H Q _ => ∃ (tp sp : Addr) (ns : List Int) (pos : Nat) (rest seed b : Int), vs = [.ref tp, .int b] ∧ TapeAt H tp sp ns pos rest seed ∧ 0 ≤ b ∧ b < 4 ∧ ns.length ≤ 63 ∧
  ∀ (k : Int) (H' : Hp) (pos' : Nat) (rest' seed' : Int), k % 4 = b → TapeAt H' tp sp ns pos' rest' seed' → Kept tp H H' → Q (.int k) H'
section
variable {P : Program} {w : World} {K : PySem.W.Frag} {mg : Str → Option Value} {base : Heap}
theorem scNext : FnScope ["tape", "many", "rest", "cell"] ["tape", "many"] (defScope sNext) := ⟨rfl, rfl, rfl, by decide +kernel, rfl, by decide +kernel, by decide +kernel⟩
theorem go_next (F : GT K mg "_law_next" sNext ["tape", "many"]) (B : Bn mg) : GO P w K mg base CX0 1 "_law_next" ["tape", "many"] spNext := by
  obtain ⟨f, fd, F, hm, hb⟩ := F
  refine ⟨f, fd, ?_, hm, F.kp, hb⟩
  refine F.ok scNext (fun vs H Q E h => ?_) (fun cdv A outer s H vs Q E hr h => ?_)
  · obtain ⟨tp, sp, ns, pos, rest, seed, many, rfl, _⟩ := h
    rfl
  · obtain ⟨tp, sp, ns, pos, rest, seed, many, rfl, T, m0, m1, hns, k⟩ := h
    have nd := scNext.nd
    have hsl : sizeLine = 16777216 := sizeLine_eq
    have ht := T.t
    have hs := T.s
    have hr0 := T.r
    have sp_tp : sp ≠ tp := ne_of hs ht (by intro z; cases ns with | nil => cases z | cons a l => cases z)
    refine ⟨_, (pss_cons (ps_set (i := 2) nd rfl (Or.inl rfl) (pe_ix ix_list (pv 0) pe_int (fun _ _ => rfl)))
  (pss_cons (ps_if (pt_cmpR op_gt (pv 2) pe_int (nomark _))
  (pss_cons (ps_asg (pe_op op_fdivN (pv 2) (pv 1)) (pg_sub (pv 0) pe_int set_list))
  (pss_one (ps_ret (pe_op op_modN (pe_callTy call_int1 (by rfl) B.int (by decide +kernel) (pa_cons (pv 2) pa_nil)) (pv 1)))))
  pss_nil)
  (pss_cons (ps_set (i := 3) nd rfl (Or.inl rfl) pe_int)
  (C8.pss_cut (ps_if (pt_cmpR op_lt (pe_ix ix_list (pv 0) pe_int (fun _ _ => rfl)) (pe_callB call_len_seq (by rfl) B.len PySem.boot_len (pa_cons (pe_ix ix_list (pv 0) pe_int (fun _ _ => rfl)) pa_nil)) (nomark _))
  (pss_cons (ps_set (i := 3) nd rfl (Or.inl rfl) (pe_callB call_abs (by rfl) B.abs (by decide +kernel) (pa_cons (pe_ix ix_list (pe_ix ix_list (pv 0) pe_int (fun _ _ => rfl)) (pe_ix ix_list (pv 0) pe_int (fun _ _ => rfl)) (fun _ _ => rfl)) pa_nil)))
  (pss_one (ps_augS (pv 0) pe_int Rt.pget_list pe_int ip_add set_list)))
  pss_nil)
  (pss_cons (ps_if (pt_cmpR op_ge (pv 3) (pe_op op_pow pe_int pe_int) (nomark _))
  (pss_cons (ps_asg (pe_op op_fdivN (pv 3) (pv 1)) (pg_sub (pv 0) pe_int set_list))
  (pss_one (ps_ret (pe_op op_modN (pe_callTy call_int1 (by rfl) B.int (by decide +kernel) (pa_cons (pv 3) pa_nil)) (pv 1)))))
  pss_nil)
  (pss_cons (ps_asg (pe_op op_mod (pe_callTy call_int1 (by rfl) B.int (by decide +kernel) (pa_cons (pe_op op_add (pe_op op_add (pe_op op_mul (pe_ix ix_list (pv 0) pe_int (fun _ _ => rfl)) pe_int) (pe_op op_mul (pv 3) pe_int)) pe_int) pa_nil)) pe_int) (pg_sub (pv 0) pe_int set_list))
  (pss_one (ps_ret (pe_op op_modN (pe_callTy call_int1 (by rfl) B.int (by decide +kernel) (pa_cons (pe_op op_fdiv (pe_op op_mod (pe_op op_mul (pe_ix ix_list (pv 0) pe_int (fun _ _ => rfl)) pe_int) pe_int) pe_int) pa_nil)) (pv 1)))))))))), ?_⟩
    have mo : ∀ x : Int, 0 ≤ x.fmod many ∧ x.fmod many < many := fun x => by
      rw [Int.fmod_eq_emod_of_nonneg _ (by omega)]
      exact ⟨Int.emod_nonneg _ (by omega), Int.emod_lt_of_pos _ m0⟩
    refine ⟨_, rfl, tp, _, 2, _, rfl, rfl, SqL.of ht, rfl, ?_⟩
    refine ⟨_, rfl, _, _, rfl, rfl, _, rfl, ite2 (fun c => ?_) (fun c => ?_)⟩
    · have c := of_decide_eq_true c
      refine ⟨_, rfl, _, rfl, _, _, rfl, rfl, ⟨by omega, by omega⟩, _, rfl, tp, _, 2, 2, rfl, rfl, ht, rfl, ?_⟩
      refine ⟨_, rfl, .inl ⟨_, rfl, _, rfl, _, _, rfl, rfl, (by omega), ?_⟩⟩
      refine k _ _ pos (rest.fdiv many) seed (mo rest).1 (mo rest).2 ⟨upd_same, by rw [upd_ne sp_tp]; exact hs, ?_, T.s0, T.s1⟩ fun b o e n => by rw [upd_ne n]; exact e
      rw [Int.fdiv_eq_ediv_of_nonneg _ (by omega)]
      exact Int.ediv_nonneg (by omega) (by omega)
    · have c : rest = 0 := by
        have : ¬ (0 < rest) := fun z => c (decide_eq_true z)
        omega
      subst c
      refine ⟨fun σ' H' => ∃ (cell : Int) (pos' : Nat), 0 ≤ cell ∧ σ' = [some (.ref tp), some (.int many), some (.int 0), some (.int cell)] ∧ TapeAt H' tp sp ns pos' 0 seed ∧ Kept tp H H', ?_, ?_⟩
      · refine ⟨_, rfl, tp, _, 1, _, rfl, rfl, SqL.of ht, rfl, _, rfl, tp, _, 0, _, rfl, rfl, SqL.of ht, rfl, sp, _, rfl, .inl (SqL.of hs), _, _, rfl, rfl, _, rfl, ite2 (fun c => ?_) (fun c => ?_)⟩
        · have c := of_decide_eq_true c
          rw [List.length_map] at c
          have hp : pos < ns.length := by omega
          have hv : (ns.map V.int)[pos]? = some (V.int ns[pos]) := by rw [List.getElem?_map, List.getElem?_eq_getElem hp]; rfl
          refine ⟨_, rfl, tp, _, 0, _, rfl, rfl, SqL.of ht, rfl, _, rfl, tp, _, 1, _, rfl, rfl, SqL.of ht, rfl, sp, _, _, _, rfl, rfl, SqL.of hs, atI_nat hv, _, rfl, ?_⟩
          refine ⟨_, rfl, tp, _, 1, _, rfl, rfl, SqL.of ht, rfl, _, _, rfl, rfl, tp, _, 1, 1, rfl, rfl, ht, rfl, ?_⟩
          refine ⟨_, pos + 1, ?_, rfl, ⟨?_, by rw [upd_ne sp_tp]; exact hs, by decide, T.s0, T.s1⟩, fun b o e n => by rw [upd_ne n]; exact e⟩
          · split <;> omega
          · rw [upd_same]
            rfl
        · exact ⟨0, pos, by decide, rfl, ⟨ht, hs, by decide, T.s0, T.s1⟩, fun b o e n => e⟩
      · rintro σ' H1 ⟨cell, pos', hc, rfl, T1, k1⟩
        have ht1 := T1.t
        have hs1 := T1.s
        refine ⟨_, rfl, _, _, rfl, rfl, ⟨by decide, by decide, by decide⟩, _, _, rfl, rfl, _, rfl, ite2 (fun c => ?_) (fun c => ?_)⟩
        · refine ⟨_, rfl, _, rfl, _, _, rfl, rfl, ⟨by omega, by omega⟩, _, rfl, tp, _, 2, 2, rfl, rfl, ht1, rfl, ?_⟩
          refine ⟨_, rfl, .inl ⟨_, rfl, _, rfl, _, _, rfl, rfl, (by omega), ?_⟩⟩
          refine k _ _ pos' (cell.fdiv many) seed (mo cell).1 (mo cell).2 ⟨upd_same, by rw [upd_ne sp_tp]; exact hs1, ?_, T.s0, T.s1⟩ fun b o e n => by rw [upd_ne n]; exact k1 b o e n
          rw [Int.fdiv_eq_ediv_of_nonneg _ (by omega)]
          exact Int.ediv_nonneg (by omega) (by omega)
        · refine ⟨_, rfl, tp, _, 3, _, rfl, rfl, SqL.of ht1, rfl, _, _, rfl, rfl, .inr ⟨by decide, by decide⟩, _, rfl, _, _, rfl, rfl, .inr ⟨by decide, by decide⟩, _, _, rfl, rfl, _, _, rfl, rfl, .inl ⟨_, rfl, _, _, rfl, rfl, (by show (0 : Int) < 2147483647; decide), _, rfl, tp, _, 3, 3, rfl, rfl, ht1, rfl, ?_⟩⟩
          have b0 := Int.emod_nonneg (seed * 48271 + cell * 69621 + 11) (show (2147483647 : Int) ≠ 0 by decide)
          have b1 := Int.emod_lt_of_pos (seed * 48271 + cell * 69621 + 11) (show (0 : Int) < 2147483647 by decide)
          refine ⟨_, rfl, tp, _, 3, _, rfl, rfl, SqL.of upd_same, rfl, _, _, rfl, rfl, .inr ⟨by decide, by decide⟩, _, _, rfl, rfl, (by show (0 : Int) < 2147483647; decide), _, _, rfl, rfl, ⟨by decide, by decide⟩, .inl ⟨_, rfl, _, rfl, _, _, rfl, rfl, (by omega), ?_⟩⟩
          exact k _ _ pos' 0 _ (mo _).1 (mo _).2 ⟨upd_same, by rw [upd_ne sp_tp]; exact hs1, by decide, b0, b1⟩ fun b o e n => by rw [upd_ne n]; exact k1 b o e n
theorem scKey : FnScope ["tape", "bucket"] ["tape", "bucket"] (defScope sKey) := ⟨rfl, rfl, rfl, by decide +kernel, rfl, by decide +kernel, by decide +kernel⟩
theorem go_key (F : GT K mg "_law_key" sKey ["tape", "bucket"]) (GNx : GO P w K mg base CX0 1 "_law_next" ["tape", "many"] spNext) : GO P w K mg base CX0 2 "_law_key" ["tape", "bucket"] spKey := by
  obtain ⟨f, fd, F, hm, hb⟩ := F
  refine ⟨f, fd, ?_, hm, F.kp, hb⟩
  refine F.ok scKey (fun vs H Q E h => ?_) (fun cdv A outer s H vs Q E hr h => ?_)
  · obtain ⟨tp, sp, ns, pos, rest, seed, b, rfl, _⟩ := h
    rfl
  · obtain ⟨tp, sp, ns, pos, rest, seed, b, rfl, T, b0, b4, hns, k⟩ := h
    have nd := scKey.nd
    have hrN : Room 1 _ := hr
    refine ⟨_, (pss_one (ps_ret (pe_op op_add (pv 1) (pe_op op_mul (pe_op op_mul pe_int (pe_op op_sub (pc_ GNx hrN (pa_cons (pv 0) (pa_cons pe_int pa_nil))) pe_int)) (pe_ix ix_tup (pe_tup (pa_cons pe_int (pa_cons pe_int (pa_cons (pe_op op_pow pe_int pe_int) pa_nil)))) (pc_ GNx hrN (pa_cons (pv 0) (pa_cons pe_int pa_nil))) (fun _ _ => rfl)))))), ?_⟩
    refine ⟨_, rfl, _, rfl, tp, sp, ns, pos, rest, seed, 6, rfl, T, by decide, by decide, hns, fun r H1 pos1 rest1 seed1 r0 r6 T1 k1 => ?_⟩
    refine ⟨_, _, rfl, rfl, _, _, rfl, rfl, .inl ⟨by decide, by decide⟩, _, _, rfl, rfl, ⟨by decide, by decide, by decide⟩, (by show 3 ≤ sizeLine; decide), fun p hp => ?_⟩
    have s2 := up1 (o := HO.tup [V.int 1, V.int 1, V.int (10 ^ (19 : Int).toNat)]) hp
    have e2 : upd H1 p (HO.tup [V.int 1, V.int 1, V.int (10 ^ (19 : Int).toNat)]) p = _ := upd_same
    have p_tp : p ≠ tp := (ne_of_none T1.t hp).symm
    generalize upd H1 p (HO.tup [V.int 1, V.int 1, V.int (10 ^ (19 : Int).toNat)]) = H2 at s2 e2 ⊢
    have T2 : TapeAt H2 tp sp ns pos1 rest1 seed1 := ⟨s2 _ _ T1.t, s2 _ _ T1.s, T1.r, T1.s0, T1.s1⟩
    refine ⟨_, rfl, tp, sp, ns, pos1, rest1, seed1, 3, rfl, T2, by decide, by decide, hns, fun i H3 pos3 rest3 seed3 i0 i3 T3 k3 => ?_⟩
    have e3 := k3 _ _ e2 p_tp
    have kk : Kept tp H H3 := k1.trans ((Kept.of s2).trans k3)
    have fin : ∀ c : Int, (c = 1 ∨ c = 10 ^ (19 : Int).toNat) → Q (.int (b + 4 * (r - 2) * c)) H3 := fun c hc => by
      refine k _ H3 pos3 rest3 seed3 ?_ T3 kk
      rcases hc with rfl | rfl
      · omega
      · show (b + 4 * (r - 2) * (10 ^ 19)) % 4 = b
        have : 4 * (r - 2) * (10 ^ 19 : Int) = 4 * ((r - 2) * 10 ^ 19) := by rw [Int.mul_assoc]
        rw [this]
        omega
    rcases (show i = 0 ∨ i = 1 ∨ i = 2 by omega) with rfl | rfl | rfl
    · exact ⟨p, _, 0, _, rfl, rfl, SqT.of e3, rfl, _, _, rfl, rfl, .inl (by constructor <;> omega), _, _, rfl, rfl, fin 1 (.inl rfl)⟩
    · exact ⟨p, _, 1, _, rfl, rfl, SqT.of e3, rfl, _, _, rfl, rfl, .inl (by constructor <;> omega), _, _, rfl, rfl, fin 1 (.inl rfl)⟩
    · exact ⟨p, _, 2, _, rfl, rfl, SqT.of e3, rfl, _, _, rfl, rfl, .inl (by constructor <;> omega), _, _, rfl, rfl, fin _ (.inr rfl)⟩
def spDue (K : PySem.W.Frag) : Sp := spIsItems K
theorem scDue : FnScope ["value", "bucket", "last", "key", "content"] ["value", "bucket"] (defScope sDue) := ⟨rfl, rfl, rfl, by decide +kernel, rfl, by decide +kernel, by decide +kernel⟩
theorem at20 {x y z : V} : atI [x, y, z] 0 = some x := rfl
/-- what the loop of _law_due keeps -/
structure DueI (b : Int) (ps : List Pr) (i : Nat) (last : V) : Prop where
  g : ∀ j p, j < i → ps[j]? = some p → pok b p.1 p.2 = true
  a : ∀ j k1 v1 k2 v2, j + 1 < i → ps[j]? = some (.int k1, v1) → ps[j + 1]? = some (.int k2, v2) → k1 < k2
  l0 : i = 0 → last = .non
  l1 : ∀ p, 0 < i → ps[i - 1]? = some p → last = p.1
theorem go_due (F : GT K mg "_law_due" sDue ["value", "bucket"]) (B : Bn mg) (GIn : GO P w K mg base CX0 1 "_law_integer" ["value"] spWhole) : GO P w K mg base CX0 2 "_law_due" ["value", "bucket"] (spIsItems K) := by
  obtain ⟨f, fd, F, hm, hb⟩ := F
  refine ⟨f, fd, ?_, hm, F.kp, hb⟩
  refine F.ok scDue (fun vs H Q E h => ?_) (fun cdv A outer s H vs Q E hr h => ?_)
  · obtain ⟨r, b, g, rfl, _⟩ := h
    rfl
  · obtain ⟨r, b, g, rfl, hb, k⟩ := h
    have nd := scDue.nd
    have hrI : Room 1 _ := hr
    refine ⟨_, (pss_cons (ps_if (PW.pt (pw_or (pt_cmpR op_ne (pe_callB call_len_seq (by rfl) B.len PySem.boot_len (pa_cons (pv 0) pa_nil)) pe_int (nomark _)) (pw_or (pt_cmpR op_ne (pe_ix ix_tup (pv 0) pe_int (fun _ _ => rfl)) pe_str (nomark _)) (pw_or1 (pt_not (pt_val (pe_callB call_isi (by rfl) B.isi (by decide +kernel) (pa_cons (pe_ix ix_tup (pv 0) pe_int (fun _ _ => rfl)) (pa_cons (pe_bltn (v := .ty "tuple") (by rfl) B.tuple (by decide +kernel) rfl) pa_nil)))))))))
  (pss_one (ps_ret pe_bl))
  pss_nil)
  (pss_cons (ps_set (i := 2) nd rfl (Or.inl rfl) pe_non)
  (pss_cons (ps_for PassesOwn.never rfl (pi_tup (pe_ix ix_tup (pv 0) pe_int (fun _ _ => rfl))) (pg_tup (by rfl) (pgs_cons (pg_name (i := 3) nd rfl (Or.inl rfl)) (pgs_cons (pg_name (i := 4) nd rfl (Or.inl rfl)) pgs_nil)))
  (pss_cons (ps_if (PW.pt (pw_or (pt_not (pt_val (pc_ GIn hrI (pa_cons (pv 3) pa_nil)))) (pw_or (pt_not (pt_val (pc_ GIn hrI (pa_cons (pv 4) pa_nil)))) (pw_or1 (pt_cmpR op_ne (pe_op op_mod (pv 3) pe_int) (pv 1) (nomark _))))))
  (pss_one (ps_ret pe_bl))
  pss_nil)
  (pss_cons (ps_if (PW.pt (pw_and (pt_cmpR op_notN (pv 2) pe_non (nomark _)) (pw_and1 (pt_cmpR op_le (pv 3) (pv 2) (nomark _)))))
  (pss_one (ps_ret pe_bl))
  pss_nil)
  (pss_one (ps_set (i := 2) nd rfl (Or.inl rfl) (pv 3))))))
  (pss_one (ps_ret pe_bl))))), ?_⟩
    cases hb with
    | tri h =>
      refine ⟨_, rfl, r, _, rfl, .inr h, rfl, _, rfl, iteNT (fun z => by have := V.int.inj z; simp at this) (iteT ?_)⟩
      exact k false H (by simp) (Same.refl H)
    | row h =>
      refine ⟨_, rfl, r, _, rfl, .inr h, rfl, _, rfl, iteNS rfl ⟨_, rfl, r, _, 0, _, rfl, rfl, h, at0, rfl, _, rfl, iteNT (by decide +kernel) (iteT ?_)⟩⟩
      exact k false H (by simp) (Same.refl H)
    | lst h h2 =>
      rename_i q xs
      refine ⟨_, rfl, r, _, rfl, .inr h, rfl, _, rfl, iteNS rfl ⟨_, rfl, r, _, 0, _, rfl, rfl, h, at0, rfl, _, rfl, iteNS rfl ?_⟩⟩
      refine ⟨_, rfl, r, _, 1, _, rfl, rfl, h, at1, _, _, _, _, false, rfl, .ty "tuple", .base (.lst h2), kit_ty (by decide +kernel), _, rfl, iteT ?_⟩
      exact k false H (by simp) (Same.refl H)
    | rcd h hl =>
      rename_i ps
      obtain ⟨q, ts, h1, h2, h3⟩ := h
      have hln := plen h3
      refine ⟨_, rfl, r, _, rfl, .inr h1, rfl, _, rfl, iteNS rfl ⟨_, rfl, r, _, 0, _, rfl, rfl, h1, at0, rfl, _, rfl, iteNS rfl ?_⟩⟩
      refine ⟨_, rfl, r, _, 1, _, rfl, rfl, h1, at1, _, _, _, _, true, rfl, .ty "tuple", tyT h2, kit_ty (by decide +kernel), _, rfl, iteF ?_⟩
      refine ⟨_, rfl, r, _, 1, _, rfl, rfl, h1, at1, q, rfl, ⟨_, h2⟩, for_tup (K := K) (a := q) (xs := ts) (fun i σ H' => ∃ last x y, σ = [some (.ref r), some (.int b), some last, x, y] ∧ H' = H ∧ DueI b ps i last) ⟨.non, _, _, rfl, rfl, ⟨fun j p hj => absurd hj (by omega), fun j _ _ _ _ hj => absurd hj (by omega), fun _ => rfl, fun p hj => absurd hj (by omega)⟩⟩ (fun i σ H' _ z => by obtain ⟨_, _, _, _, rfl, _⟩ := z; exact h2) ?_ ?_⟩
      · rintro i v σ H' hi ⟨last, x0, y0, rfl, rfl, I⟩
        obtain ⟨⟨x, y⟩, hp, hx⟩ := pget h3 hi
        obtain ⟨t, rfl, ht, ⟨u1, sx⟩, u2, sy⟩ := hx
        have bad : (pok b x y = false) → Q (.bl false) H' := fun e => k false H' ⟨fun z => (nomatch z), fun g => by
          have := g.each _ (List.mem_of_getElem? hp)
          rw [e] at this
          cases this⟩ (Same.refl H')
        have hxi : isI x = false → pok b x y = false := fun e => by cases x <;> first | rfl | cases e
        have hyi : isI y = false → pok b x y = false := fun e => by cases x <;> cases y <;> first | rfl | cases e
        refine ⟨t, _, rfl, SqT.of ht, rfl, _, _, rfl, _, _, rfl, rfl, _, rfl, x, u1, rfl, sx, _, rfl, ?_⟩
        cases cx : isI x with
        | false => exact iteT (iteT (bad (hxi cx)))
        | true =>
          refine iteF ⟨_, rfl, y, u2, rfl, sy, _, rfl, ?_⟩
          cases cy : isI y with
          | false => exact iteT (iteT (bad (hyi cy)))
          | true =>
            cases x with
            | int kx =>
              cases y with
              | int ky =>
                refine iteF ⟨_, rfl, _, _, rfl, rfl, (by show (0 : Int) < 4; decide), _, rfl, rfl, _, rfl, ?_⟩
                by_cases c : kx % 4 = b
                · refine iteNS (congrArg V.int c) ?_
                  have okk : pok b (.int kx) (.int ky) = true := decide_eq_true c
                  have hnx : ∀ (hlt : ∀ k1 v1, 0 < i → ps[i - 1]? = some (.int k1, v1) → k1 < kx), DueI b ps (i + 1) (.int kx) := fun hlt => by
                    refine ⟨fun j p hj e => ?_, fun j k1 v1 k2 v2 hj e1 e2 => ?_, fun z => by omega, fun p _ e => ?_⟩
                    · by_cases c2 : j = i
                      · rw [c2, hp] at e
                        cases e
                        exact okk
                      · exact I.g j p (by omega) e
                    · by_cases c2 : j + 1 = i
                      · rw [c2, hp] at e2
                        cases e2
                        exact hlt k1 v1 (by omega) (by rw [show i - 1 = j by omega]; exact e1)
                      · exact I.a j k1 v1 k2 v2 (by omega) e1 e2
                    · rw [show i + 1 - 1 = i by omega, hp] at e
                      cases e
                      rfl
                  by_cases c0 : i = 0
                  · have el := I.l0 c0
                    subst el
                    refine ⟨_, rfl, rfl, _, rfl, iteNS rfl (iteF ?_)⟩
                    exact ⟨_, rfl, .int kx, _, _, rfl, rfl, hnx fun _ _ h => by omega⟩
                  · have hil : i < ts.length := (List.getElem?_eq_some_iff.mp hi).1
                    have e0 : ps[i - 1]? = some ps[i - 1] := List.getElem?_eq_getElem (by omega)
                    have el := I.l1 _ (by omega) e0
                    obtain ⟨k0, v0, ep, _⟩ := pok_int (I.g (i - 1) _ (by omega) e0)
                    rw [ep] at e0 el
                    subst el
                    refine ⟨_, rfl, rfl, _, rfl, iteNT (by intro z; cases z) ⟨_, rfl, _, rfl, _, _, rfl, rfl, _, rfl, ?_⟩⟩
                    by_cases c2 : kx ≤ k0
                    · refine iteD c2 ?_
                      refine k false H' ⟨fun z => (nomatch z), fun g => ?_⟩ (Same.refl H')
                      have := g.adj (i - 1) k0 _ kx (.int ky) e0 (by rw [show i - 1 + 1 = i by omega]; exact hp)
                      omega
                    · refine iteND c2 ?_
                      exact ⟨_, rfl, .int kx, _, _, rfl, rfl, hnx fun k1 v1 _ e => by rw [e0] at e; cases e; omega⟩
                · exact iteNT (fun z => c (V.int.inj z)) (bad (decide_eq_false c))
              | _ => cases cy
            | _ => cases cx
      · rintro σ H' ⟨last, x, y, rfl, rfl, I⟩
        refine k true H' ⟨fun _ => ⟨fun p hp => ?_, fun j k1 v1 k2 v2 e1 e2 => ?_⟩, fun _ => rfl⟩ (Same.refl H')
        · obtain ⟨j, hj⟩ := List.mem_iff_getElem?.mp hp
          exact I.g j p (by rw [hln]; exact (List.getElem?_eq_some_iff.mp hj).1) hj
        · exact I.a j k1 v1 k2 v2 (by rw [hln]; exact (List.getElem?_eq_some_iff.mp e2).1) e1 e2
end
end Dk

set_option maxHeartbeats 16000000
/-! the law k13: a bent record -/
namespace Dk
open PySem PySem.Spec PyProof.Rows L2 StX
def rLof (K : PySem.W.Frag) : List V → Hp → VK → Prop := fun xs H Q => ∃ p ys, xs = [V.ref p] ∧ (SqL K H p ys ∨ SqT K H p ys) ∧ ∀ (l : Addr), H l = none → Q (V.ref l) (upd H l (HO.lst ys))
def rTof (K : PySem.W.Frag) : List V → Hp → VK → Prop := fun xs H Q => ∃ p ys, xs = [.ref p] ∧ ((SqL K H p ys ∧ ∀ l, H l = none → Q (.ref l) (upd H l (.tup ys))) ∨ (SqT K H p ys ∧ Q (.ref p) H))
/-- a pair as a list at la -/
def PairL (H : Hp) (la : Addr) (p : Pr) : Prop := H la = some (.lst [p.1, p.2]) ∧ (∃ u, SV H p.1 u) ∧ ∃ u, SV H p.2 u
structure LP (H : Hp) (D tp : Addr) (las : List Addr) (ps : List Pr) : Prop where
  d : H D = some (.lst (las.map V.ref))
  l : Paired (PairL H) las ps
  nd : las.Nodup
  nD : D ∉ las
  nt : tp ∉ las
  Dt : D ≠ tp
theorem PairL.keep {H H' : Hp} {la : Addr} {p : Pr} (h : PairL H la p) (e : H' la = H la) (s : ExT H H') : PairL H' la p := by
  obtain ⟨h1, ⟨u1, h2⟩, u2, h3⟩ := h
  exact ⟨e.trans h1, ⟨u1, h2.ext s⟩, u2, h3.ext s⟩
theorem pl_keep {H H' : Hp} (s : ExT H H') : ∀ {las : List Addr} {ps : List Pr}, (∀ la ∈ las, H' la = H la) → Paired (PairL H) las ps → Paired (PairL H') las ps
  | _, _, _, .nil => .nil
  | _, _, e, .cons h t => .cons (h.keep (e _ List.mem_cons_self) s) (pl_keep s (fun la hl => e la (List.mem_cons_of_mem _ hl)) t)
theorem pl_some {H : Hp} : ∀ {las : List Addr} {ps : List Pr}, Paired (PairL H) las ps → ∀ la ∈ las, ∃ p, PairL H la p
  | _, _, .nil, la, h => by cases h
  | _, _, .cons r t, la, h => by
    rcases List.mem_cons.mp h with e | h
    · subst e; exact ⟨_, r⟩
    · exact pl_some t la h
theorem LP.kept {H H' : Hp} {D tp : Addr} {las : List Addr} {ps : List Pr} {l : List V} (L : LP H D tp las ps) (k : Kept tp H H') (ht : H tp = some (.lst l)) : LP H' D tp las ps := by
  refine ⟨k _ _ L.d L.Dt, pl_keep (k.ext ht) (fun la hla => ?_) L.l, L.nd, L.nD, L.nt, L.Dt⟩
  obtain ⟨p, hp, _⟩ := pl_some L.l la hla
  rw [hp]
  exact k _ _ hp fun z => L.nt (by rw [← z]; exact hla)
theorem LP.same {H H' : Hp} {D tp : Addr} {las : List Addr} {ps : List Pr} (L : LP H D tp las ps) (s : Same H H') : LP H' D tp las ps := by
  refine ⟨s _ _ L.d, pl_keep (.of s) (fun la hla => ?_) L.l, L.nd, L.nD, L.nt, L.Dt⟩
  obtain ⟨p, hp, _⟩ := pl_some L.l la hla
  rw [hp]
  exact s _ _ hp
theorem pset {H : Hp} {la : Addr} {p' : Pr} : ∀ {las : List Addr} {ps : List Pr} {j : Nat}, Paired (PairL H) las ps → las.Nodup → las[j]? = some la → ExT H (upd H la (.lst [p'.1, p'.2])) → (∃ u, SV H p'.1 u) → (∃ u, SV H p'.2 u) → Paired (PairL (upd H la (.lst [p'.1, p'.2]))) las (ps.set j p')
  | _, _, j, .nil, _, h, _, _, _ => by cases h
  | _, _, 0, .cons (a := a) r t, nd, h, s, ⟨u1, h1⟩, ⟨u2, h2⟩ => by
    have e := Option.some.inj h
    subst e
    refine .cons ⟨upd_same, ⟨u1, h1.ext s⟩, u2, h2.ext s⟩ (pl_keep s (fun b hb => ?_) t)
    rw [upd_ne fun z => (List.nodup_cons.mp nd).1 (by rw [← z]; exact hb)]
  | _, _, j + 1, .cons (a := a) r t, nd, h, s, h1, h2 => by
    rw [List.getElem?_cons_succ] at h
    refine .cons (r.keep (upd_ne fun z => (List.nodup_cons.mp nd).1 (by rw [z]; exact List.mem_of_getElem? h)) s) (pset t (List.nodup_cons.mp nd).2 h s h1 h2)
theorem LP.put {H : Hp} {D tp la : Addr} {las : List Addr} {ps : List Pr} {p' : Pr} {j : Nat} (L : LP H D tp las ps) (h : las[j]? = some la) (h1 : ∃ u, SV H p'.1 u) (h2 : ∃ u, SV H p'.2 u) : LP (upd H la (.lst [p'.1, p'.2])) D tp las (ps.set j p') := by
  obtain ⟨p, hp, _⟩ := pl_some L.l la (List.mem_of_getElem? h)
  have s : ExT H (upd H la (.lst [p'.1, p'.2])) := Kept.ext (fun b o e n => by rw [upd_ne n]; exact e) hp
  exact ⟨by rw [upd_ne fun z => L.nD (by rw [z]; exact List.mem_of_getElem? h)]; exact L.d, pset L.l L.nd h s h1 h2, L.nd, L.nD, L.nt, L.Dt⟩
theorem sets_len {ps : List Pr} {j : Nat} {p : Pr} : (ps.set j p).length = ps.length := List.length_set ..
def dPP (ns : List (Int × Int)) : PyData := .list (ns.map fun n => .list [.int n.1, .int n.2])
theorem dPP_lay : ∀ ns : List (Int × Int), PyData.canLayAll0 (ns.map fun n => PyData.list [.int n.1, .int n.2]) = true
  | [] => by simp [PyData.canLayAll0]
  | n :: ns => by simp [PyData.canLayAll0, PyData.canLay0, dPP_lay ns]
theorem dPP_depth : ∀ ns : List (Int × Int), PyData.depthAll (ns.map fun n => PyData.list [.int n.1, .int n.2]) ≤ 2
  | [] => by simp [PyData.depthAll]
  | n :: ns => by
    have := dPP_depth ns
    simp only [List.map_cons, PyData.depthAll, PyData.depth]
    omega
theorem dPP_shaped (ns : List (Int × Int)) : SeqAt.shaped (dPP ns) = true := by
  have h := dPP_depth ns
  unfold dPP
  show (PyData.canLay0 (.list _) && decide (PyData.depth (.list _) ≤ 64)) = true
  rw [Bool.and_eq_true]
  refine ⟨by simp only [PyData.canLay0]; exact dPP_lay ns, decide_eq_true ?_⟩
  simp only [PyData.depth]
  omega
theorem dPP_all {K : PySem.W.Frag} {H : Hp} : ∀ {las : List Addr} {ns : List (Int × Int)}, Paired (PairL H) las (ns.map vp) → DpAll K H (las.map V.ref) (ns.map fun n => PyData.list [.int n.1, .int n.2])
  | _, [], .nil => .nil
  | _, n :: ns, .cons h t => .cons (.lst (SqL.of h.1) (.cons (.int _) (.cons (.int _) .nil))) (dPP_all t)
theorem LP.dp {K : PySem.W.Frag} {H : Hp} {D tp : Addr} {las : List Addr} {ns : List (Int × Int)} (L : LP H D tp las (ns.map vp)) : Dp K H (.ref D) (dPP ns) := .lst (SqL.of L.d) (dPP_all L.l)
/-- [tuple(pair) for pair in pairs] -/
theorem lc_tups {K : PySem.W.Frag} {H1 : Hp} {D tp E r : Addr} {las : List Addr} {ps : List Pr} {way place : Int} {x : Option V} {Qd : Hp → Prop} (L : LP H1 D tp las ps) (hE : H1 E = none) (hlen : ps.length < 1000) (k : ∀ (H' : Hp) (us : List V), H' E = some (.lst us) → PrsV H' us ps → Same H1 H' → Qd H') :
    ∃ W : Nat → Nat → Hp → Prop, (∃ m, W 0 m (upd H1 E (.lst []))) ∧ ∀ i m H, W i m H →
      ((Itl K D).stop i H ∧ Qd H) ∨ ((Itl K D).go i H ∧ ∃ Nx : Hp → Prop, (∀ H', Nx H' → ∃ m', m' < m ∧ W (i + 1) m' H') ∧ ∀ y H', (Itl K D).yld i H y H' → gName 5 y (wipe [some (.ref tp), some (.ref r), some (.ref D), some (.int way), some (.int place), x] [5]) H' fun σ2 H2 => wipe σ2 [5] = wipe [some (.ref tp), some (.ref r), some (.ref D), some (.int way), some (.int place), x] [5] ∧ tYes σ2 H2 fun b H3 =>
        if b = true then tCB (rTof K) (tCons (tVar 5) tNil) σ2 H3 fun y H4 => ∃ acc, H4 E = some (.lst acc) ∧ acc.length < sizeLine ∧ Nx (upd H4 E (.lst (acc ++ [y]))) else Nx H3) := by
  have hsl : sizeLine = 16777216 := sizeLine_eq
  have hln := plen L.l
  refine lc_list (K := K) (a := D) (xs := las.map V.ref) (fun i H' => ∃ us, H' E = some (.lst us) ∧ us.length = i ∧ PrsV H' us (ps.take i) ∧ Same H1 H') ⟨[], upd_same, rfl, .nil, up1 hE⟩ (fun i H' _ z => by obtain ⟨_, _, _, _, s⟩ := z; exact SqL.of (s _ _ L.d)) ?_ ?_
  · rintro i y H' hi ⟨us, hE', hul, hus, s1⟩
    have hil : i < las.length := by
      have := (List.getElem?_eq_some_iff.mp hi).1
      rw [List.length_map] at this
      exact this
    have hip : i < ps.length := by omega
    have ey : y = .ref las[i] := by
      rw [List.getElem?_map, List.getElem?_eq_getElem hil] at hi
      exact (Option.some.inj hi).symm
    subst ey
    obtain ⟨p, hp, hL, hu⟩ := pget L.l (List.getElem?_eq_getElem hil)
    obtain ⟨⟨u1, h1⟩, u2, h2⟩ := hu
    have ep : ps[i] = p := by rw [List.getElem?_eq_getElem hip] at hp; exact Option.some.inj hp
    refine ⟨rfl, _, rfl, las[i], _, rfl, .inl ⟨SqL.of (s1 _ _ hL), fun l hl => ?_⟩⟩
    have E_l : E ≠ l := ne_of_none hE' hl
    refine ⟨us, (by rw [upd_ne E_l]; exact hE'), by omega, us ++ [.ref l], upd_same, (by rw [List.length_append, List.length_singleton, hul]), ?_, fun b o e => ?_⟩
    · rw [List.take_succ_eq_append_getElem hip]
      have s2 : Same H' (upd H' l (.tup [p.1, p.2])) := up1 hl
      have e2 : ExT H' (upd (upd H' l (.tup [p.1, p.2])) E (.lst (us ++ [.ref l]))) := ExT.trans (.of s2) (Kept.ext (a := E) (fun b o e n => by rw [upd_ne n]; exact e) (by rw [upd_ne E_l]; exact hE'))
      refine papp (hus.ext e2) (.cons ?_ .nil)
      rw [ep]
      have e3 : ExT H1 (upd (upd H' l (.tup [p.1, p.2])) E (.lst (us ++ [.ref l]))) := ExT.trans (.of s1) e2
      exact ⟨l, rfl, by rw [upd_ne E_l.symm]; exact upd_same, ⟨u1, h1.ext e3⟩, u2, h2.ext e3⟩
    · rw [upd_ne (ne_of_none e hE), upd_ne (ne_of_none (s1 _ _ e) hl)]
      exact s1 _ _ e
  · rintro H' ⟨us, hE', hul, hus, s1⟩
    rw [List.length_map, hln, List.take_length] at hus
    exact k H' us hE' hus s1
def spBent (K : PySem.W.Frag) : Sp := fun vs H Q _ => ∃ (tp sp r : Addr) (ss : List Int) (pos : Nat) (rest seed b : Int) (ns : List (Int × Int)), vs = [.ref tp, .ref r] ∧ TapeAt H tp sp ss pos rest seed ∧ ss.length ≤ 63 ∧ Rec K H r (ns.map vp) ∧ ns.length < 100 ∧
  ∀ (H' : Hp) (r' : Addr) (g : Prop), Bent K H' b r' g → Q (.ref r') H'
section
variable {P : Program} {w : World} {K : PySem.W.Frag} {mg : Str → Option Value} {base : Heap}
theorem scBent : FnScope ["tape", "record", "pairs", "way", "place", "pair"] ["tape", "record"] (defScope sBent) := ⟨rfl, rfl, rfl, by decide +kernel, rfl, by decide +kernel, by decide +kernel⟩
theorem go_bent (F : GT K mg "_law_bent" sBent ["tape", "record"]) (B : Bn mg) (GNx : GO P w K mg base CX0 1 "_law_next" ["tape", "many"] spNext) : GO P w K mg base CX0 2 "_law_bent" ["tape", "record"] (spBent K) := by
  obtain ⟨f, fd, F, hm, hb⟩ := F
  refine ⟨f, fd, ?_, hm, F.kp, hb⟩
  refine F.ok scBent (fun vs H Q E h => ?_) (fun cdv A outer s H vs Q E hr h => ?_)
  · obtain ⟨tp, sp, r, ss, pos, rest, seed, b, ns, rfl, _⟩ := h
    rfl
  · obtain ⟨tp, sp, r, ss, pos, rest, seed, b, ns, rfl, T, hss, R, hl, k⟩ := h
    have nd := scBent.nd
    have hrN : Room 1 _ := hr
    have hsl : sizeLine = 16777216 := sizeLine_eq
    refine ⟨_, (pss_cons (ps_setLc (i := 2) (own := [("pair", 5)]) (g := (gName 5)) (tt := tYes) (te := tCB (rLof K) (tCons (tVar 5) tNil)) rfl nd rfl rfl (sw_true rfl rfl rfl (by decide +kernel)) (pi_tup (pe_ix ix_tup (pv 1) pe_int (fun _ _ => rfl))) (blkOk_by (N := ["tape", "record", "pairs", "way", "place", "pair"]) (sc := defScope sBent) (by decide +kernel)) (fun _ _ _ _ _ => (pg_name (i := 5) nd rfl (Or.inl rfl))) (fun _ _ _ _ _ => pts_nil) (fun _ _ _ _ _ => (pe_callTy (T := "list") (r := rLof K) call_list_of (by rfl) B.list (by decide +kernel) (pa_cons (pv 5) pa_nil))))
  (pss_cons (ps_set (i := 3) nd rfl (Or.inl rfl) (pc_ GNx hrN (pa_cons (pv 0) (pa_cons pe_int pa_nil))))
  (pss_cons (ps_set (i := 4) nd rfl (Or.inl rfl) (pc_ GNx hrN (pa_cons (pv 0) (pa_cons (pe_callB (call_max2 rfl) (by rfl) B.max (by decide +kernel) (pa_cons pe_int (pa_cons (pe_callB call_len_seq (by rfl) B.len PySem.boot_len (pa_cons (pv 2) pa_nil)) pa_nil))) pa_nil))))
  (pss_cons (ps_if (PW.pt (pw_or (pt_cmpR op_lt (pv 3) pe_int (nomark _)) (pw_or1 (pt_cmpR (op_eqD hr.units) (pv 2) (pe_lst pa_nil) (nomark _)))))
  (pss_one (ps_ret (pv 1)))
  pss_nil)
  (C8.pss_cut (ps_if (pt_cmpR op_eq (pv 3) pe_int (nomark _))
  (pss_one (ps_asg (pe_op op_add (pe_op op_add (pe_ix ix_list (pe_ix ix_list (pv 2) (pv 4) (fun _ _ => rfl)) pe_int (fun _ _ => rfl)) pe_int) (pc_ GNx hrN (pa_cons (pv 0) (pa_cons pe_int pa_nil)))) (pg_sub (pe_ix ix_list (pv 2) (pv 4) (fun _ _ => rfl)) pe_int set_list)))
  pss_nil)
  (C8.pss_cut (ps_if (pt_cmpR op_eq (pv 3) pe_int (nomark _))
  (pss_one (ps_asg (pe_ix ix_tup (pe_tup (pa_cons pe_non (pa_cons pe_bl (pa_cons pe_str (pa_cons (pe_tup (pa_cons pe_int pa_nil)) pa_nil))))) (pc_ GNx hrN (pa_cons (pv 0) (pa_cons pe_int pa_nil))) (fun _ _ => rfl)) (pg_sub (pe_ix ix_list (pv 2) (pv 4) (fun _ _ => rfl)) pe_int set_list)))
  pss_nil)
  (C8.pss_cut (ps_if (pt_cmpR op_eq (pv 3) pe_int (nomark _))
  (pss_one (ps_asg (pe_ix ix_tup (pe_tup (pa_cons pe_non (pa_cons pe_bl (pa_cons pe_str (pa_cons pe_int pa_nil))))) (pc_ GNx hrN (pa_cons (pv 0) (pa_cons pe_int pa_nil))) (fun _ _ => rfl)) (pg_sub (pe_ix ix_list (pv 2) (pv 4) (fun _ _ => rfl)) pe_int set_list)))
  pss_nil)
  (C8.pss_cut (ps_if (pt_cmpR op_eq (pv 3) pe_int (nomark _))
  (pss_one (ps_expr (pe_bm PySem.F.plainAttrs_list PySem.F.slot_list_append PySem.F.type_list_append mt_append (pv 2) (pa_cons (pe_callTy call_list_of (by rfl) B.list (by decide +kernel) (pa_cons (pe_ix ix_list (pv 2) (pv 4) (fun _ _ => rfl)) pa_nil)) pa_nil))))
  pss_nil)
  (pss_cons (ps_if (pt_cmpR op_eq (pv 3) pe_int (nomark _))
  (pss_one (ps_ret (pe_tup (pa_cons pe_str (pa_cons (pe_lc (own := [("pair", 5)]) (g := (gName 5)) (tt := tYes) (te := tCB (rTof K) (tCons (tVar 5) tNil)) rfl nd (pi_list (pv 2)) (blkOk_by (N := ["tape", "record", "pairs", "way", "place", "pair"]) (sc := defScope sBent) (by decide +kernel)) (fun _ _ _ _ _ => (pg_name (i := 5) nd rfl (Or.inl rfl))) (fun _ _ _ _ _ => pts_nil) (fun _ _ _ _ _ => (pe_callTy (T := "tuple") (r := rTof K) call_tuple_of (by rfl) B.tuple (by decide +kernel) (pa_cons (pv 5) pa_nil)))) pa_nil)))))
  pss_nil)
  (pss_cons (ps_if (pt_cmpR op_eq (pv 3) pe_int (nomark _))
  (pss_one (ps_ret (pe_tup (pa_cons pe_str (pa_cons (pe_ix ix_tup (pv 1) pe_int (fun _ _ => rfl)) pa_nil)))))
  pss_nil)
  (pss_cons (ps_if (pt_cmpR op_eq (pv 3) pe_int (nomark _))
  (pss_one (ps_ret (pe_tup (pa_cons (pe_ix ix_tup (pv 1) pe_int (fun _ _ => rfl)) (pa_cons (pe_ix ix_tup (pv 1) pe_int (fun _ _ => rfl)) (pa_cons (pe_tup pa_nil) pa_nil))))))
  pss_nil)
  (pss_one (ps_ret (pe_tup (pa_cons pe_str (pa_cons (pe_callTy call_tuple_of (by rfl) B.tuple (by decide +kernel) (pa_cons (pe_lc (own := [("pair", 5)]) (g := (gName 5)) (tt := tYes) (te := tCB (rTof K) (tCons (tVar 5) tNil)) rfl nd (pi_list (pv 2)) (blkOk_by (N := ["tape", "record", "pairs", "way", "place", "pair"]) (sc := defScope sBent) (by decide +kernel)) (fun _ _ _ _ _ => (pg_name (i := 5) nd rfl (Or.inl rfl))) (fun _ _ _ _ _ => pts_nil) (fun _ _ _ _ _ => (pe_callTy (T := "tuple") (r := rTof K) call_tuple_of (by rfl) B.tuple (by decide +kernel) (pa_cons (pv 5) pa_nil)))) pa_nil)) pa_nil)))))))))))))))), ?_⟩
    obtain ⟨q, ts, h1, h2, h3⟩ := id R
    have hln : ts.length = ns.length := by rw [plen h3, List.length_map]
    -- pairs
    refine ⟨_, rfl, r, _, 1, _, rfl, rfl, h1, at1, q, rfl, ⟨_, h2⟩, fun D hD => lc_tup (K := K) (a := q) (xs := ts) (fun i H' => ∃ las, H' D = some (.lst (las.map V.ref)) ∧ las.length = i ∧ Paired (PairL H') las ((ns.take i).map vp) ∧ las.Nodup ∧ D ∉ las ∧ (∀ la ∈ las, H la = none) ∧ Same H H') ⟨[], upd_same, rfl, .nil, List.nodup_nil, by simp, by simp, up1 hD⟩ (fun i H' _ z => by obtain ⟨_, _, _, _, _, _, _, s⟩ := z; exact h2.same s) ?_ ?_⟩
    · rintro i v H' hi ⟨las, hD', hll, hp, hnd, hDl, hnew, s1⟩
      obtain ⟨p, hpp, hx⟩ := pget h3 hi
      have hil : i < ns.length := by
        have := (List.getElem?_eq_some_iff.mp hpp).1
        rw [List.length_map] at this
        exact this
      have ep : p = vp ns[i] := by
        rw [List.getElem?_map, List.getElem?_eq_getElem hil] at hpp
        exact (Option.some.inj hpp).symm
      subst ep
      obtain ⟨t, rfl, ht, _⟩ := hx
      refine ⟨rfl, _, rfl, t, _, rfl, .inr (SqT.of (s1 _ _ ht)), fun l hl' => ?_⟩
      have D_l : D ≠ l := ne_of_none hD' hl'
      have lin : l ∉ las := fun z => by
        obtain ⟨p, h, _⟩ := pl_some hp l z
        rw [hl'] at h
        cases h
      refine ⟨_, (by rw [upd_ne D_l]; exact hD'), (by rw [List.length_map]; omega), las ++ [l], ?_, (by rw [List.length_append, List.length_singleton, hll]), ?_, ?_, ?_, ?_, fun b o e => ?_⟩
      · rw [upd_same, List.map_append]
        rfl
      · rw [List.take_succ_eq_append_getElem hil, List.map_append]
        have e2 : ExT H' (upd (upd H' l (.lst [(vp ns[i]).1, (vp ns[i]).2])) D (.lst (las.map V.ref ++ [.ref l]))) := ExT.trans (.of (up1 hl')) (Kept.ext (a := D) (fun b o e n => by rw [upd_ne n]; exact e) (by rw [upd_ne D_l]; exact hD'))
        refine papp (pl_keep e2 (fun la hla => ?_) hp) (.cons ⟨by rw [upd_ne D_l.symm]; exact upd_same, ⟨_, .flat rfl⟩, _, .flat rfl⟩ .nil)
        rw [upd_ne (fun z => hDl (by rw [← z]; exact hla)), upd_ne (fun z => lin (by rw [← z]; exact hla))]
      · exact List.nodup_append.mpr ⟨hnd, by simp, fun a ha b hb => by
          rw [List.mem_singleton.mp hb]
          intro z
          exact lin (by rw [← z]; exact ha)⟩
      · intro z
        rcases List.mem_append.mp z with z | z
        · exact hDl z
        · exact D_l (List.mem_singleton.mp z)
      · intro la hla
        rcases List.mem_append.mp hla with z | z
        · exact hnew la z
        · rw [List.mem_singleton.mp z]
          exact s1.free hl'
      · rw [upd_ne (ne_of_none e hD), upd_ne (ne_of_none (s1 _ _ e) hl')]
        exact s1 _ _ e
    rintro H1 ⟨las, hD1, hll, hp, hnd, hDl, hnew, s1⟩
    rw [hln, List.take_length] at hp
    have T1 : TapeAt H1 tp sp ss pos rest seed := ⟨s1 _ _ T.t, s1 _ _ T.s, T.r, T.s0, T.s1⟩
    have G1 : LP H1 D tp las (ns.map vp) := ⟨hD1, hp, hnd, hDl, (fun z => by have := T.t; rw [hnew tp z] at this; cases this), (fun z => by have := T.t; rw [← z, hD] at this; cases this)⟩
    have R1 := R.same s1
    have hll' : las.length = ns.length := by rw [hll, hln]
    -- way, place
    refine ⟨_, rfl, tp, sp, ss, pos, rest, seed, 9, rfl, T1, by decide, by decide, hss, fun way H2 pos2 rest2 seed2 w0 w9 T2 k2 => ?_⟩
    have G2 := G1.kept k2 T1.t
    have R2 := R1.ext (k2.ext T1.t)
    refine ⟨_, rfl, _, rfl, D, _, rfl, .inl (SqL.of G2.d), _, _, rfl, tp, sp, ss, pos2, rest2, seed2, _, rfl, T2, ?_, ?_, hss, fun place H3 pos3 rest3 seed3 p0 p9 T3 k3 => ?_⟩
    · split <;> omega
    · rw [List.length_map]; split <;> omega
    have G3 := G2.kept k3 T2.t
    have R3 := R2.ext (k3.ext T2.t)
    obtain ⟨q3, ts3, h31, h32, h33⟩ := id R3
    have hbR : Bent K H3 b r (Good b (ns.map vp)) := .rcd R3 (by rw [List.length_map]; omega)
    -- way < 2 or pairs == []
    refine ⟨_, rfl, _, _, rfl, rfl, _, rfl, ite2 (fun c => ?_) (fun c => ?_)⟩
    · exact iteT ⟨_, rfl, k _ _ _ hbR⟩
    refine ⟨_, rfl, (by show 0 ≤ sizeLine; exact Nat.zero_le _), fun p4 hp4 => ?_⟩
    have s4 := up1 (o := HO.lst []) hp4
    have e4 : upd H3 p4 (HO.lst []) p4 = _ := upd_same
    generalize upd H3 p4 (HO.lst []) = H4 at s4 e4 ⊢
    have G4 := G3.same s4
    have R4 := R3.same s4
    have T4 : TapeAt H4 tp sp ss pos3 rest3 seed3 := ⟨s4 _ _ T3.t, s4 _ _ T3.s, T3.r, T3.s0, T3.s1⟩
    refine ⟨_, _, G4.dp, .lst (SqL.of e4) .nil, dPP_shaped ns, (by decide +kernel), _, rfl, ?_⟩
    by_cases hnil : ns = []
    · rw [show PyData.eqv (dPP ns) (.list []) = true by rw [hnil]; decide +kernel]
      exact iteT ⟨_, rfl, k _ _ _ (hbR.same s4)⟩
    rw [show PyData.eqv (dPP ns) (.list []) = false by
      cases ns with
      | nil => exact absurd rfl hnil
      | cons n ns => simp [dPP, PyData.eqv, PyData.eqvAll]]
    refine iteF ?_
    have hn0 : 0 < ns.length := List.length_pos_iff.mpr hnil
    have hpl : place < ns.length := by
      rw [List.length_map, hll'] at p9
      split at p9 <;> omega
    obtain ⟨pn, rfl⟩ : ∃ pn : Nat, place = (pn : Int) := ⟨place.toNat, by omega⟩
    have hpn : pn < ns.length := by omega
    clear p9 p0 hpl
    -- what stands between the statements
    have spl : sp ∉ las := fun z => by
      have := T.s
      rw [hnew sp z] at this
      cases this
    generalize hMid : (fun (σ' : L2.St) (H' : Hp) => ∃ (las : List Addr) (ps : List Pr) (pos : Nat) (rest seed : Int), σ' = [some (.ref tp), some (.ref r), some (.ref D), some (.int way), some (.int (pn : Int)), none] ∧ LP H' D tp las ps ∧ ps.length = ns.length ∧ TapeAt H' tp sp ss pos rest seed ∧ sp ∉ las ∧ Rec K H' r (ns.map vp)) = Mid
    have lat : ∀ {H' : Hp} {las : List Addr} {ps : List Pr}, LP H' D tp las ps → ps.length = ns.length → ∃ la p, las[pn]? = some la ∧ ps[pn]? = some p ∧ PairL H' la p := fun {H' las ps} L hl => by
      have h1 : pn < las.length := by rw [plen L.l]; omega
      obtain ⟨p, hp, hL⟩ := pget L.l (List.getElem?_eq_getElem h1)
      exact ⟨_, p, List.getElem?_eq_getElem h1, hp, hL⟩
    have ixr : ∀ {las : List Addr} {la : Addr}, las[pn]? = some la → atI (las.map V.ref) (pn : Int) = some (.ref la) := fun {las la} h => atI_nat (by rw [List.getElem?_map, h]; rfl)
    -- an entry is put
    have putM : ∀ {H' : Hp} {las : List Addr} {ps : List Pr} {la : Addr} {p' : Pr} {pos : Nat} {rest seed : Int}, LP H' D tp las ps → ps.length = ns.length → TapeAt H' tp sp ss pos rest seed → sp ∉ las → Rec K H' r (ns.map vp) → las[pn]? = some la → (∃ u, SV H' p'.1 u) → (∃ u, SV H' p'.2 u) →
        Mid [some (.ref tp), some (.ref r), some (.ref D), some (.int way), some (.int (pn : Int)), none] (upd H' la (.lst [p'.1, p'.2])) := fun {H' las ps la p' pos rest seed} L hl T hs R h h1 h2 => by
      rw [← hMid]
      obtain ⟨p, hp, _⟩ := pl_some L.l la (List.mem_of_getElem? h)
      have hla := List.mem_of_getElem? h
      exact ⟨las, ps.set pn p', pos, rest, seed, rfl, L.put h h1 h2, by rw [sets_len]; exact hl, ⟨by rw [upd_ne fun z => L.nt (by rw [z]; exact hla)]; exact T.t, by rw [upd_ne fun z => hs (by rw [z]; exact hla)]; exact T.s, T.r, T.s0, T.s1⟩, hs, R.ext (Kept.ext (a := la) (fun b o e n => by rw [upd_ne n]; exact e) hp)⟩
    have stay : ∀ {H' : Hp} {las : List Addr} {ps : List Pr} {pos : Nat} {rest seed : Int}, LP H' D tp las ps → ps.length = ns.length → TapeAt H' tp sp ss pos rest seed → sp ∉ las → Rec K H' r (ns.map vp) →
        Mid [some (.ref tp), some (.ref r), some (.ref D), some (.int way), some (.int (pn : Int)), none] H' := fun L hl T hs R => by
      rw [← hMid]
      exact ⟨_, _, _, _, _, rfl, L, hl, T, hs, R⟩
    have hnl : (ns.map vp).length = ns.length := List.length_map ..
    -- way 2
    refine ⟨Mid, ?_, ?_⟩
    · refine ⟨_, rfl, rfl, _, rfl, ite2 (fun c => ?_) (fun c => ?_)⟩
      · obtain ⟨la, p, hla, hp, hL⟩ := lat G4 hnl
        have ep : p = vp ns[pn] := by
          rw [List.getElem?_map, List.getElem?_eq_getElem hpn] at hp
          exact (Option.some.inj hp).symm
        subst ep
        refine ⟨_, rfl, _, rfl, D, _, _, _, rfl, rfl, SqL.of G4.d, ixr hla, la, _, 0, _, rfl, rfl, SqL.of hL.1, at0, _, _, rfl, rfl, _, rfl, tp, sp, ss, pos3, rest3, seed3, 4, rfl, T4, by decide, by decide, hss, fun x H5 pos5 rest5 seed5 x0 x4 T5 k5 => ?_⟩
        have G5 := G4.kept k5 T4.t
        have R5 := R4.ext (k5.ext T4.t)
        have hL5 : H5 la = some (.lst [V.int (ns[pn]).1, V.int (ns[pn]).2]) := k5 _ _ hL.1 fun z => G4.nt (by rw [← z]; exact List.mem_of_getElem? hla)
        refine ⟨_, _, rfl, rfl, _, rfl, _, rfl, D, _, _, _, rfl, rfl, SqL.of G5.d, ixr hla, la, _, 0, 0, rfl, rfl, hL5, rfl, ?_⟩
        exact putM (p' := (V.int ((ns[pn]).1 + 1 + x), V.int (ns[pn]).2)) G5 hnl T5 spl R5 hla ⟨_, .flat rfl⟩ ⟨_, .flat rfl⟩
      · exact stay G4 hnl T4 spl R4
    clear G1 G4 R1 R4 T1 T4 k2 k3 G2 G3 R2 R3 T2 T3
    -- way 3
    rintro σ' H5 mid
    rw [← hMid] at mid
    obtain ⟨las, ps, pos5, rest5, seed5, rfl, G5, hl5, T5, hs5, R5⟩ := mid
    refine ⟨Mid, ?_, ?_⟩
    · refine ⟨_, rfl, rfl, _, rfl, ite2 (fun c => ?_) (fun c => ?_)⟩
      · obtain ⟨la, ⟨x, y⟩, hla, hp, hL⟩ := lat G5 hl5
        refine ⟨(by show 1 ≤ sizeLine; decide), fun p1 hp1 => ⟨(by show 4 ≤ sizeLine; decide), fun p2 hp2 => ?_⟩⟩
        have s6 := up1 (o := HO.tup [V.int 1]) hp1
        have e6 : upd H5 p1 (HO.tup [V.int 1]) p1 = _ := upd_same
        generalize upd H5 p1 (HO.tup [V.int 1]) = H6 at s6 e6 hp2 ⊢
        have s7 := up1 (o := HO.tup [V.non, V.bl true, V.str "a", V.ref p1]) hp2
        have e7 : upd H6 p2 (HO.tup [V.non, V.bl true, V.str "a", V.ref p1]) p2 = _ := upd_same
        generalize upd H6 p2 (HO.tup [V.non, V.bl true, V.str "a", V.ref p1]) = H7 at s7 e7 ⊢
        have s57 := s6.trans s7
        have T7 : TapeAt H7 tp sp ss pos5 rest5 seed5 := ⟨s57 _ _ T5.t, s57 _ _ T5.s, T5.r, T5.s0, T5.s1⟩
        refine ⟨_, rfl, tp, sp, ss, pos5, rest5, seed5, 4, rfl, T7, by decide, by decide, hss, fun z H8 pos8 rest8 seed8 z0 z4 T8 k8 => ?_⟩
        have x8 := k8.ext T7.t
        have G8 := (G5.same s57).kept k8 T7.t
        have R8 := (R5.same s57).ext x8
        have hL8 : H8 la = some (.lst [x, y]) := k8 _ _ (s57 _ _ hL.1) fun z => G5.nt (by rw [← z]; exact List.mem_of_getElem? hla)
        have sx : ∃ u, SV H8 x u := let ⟨u, h⟩ := hL.2.1; ⟨u, (h.same s57).ext x8⟩
        have e8 := x8.1 _ _ e7
        have e81 := x8.1 _ _ (s7 _ _ e6)
        rcases (show z = 0 ∨ z = 1 ∨ z = 2 ∨ z = 3 by omega) with rfl | rfl | rfl | rfl
        · refine ⟨p2, _, 0, _, rfl, rfl, SqT.of e8, rfl, _, rfl, _, rfl, D, _, _, _, rfl, rfl, SqL.of G8.d, ixr hla, la, _, 1, 1, rfl, rfl, hL8, rfl, ?_⟩
          exact putM (p' := (x, V.non)) G8 hl5 T8 hs5 R8 hla sx ⟨_, .flat rfl⟩
        · refine ⟨p2, _, 1, _, rfl, rfl, SqT.of e8, rfl, _, rfl, _, rfl, D, _, _, _, rfl, rfl, SqL.of G8.d, ixr hla, la, _, 1, 1, rfl, rfl, hL8, rfl, ?_⟩
          exact putM (p' := (x, V.bl true)) G8 hl5 T8 hs5 R8 hla sx ⟨_, .flat rfl⟩
        · refine ⟨p2, _, 2, _, rfl, rfl, SqT.of e8, rfl, _, rfl, _, rfl, D, _, _, _, rfl, rfl, SqL.of G8.d, ixr hla, la, _, 1, 1, rfl, rfl, hL8, rfl, ?_⟩
          exact putM (p' := (x, V.str "a")) G8 hl5 T8 hs5 R8 hla sx ⟨_, .flat rfl⟩
        · refine ⟨p2, _, 3, _, rfl, rfl, SqT.of e8, rfl, _, rfl, _, rfl, D, _, _, _, rfl, rfl, SqL.of G8.d, ixr hla, la, _, 1, 1, rfl, rfl, hL8, rfl, ?_⟩
          exact putM (p' := (x, V.ref p1)) G8 hl5 T8 hs5 R8 hla sx ⟨_, .tup e81⟩
      · exact stay G5 hl5 T5 hs5 R5
    clear G5 T5 R5 hl5 hs5
    -- way 4
    rintro σ' H5 mid
    rw [← hMid] at mid
    obtain ⟨las, ps, pos5, rest5, seed5, rfl, G5, hl5, T5, hs5, R5⟩ := mid
    refine ⟨Mid, ?_, ?_⟩
    · refine ⟨_, rfl, rfl, _, rfl, ite2 (fun c => ?_) (fun c => ?_)⟩
      · obtain ⟨la, ⟨x, y⟩, hla, hp, hL⟩ := lat G5 hl5
        refine ⟨(by show 4 ≤ sizeLine; decide), fun p2 hp2 => ?_⟩
        have s57 := up1 (o := HO.tup [V.non, V.bl true, V.str "a", V.int 1]) hp2
        have e7 : upd H5 p2 (HO.tup [V.non, V.bl true, V.str "a", V.int 1]) p2 = _ := upd_same
        generalize upd H5 p2 (HO.tup [V.non, V.bl true, V.str "a", V.int 1]) = H7 at s57 e7 ⊢
        have T7 : TapeAt H7 tp sp ss pos5 rest5 seed5 := ⟨s57 _ _ T5.t, s57 _ _ T5.s, T5.r, T5.s0, T5.s1⟩
        refine ⟨_, rfl, tp, sp, ss, pos5, rest5, seed5, 4, rfl, T7, by decide, by decide, hss, fun z H8 pos8 rest8 seed8 z0 z4 T8 k8 => ?_⟩
        have x8 := k8.ext T7.t
        have G8 := (G5.same s57).kept k8 T7.t
        have R8 := (R5.same s57).ext x8
        have hL8 : H8 la = some (.lst [x, y]) := k8 _ _ (s57 _ _ hL.1) fun z => G5.nt (by rw [← z]; exact List.mem_of_getElem? hla)
        have sy : ∃ u, SV H8 y u := let ⟨u, h⟩ := hL.2.2; ⟨u, (h.same s57).ext x8⟩
        have e8 := x8.1 _ _ e7
        rcases (show z = 0 ∨ z = 1 ∨ z = 2 ∨ z = 3 by omega) with rfl | rfl | rfl | rfl
        · refine ⟨p2, _, 0, _, rfl, rfl, SqT.of e8, rfl, _, rfl, _, rfl, D, _, _, _, rfl, rfl, SqL.of G8.d, ixr hla, la, _, 0, 0, rfl, rfl, hL8, rfl, ?_⟩
          exact putM (p' := (V.non, y)) G8 hl5 T8 hs5 R8 hla ⟨_, .flat rfl⟩ sy
        · refine ⟨p2, _, 1, _, rfl, rfl, SqT.of e8, rfl, _, rfl, _, rfl, D, _, _, _, rfl, rfl, SqL.of G8.d, ixr hla, la, _, 0, 0, rfl, rfl, hL8, rfl, ?_⟩
          exact putM (p' := (V.bl true, y)) G8 hl5 T8 hs5 R8 hla ⟨_, .flat rfl⟩ sy
        · refine ⟨p2, _, 2, _, rfl, rfl, SqT.of e8, rfl, _, rfl, _, rfl, D, _, _, _, rfl, rfl, SqL.of G8.d, ixr hla, la, _, 0, 0, rfl, rfl, hL8, rfl, ?_⟩
          exact putM (p' := (V.str "a", y)) G8 hl5 T8 hs5 R8 hla ⟨_, .flat rfl⟩ sy
        · refine ⟨p2, _, 3, _, rfl, rfl, SqT.of e8, rfl, _, rfl, _, rfl, D, _, _, _, rfl, rfl, SqL.of G8.d, ixr hla, la, _, 0, 0, rfl, rfl, hL8, rfl, ?_⟩
          exact putM (p' := (V.int 1, y)) G8 hl5 T8 hs5 R8 hla ⟨_, .flat rfl⟩ sy
      · exact stay G5 hl5 T5 hs5 R5
    clear G5 T5 R5 hl5 hs5
    -- way 5
    rintro σ' H5 mid
    rw [← hMid] at mid
    obtain ⟨las, ps, pos5, rest5, seed5, rfl, G5, hl5, T5, hs5, R5⟩ := mid
    refine ⟨fun σ' H' => ∃ (las : List Addr) (ps : List Pr), σ' = [some (.ref tp), some (.ref r), some (.ref D), some (.int way), some (.int (pn : Int)), none] ∧ LP H' D tp las ps ∧ ps.length < 1000 ∧ Rec K H' r (ns.map vp), ?_, ?_⟩
    · refine ⟨_, rfl, rfl, _, rfl, ite2 (fun c => ?_) (fun c => ?_)⟩
      · obtain ⟨la, ⟨x, y⟩, hla, hp, hL⟩ := lat G5 hl5
        refine ⟨_, rfl, .inl ⟨rfl, _, SqL.of G5.d⟩, _, rfl, _, rfl, D, _, _, _, rfl, rfl, SqL.of G5.d, ixr hla, la, _, rfl, .inl (SqL.of hL.1), fun q hq => ?_⟩
        have s6 := up1 (o := HO.lst [x, y]) hq
        have e6 : upd H5 q (HO.lst [x, y]) q = _ := upd_same
        have D_q : D ≠ q := ne_of_none G5.d hq
        have t_q : tp ≠ q := ne_of_none T5.t hq
        have q_l : q ∉ las := fun z => by
          obtain ⟨p, h, _⟩ := pl_some G5.l q z
          rw [hq] at h
          cases h
        generalize upd H5 q (HO.lst [x, y]) = H6 at s6 e6 ⊢
        have G6 := G5.same s6
        have hll6 := plen G6.l
        refine ⟨D, _, _, rfl, rfl, G6.d, (by rw [List.length_map]; omega), las ++ [q], ps ++ [(x, y)], rfl, ?_, (by rw [List.length_append, List.length_singleton]; omega), ?_⟩
        · have xD : ExT H6 (upd H6 D (.lst (las.map V.ref ++ [.ref q]))) := Kept.ext (a := D) (fun b o e n => by rw [upd_ne n]; exact e) G6.d
          refine ⟨by rw [upd_same, List.map_append]; rfl, papp (pl_keep xD (fun la hla => upd_ne fun z => G6.nD (by rw [← z]; exact hla)) G6.l) (.cons ⟨by rw [upd_ne D_q.symm]; exact e6, ?_, ?_⟩ .nil), ?_, ?_, ?_, G6.Dt⟩
          · obtain ⟨u, h⟩ := hL.2.1
            exact ⟨u, (h.same s6).ext xD⟩
          · obtain ⟨u, h⟩ := hL.2.2
            exact ⟨u, (h.same s6).ext xD⟩
          · exact List.nodup_append.mpr ⟨G6.nd, by simp, fun a ha b hb => by
              rw [List.mem_singleton.mp hb]
              intro z
              exact q_l (by rw [← z]; exact ha)⟩
          · intro z
            rcases List.mem_append.mp z with z | z
            · exact G6.nD z
            · exact D_q (List.mem_singleton.mp z)
          · intro z
            rcases List.mem_append.mp z with z | z
            · exact G6.nt z
            · exact t_q (List.mem_singleton.mp z)
        · exact (R5.same s6).ext (Kept.ext (a := D) (fun b o e n => by rw [upd_ne n]; exact e) G6.d)
      · exact ⟨las, ps, rfl, G5, by omega, R5⟩
    clear G5 T5 R5 hl5 hs5
    rintro σ' H5 ⟨las, ps, rfl, G5, hl5, R5⟩
    obtain ⟨q5, ts5, h51, h52, h53⟩ := id R5
    -- way 6
    refine ⟨_, rfl, rfl, _, rfl, ite2 (fun c => ?_) (fun c => ?_)⟩
    · refine ⟨_, rfl, D, rfl, ⟨_, SqL.of G5.d⟩, fun E2 hE2 => lc_tups G5 hE2 hl5 fun H6 us e6 pu s6 => ⟨(by show 2 ≤ sizeLine; decide), fun z hz => ?_⟩⟩
      exact k _ z _ (.lst (SqT.of upd_same) (up1 hz _ _ e6))
    -- way 7
    refine ⟨_, rfl, rfl, _, rfl, ite2 (fun c => ?_) (fun c => ?_)⟩
    · refine ⟨_, rfl, r, _, 1, _, rfl, rfl, h51, at1, (by show 2 ≤ sizeLine; decide), fun z hz => ?_⟩
      exact k _ z _ (.row (SqT.of upd_same))
    -- way 8
    refine ⟨_, rfl, rfl, _, rfl, ite2 (fun c => ?_) (fun c => ?_)⟩
    · refine ⟨_, rfl, r, _, 0, _, rfl, rfl, h51, at0, _, rfl, r, _, 1, _, rfl, rfl, h51, at1, (by show 0 ≤ sizeLine; exact Nat.zero_le _), fun z0 hz0 => ⟨(by show 3 ≤ sizeLine; decide), fun z hz => ?_⟩⟩
      exact k _ z _ (.tri (SqT.of upd_same))
    -- the end
    refine ⟨_, rfl, D, rfl, ⟨_, SqL.of G5.d⟩, fun E2 hE2 => lc_tups G5 hE2 hl5 fun H6 us e6 pu s6 => ⟨E2, _, rfl, .inl ⟨SqL.of e6, fun u hu => ⟨(by show 2 ≤ sizeLine; decide), fun z hz => ?_⟩⟩⟩⟩
    have s7 := up1 (o := HO.tup us) hu
    have e7 : upd H6 u (HO.tup us) u = _ := upd_same
    generalize upd H6 u (HO.tup us) = H7 at s7 e7 hz ⊢
    exact k _ z _ (.rcd ⟨u, us, SqT.of upd_same, SqT.of (up1 hz _ _ e7), pu.same (s7.trans (up1 hz))⟩ hl5)
end
end Dk

set_option maxHeartbeats 16000000
/-! the law k13 -/
namespace Dk
open PySem PySem.Spec PyProof.Rows L2 StX
abbrev sLaw : Stmt := top 18
abbrev Tb := List (Int × Int)
def keys (t : Tb) : List Int := t.map (·.1)
def wo (t : Tb) (k : Int) : Tb := t.filter fun n => !decide (n.1 = k)
def putI (t : Tb) (k v : Int) : Tb := if (t.any fun n => decide (n.1 = k)) = true then t.map (fun n => if n.1 = k then (n.1, v) else n) else t ++ [(k, v)]
theorem lookup_mem {k v : Int} : ∀ {t : Tb}, (keys t).Nodup → (t.lookup k = some v ↔ (k, v) ∈ t)
  | [], _ => by simp [List.lookup]
  | (k', v') :: t, nd => by
    have nd' : k' ∉ keys t ∧ (keys t).Nodup := List.nodup_cons.mp nd
    rw [List.lookup_cons]
    by_cases c : k = k'
    · subst c
      rw [beq_self_eq_true]
      constructor
      · intro h
        cases h
        exact List.mem_cons_self
      · intro h
        rcases List.mem_cons.mp h with e | e
        · cases e; rfl
        · exact absurd (List.mem_map.mpr ⟨_, e, rfl⟩) nd'.1
    · rw [beq_false_of_ne c]
      show t.lookup k = some v ↔ _
      rw [lookup_mem nd'.2]
      constructor
      · exact fun h => List.mem_cons_of_mem _ h
      · intro h
        rcases List.mem_cons.mp h with e | e
        · cases e; exact absurd rfl c
        · exact e
theorem lookup_perm {a b : Tb} {k : Int} (p : a.Perm b) (nd : (keys b).Nodup) : a.lookup k = b.lookup k := by
  have nda : (keys a).Nodup := (p.map _).nodup_iff.mpr nd
  cases ea : a.lookup k with
  | some v =>
    have := (lookup_mem nda).mp ea
    exact ((lookup_mem nd).mpr (p.mem_iff.mp this)).symm
  | none =>
    cases eb : b.lookup k with
    | none => rfl
    | some v =>
      have := (lookup_mem nda).mpr (p.mem_iff.mpr ((lookup_mem nd).mp eb))
      rw [ea] at this
      cases this
theorem valV_kvI (k : Int) : ∀ t : Tb, valV (Rt.kvI t) (Sum.inl k : Key) = (t.lookup k).map V.int
  | [] => rfl
  | (k', v') :: t => by
    rw [List.lookup_cons]
    by_cases c : k' = k
    · subst c
      rw [beq_self_eq_true]
      exact valV_pos rfl
    · rw [beq_false_of_ne fun z => c z.symm]
      show _ = (t.lookup k).map V.int
      rw [← valV_kvI k t]
      exact valV_neg fun z => c (Sum.inl.inj z)
theorem inl_iff {a b : Int} : decide ((Sum.inl a : Key) = Sum.inl b) = decide (a = b) := by
  by_cases c : a = b
  · rw [decide_eq_true c, decide_eq_true (congrArg Sum.inl c)]
  · rw [decide_eq_false c, decide_eq_false fun z => c (Sum.inl.inj z)]
theorem any_kvI (k : Int) : ∀ t : Tb, ((Rt.kvI t).any fun kv => decide (kv.1 = (Sum.inl k : Key))) = t.any fun n => decide (n.1 = k)
  | [] => rfl
  | n :: t => by
    show (decide ((Sum.inl n.1 : Key) = Sum.inl k) || ((Rt.kvI t).any fun kv => decide (kv.1 = (Sum.inl k : Key)))) = (decide (n.1 = k) || t.any fun n => decide (n.1 = k))
    rw [any_kvI k t, inl_iff]
theorem putK_kvI (t : Tb) (k v : Int) : putK (Rt.kvI t) (Sum.inl k : Key) (.int v) = Rt.kvI (putI t k v) := by
  unfold putK putI
  rw [any_kvI]
  split
  · unfold Rt.kvI
    rw [List.map_map, List.map_map]
    refine List.map_congr_left fun n _ => ?_
    show (if (Sum.inl n.1 : Key) = Sum.inl k then ((Sum.inl n.1 : Key), V.int v) else (Sum.inl n.1, V.int n.2)) = ((fun n : Int × Int => ((Sum.inl n.1 : Key), V.int n.2)) (if n.1 = k then (n.1, v) else n))
    by_cases c : n.1 = k
    · rw [if_pos (congrArg Sum.inl c), if_pos c]
    · rw [if_neg fun z => c (Sum.inl.inj z), if_neg c]
  · unfold Rt.kvI
    rw [List.map_append]
    rfl
theorem dropK_kvI (k : Int) : ∀ t : Tb, dropK (Rt.kvI t) (Sum.inl k : Key) = Rt.kvI (wo t k)
  | [] => rfl
  | n :: t => by
    have ih := dropK_kvI k t
    by_cases c : n.1 = k
    · have e1 : wo (n :: t) k = wo t k := by unfold wo; rw [List.filter_cons, if_neg (by simp [c])]
      rw [e1, ← ih]
      exact List.filter_cons_of_neg (by simp [c])
    · have e1 : wo (n :: t) k = n :: wo t k := by unfold wo; rw [List.filter_cons, if_pos (by simp [c])]
      rw [e1]
      show _ = (Sum.inl n.1, V.int n.2) :: Rt.kvI (wo t k)
      rw [← ih]
      exact List.filter_cons_of_pos (by simp [c])
theorem wo_none {k : Int} : ∀ {t : Tb}, t.lookup k = none → wo t k = t
  | [], _ => rfl
  | (k', v') :: t, h => by
    rw [List.lookup_cons] at h
    by_cases c : k = k'
    · rw [c, beq_self_eq_true] at h
      cases h
    · rw [beq_false_of_ne c] at h
      have e1 : wo ((k', v') :: t) k = (k', v') :: wo t k := by unfold wo; rw [List.filter_cons, if_pos (by simp; exact fun z => c z.symm)]
      rw [e1, wo_none h]
theorem wo_not {k : Int} {t : Tb} (h : k ∉ keys t) : wo t k = t := List.filter_eq_self.mpr fun n hn => by
  have : n.1 ≠ k := fun z => h (List.mem_map.mpr ⟨n, hn, z⟩)
  simp [this]
theorem putI_perm {k v : Int} : ∀ {t : Tb}, (keys t).Nodup → (putI t k v).Perm (wo t k ++ [(k, v)])
  | [], _ => .refl _
  | n :: t, nd => by
    have nd' : n.1 ∉ keys t ∧ (keys t).Nodup := List.nodup_cons.mp nd
    by_cases c : n.1 = k
    · have e1 : wo (n :: t) k = wo t k := by unfold wo; rw [List.filter_cons, if_neg (by simp [c])]
      have e2 : wo t k = t := wo_not (by rw [← c]; exact nd'.1)
      have e3 : putI (n :: t) k v = (k, v) :: t := by
        unfold putI
        rw [if_pos (by simp [c]), List.map_cons, if_pos c, c]
        refine congrArg _ ?_
        have : t.map (fun n => if n.1 = k then (n.1, v) else n) = t.map id := List.map_congr_left fun m hm => if_neg fun z => nd'.1 (by rw [c, ← z]; exact List.mem_map.mpr ⟨m, hm, rfl⟩)
        rw [this, List.map_id]
      rw [e1, e2, e3]
      exact (List.perm_append_comm (l₁ := [(k, v)]) (l₂ := t))
    · have e1 : wo (n :: t) k = n :: wo t k := by unfold wo; rw [List.filter_cons, if_pos (by simp [c])]
      have e3 : putI (n :: t) k v = n :: putI t k v := by
        unfold putI
        have ea : ((n :: t).any fun n => decide (n.1 = k)) = (t.any fun n => decide (n.1 = k)) := by simp [c]
        rw [ea]
        split
        · rw [List.map_cons, if_neg c]
        · rfl
      rw [e1, e3]
      exact (putI_perm nd'.2).cons n
theorem wo_nd {t : Tb} {k : Int} (h : (keys t).Nodup) : (keys (wo t k)).Nodup := h.sublist (List.filter_sublist.map _)
theorem putI_nd {t : Tb} {k v : Int} (h : (keys t).Nodup) : (keys (putI t k v)).Nodup := by
  refine ((putI_perm (k := k) (v := v) h).map _).nodup_iff.mpr ?_
  show ((wo t k ++ [(k, v)]).map (·.1)).Nodup
  rw [List.map_append]
  refine List.nodup_append.mpr ⟨wo_nd h, by simp, fun a ha b hb => ?_⟩
  obtain ⟨n, hn, rfl⟩ := List.mem_map.mp ha
  have hb : b = k := by simpa using hb
  subst hb
  have := (List.mem_filter.mp hn).2
  simpa using this
def Lex (t : Tb) : Prop := t.Pairwise fun a b => SrtO.lexB b a = false
theorem lex_uniq {a b : Tb} (hp : a.Perm b) (ha : Lex a) (hb : Lex b) : a = b := by
  have anti : ∀ x y : Int × Int, SrtO.lexB y x = false → SrtO.lexB x y = false → x = y := fun x y h1 h2 => by
    have h1 := SrtO.lexB_no.mp h1
    have h2 := SrtO.lexB_no.mp h2
    exact Prod.ext (by omega) (by omega)
  first
    | exact hp.eq_of_pairwise (fun x y _ _ h1 h2 => anti x y h1 h2) ha hb
    | exact List.Perm.eq_of_pairwise (fun x y _ _ h1 h2 => anti x y h1 h2) ha hb hp
    | exact hp.eq_of_sorted (fun x y _ _ h1 h2 => anti x y h1 h2) ha hb
def dPs (t : Tb) : List PyData := t.map fun n => .tuple [.int n.1, .int n.2]
def dRec (t : Tb) : PyData := .tuple [.str "items", .tuple (dPs t)]
theorem dPs_lay : ∀ t : Tb, PyData.canLayAll0 (dPs t) = true
  | [] => by simp [dPs, PyData.canLayAll0]
  | n :: t => by
    have := dPs_lay t
    unfold dPs at this ⊢
    simp [PyData.canLayAll0, PyData.canLay0, this]
theorem dPs_depth : ∀ t : Tb, PyData.depthAll (dPs t) ≤ 2
  | [] => by simp [dPs, PyData.depthAll]
  | n :: t => by
    have := dPs_depth t
    unfold dPs at this ⊢
    simp only [List.map_cons, PyData.depthAll, PyData.depth]
    omega
theorem dRec_shaped (t : Tb) : SeqAt.shaped (dRec t) = true := by
  have h := dPs_depth t
  unfold dRec
  show (PyData.canLay0 (.tuple _) && decide (PyData.depth (.tuple _) ≤ 64)) = true
  rw [Bool.and_eq_true]
  refine ⟨?_, decide_eq_true ?_⟩
  · simp only [PyData.canLay0, PyData.canLayAll0, dPs_lay, Bool.and_true]
    decide +kernel
  · simp only [PyData.depth, PyData.depthAll]
    omega
theorem dPs_all {K : PySem.W.Frag} {H : Hp} : ∀ {ts : List V} {t : Tb}, PrsV H ts (t.map vp) → DpAll K H ts (dPs t)
  | _, [], .nil => .nil
  | _, n :: t, .cons h u => by
    obtain ⟨x, rfl, hx, _⟩ := h
    exact .cons (.tup (SqT.of hx) (.cons (.int _) (.cons (.int _) .nil))) (dPs_all u)
theorem Rec.dp {K : PySem.W.Frag} {H : Hp} {r : Addr} {t : Tb} (R : Rec K H r (t.map vp)) : Dp K H (.ref r) (dRec t) := by
  obtain ⟨q, ts, h1, h2, h3⟩ := R
  exact .tup h1 (.cons (.str _) (.cons (.tup h2 (dPs_all h3)) .nil))
theorem eqv_sh {d : PyData} (h : SeqAt.shaped d = true) : PyData.eqv d d = true := SeqAt.eqv_refl _ (SeqAt.canLay_of_shaped h)
theorem Kept.extD {a : Addr} {H H' : Hp} {l : List (Key × V)} (k : Kept a H H') (h : H a = some (.dK l)) : ExT H H' :=
  ⟨fun b xs e => k b _ e (ne_of e h (by intro z; cases z)), fun b o xs e => k b _ e (ne_of e h (by intro z; cases z))⟩
theorem lkV_scal (t : Tb) (k : Int) : scal (lkV t k) (lkV t k) = true := by
  unfold lkV
  split <;> rfl
theorem lkV_val (t : Tb) (k : Int) : (valV (Rt.kvI t) (Sum.inl k : Key)).getD .non = lkV t k := by
  rw [valV_kvI]
  unfold lkV
  split
  · rename_i v e
    rw [e]
    rfl
  · rename_i e
    rw [e]
    rfl
theorem putI_lk {t : Tb} {k v : Int} (h : (keys t).Nodup) : (putI t k v).lookup k = some v :=
  (lookup_mem (putI_nd h)).mpr ((putI_perm h).mem_iff.mpr (List.mem_append_right _ (List.mem_singleton.mpr rfl)))
theorem prs_refs {H : Hp} : ∀ {ts : List Addr} {ms : Tb}, Paired (fun (t : Addr) (n : Int × Int) => H t = some (.tup [.int n.1, .int n.2])) ts ms → PrsV H (ts.map V.ref) (ms.map vp)
  | _, _, .nil => .nil
  | _, _, .cons h t => .cons ⟨_, rfl, h, ⟨_, .flat rfl⟩, _, .flat rfl⟩ (prs_refs t)
abbrev NLw : List Str := ["script", "tape", "bucket", "record", "table", "turn", "key", "kind", "kept", "told", "bent"]
theorem scLaw : FnScope NLw ["script"] (defScope sLaw) := ⟨rfl, rfl, rfl, by decide +kernel, rfl, by decide +kernel, by decide +kernel⟩
def spLaw (K : PySem.W.Frag) : Sp := fun vs H Q _ => ∃ (a : Addr) (ns : List Int), vs = [.ref a] ∧ SqL K H a (ns.map V.int) ∧ ns.length ≤ 63 ∧ ∀ H', Q (.bl true) H'
/-- the table and the record -/
structure TR (K : PySem.W.Frag) (H : Hp) (d r : Addr) (tb rs : Tb) (n : Nat) : Prop where
  d : H d = some (.dK (Rt.kvI tb))
  r : Rec K H r (rs.map vp)
  p : rs.Perm tb
  s : Lex rs
  nd : (keys tb).Nodup
  n : rs.length ≤ n
theorem TR.ext {K : PySem.W.Frag} {H H' : Hp} {d r : Addr} {tb rs : Tb} {n : Nat} (R : TR K H d r tb rs n) (e : H' d = H d) (s : ExT H H') : TR K H' d r tb rs n := ⟨e.trans R.d, R.r.ext s, R.p, R.s, R.nd, R.n⟩
theorem TR.same {K : PySem.W.Frag} {H H' : Hp} {d r : Addr} {tb rs : Tb} {n : Nat} (R : TR K H d r tb rs n) (s : Same H H') : TR K H' d r tb rs n := ⟨s _ _ R.d, R.r.same s, R.p, R.s, R.nd, R.n⟩
theorem TapeAt.same {H H' : Hp} {tp sp : Addr} {ns : List Int} {pos : Nat} {rest seed : Int} (T : TapeAt H tp sp ns pos rest seed) (s : Same H H') : TapeAt H' tp sp ns pos rest seed := ⟨s _ _ T.t, s _ _ T.s, T.r, T.s0, T.s1⟩
structure St8 (K : PySem.W.Frag) (H : Hp) (tp sp d r : Addr) (ss : List Int) (tb rs : Tb) (n : Nat) : Prop where
  t : ∃ pos rest seed, TapeAt H tp sp ss pos rest seed
  tr : TR K H d r tb rs n
section
variable {P : Program} {w : World} {K : PySem.W.Frag} {mg : Str → Option Value} {base : Heap}
theorem ok_law {f E0a E1a : Addr} {fd : FuncData} (F : Fun K "law" "law" sLaw f fd) (B : Bn mg) (gEm : mg "EMPTY" = some (.ref E0a)) (hE0 : ∀ H, SqT K H E0a [.str "items", .ref E1a]) (hE1 : ∀ H, SqT K H E1a [])
    (GBk : GO P w K mg base CX0 1 "bucket_of" ["key"] spBucket) (GIs : GO P w K mg base CX0 3 "is_items" ["value", "bucket"] (spIsItems K)) (GVi : GO P w K mg base CX0 1 "value_in" ["record", "key"] (spValIn K))
    (GWo : GO P w K mg base CX0 1 "without_item" ["record", "key"] (spWithout K)) (GWi : GO P w K mg base CX0 2 "with_item" ["record", "key", "value"] (spWith K))
    (GNx : GO P w K mg base CX0 1 "_law_next" ["tape", "many"] spNext) (GKy : GO P w K mg base CX0 2 "_law_key" ["tape", "bucket"] spKey) (GBt : GO P w K mg base CX0 2 "_law_bent" ["tape", "record"] (spBent K)) (GDu : GO P w K mg base CX0 2 "_law_due" ["value", "bucket"] (spIsItems K)) : FnOk P w K mg base CX0 4 f fd ["script"] (spLaw K) := by
  refine F.ok scLaw (fun vs H Q E h => ?_) (fun cdv A outer s H vs Q E hr h => ?_)
  · obtain ⟨a, ns, rfl, _⟩ := h
    rfl
  · obtain ⟨a, ss, rfl, hS, hlen, kQ⟩ := h
    have nd := scLaw.nd
    have hrN : Room 1 _ := hr.mono (by decide)
    have hrB : Room 1 _ := hr.mono (by decide)
    have hrVi : Room 1 _ := hr.mono (by decide)
    have hrWo : Room 1 _ := hr.mono (by decide)
    have hrWi : Room 2 _ := hr.mono (by decide)
    have hrK : Room 2 _ := hr.mono (by decide)
    have hrBt : Room 2 _ := hr.mono (by decide)
    have hrD : Room 2 _ := hr.mono (by decide)
    have hrIs : Room 3 _ := hr
    have hu := hu_of hr
    have hsl : sizeLine = 16777216 := sizeLine_eq
    refine ⟨_, (pss_cons (ps_set (i := 1) nd rfl (Or.inl rfl) (pe_lst (pa_cons (pe_callTy call_list_of (by rfl) B.list (by decide +kernel) (pa_cons (pv 0) pa_nil)) (pa_cons pe_int (pa_cons pe_int (pa_cons pe_int pa_nil))))))
  (pss_cons (ps_set (i := 2) nd rfl (Or.inl rfl) (pc_ GNx hrN (pa_cons (pv 1) (pa_cons pe_int pa_nil))))
  (pss_cons (ps_set (i := 3) nd rfl (Or.inl rfl) (pe_glob (v := .ref E0a) rfl gEm rfl))
  (pss_cons (ps_set (i := 4) nd rfl (Or.inl rfl) pe_dnewK)
  (pss_cons (ps_for PassesOwn.never rfl (pi_range1 (by rfl) B.range (pa_cons (pc_ GNx hrN (pa_cons (pv 1) (pa_cons pe_int pa_nil))) pa_nil)) (pg_name (i := 5) nd rfl (Or.inl rfl))
  (pss_cons (ps_set (i := 6) nd rfl (Or.inl rfl) (pc_ GKy hrK (pa_cons (pv 1) (pa_cons (pv 2) pa_nil))))
  (pss_cons (ps_set (i := 7) nd rfl (Or.inl rfl) (pc_ GNx hrN (pa_cons (pv 1) (pa_cons pe_int pa_nil))))
  (pss_cons (ps_set (i := 8) nd rfl (Or.inl rfl) (pe_tup (pa_cons (pe_ix ix_tup (pv 3) pe_int (fun _ _ => rfl)) (pa_cons (pe_callTy call_tuple_of (by rfl) B.tuple (by decide +kernel) (pa_cons (pe_callTy call_list_of (by rfl) B.list (by decide +kernel) (pa_cons (pe_ix ix_tup (pv 3) pe_int (fun _ _ => rfl)) pa_nil)) pa_nil)) pa_nil))))
  (pss_cons (ps_if (PW.pt (pw_or (pt_cmpR op_ne (pc_ GBk hrB (pa_cons (pv 6) pa_nil)) (pv 2) (nomark _)) (pw_or1 (pt_cmpR op_ne (pc_ GVi hrVi (pa_cons (pv 3) (pa_cons (pv 6) pa_nil))) (pe_dget1 hu (pv 4) (pv 6) ⟨rfl, rfl, rfl, rfl⟩) (nomark _)))))
  (pss_one (ps_ret pe_bl))
  pss_nil)
  (pss_cons (ps_set (i := 9) nd rfl (Or.inl rfl) (pv 3))
  (C8.pss_cut (ps_if (pt_cmpR op_lt (pv 7) pe_int (nomark _))
  (pss_cons (ps_dput hu (pv 4) (pv 6) (pe_op op_sub (pc_ GNx hrN (pa_cons (pv 1) (pa_cons pe_int pa_nil))) pe_int) rfl)
  (pss_one (ps_set (i := 9) nd rfl (Or.inl rfl) (pc_ GWi hrWi (pa_cons (pv 3) (pa_cons (pv 6) (pa_cons (pe_dget hu (pv 4) (pv 6) (fun _ _ => rfl)) pa_nil)))))))
  pss_nil)
  (C8.pss_cut (ps_if (pt_cmpR op_eq (pv 7) pe_int (nomark _))
  (pss_cons (ps_expr (pe_dpop2 (pv 4) (pv 6) pe_non ⟨rfl, rfl, rfl, rfl⟩))
  (pss_one (ps_set (i := 9) nd rfl (Or.inl rfl) (pc_ GWo hrWo (pa_cons (pv 3) (pa_cons (pv 6) pa_nil))))))
  pss_nil)
  (pss_cons (ps_if (PW.pt (pw_or (pt_cmpR (op_neD hr.units) (pv 9) (pe_tup (pa_cons pe_str (pa_cons (pe_callTy call_tuple_of (by rfl) B.tuple (by decide +kernel) (pa_cons (Rt.pe_sortedItems rfl (pv 4) rfl B.sorted (by decide +kernel)) pa_nil)) pa_nil))) (nomark _)) (pw_or1 (pt_cmpR (op_neD hr.units) (pv 3) (pv 8) (nomark _)))))
  (pss_one (ps_ret pe_bl))
  pss_nil)
  (pss_one (ps_set (i := 3) nd rfl (Or.inl rfl) (pv 9))))))))))))
  (pss_cons (ps_set (i := 10) nd rfl (Or.inl rfl) (pc_ GBt hrBt (pa_cons (pv 1) (pa_cons (pv 3) pa_nil))))
  (pss_cons (ps_set (i := 9) nd rfl (Or.inl rfl) (pc_ GIs hrIs (pa_cons (pv 10) (pa_cons (pv 2) pa_nil))))
  (pss_one (ps_ret (pe_and (pe_callB call_isi (by rfl) B.isi (by decide +kernel) (pa_cons (pv 9) (pa_cons (pe_bltn (v := .ty "bool") (by rfl) B.bool (by decide +kernel) rfl) pa_nil))) (pe_one (pe_cmpR op_eq (pv 9) (pc_ GDu hrD (pa_cons (pv 10) (pa_cons (pv 2) pa_nil))) (nomark _))))))))))))), ?_⟩
    -- tape
    refine ⟨_, rfl, a, _, rfl, .inl hS, fun sp hsp => ⟨(by show 4 ≤ sizeLine; decide), fun tp htp => ?_⟩⟩
    have s1 := up1 (o := HO.lst (ss.map V.int)) hsp
    have e1 : upd H sp (HO.lst (ss.map V.int)) sp = _ := upd_same
    generalize upd H sp (HO.lst (ss.map V.int)) = H1 at s1 e1 htp ⊢
    have s2 := up1 (o := HO.lst [V.ref sp, V.int 0, V.int 0, V.int 5]) htp
    have e2 : upd H1 tp (HO.lst [V.ref sp, V.int 0, V.int 0, V.int 5]) tp = _ := upd_same
    generalize upd H1 tp (HO.lst [V.ref sp, V.int 0, V.int 0, V.int 5]) = H2 at s2 e2 ⊢
    have T2 : TapeAt H2 tp sp ss 0 0 5 := ⟨e2, s2 _ _ e1, by decide, by decide, by decide⟩
    refine ⟨_, rfl, tp, sp, ss, 0, 0, 5, 4, rfl, T2, by decide, by decide, hlen, fun b H3 pos3 rest3 seed3 b0 b4 T3 k3 => ?_⟩
    -- record, table
    intro d hd
    have s4 := up1 (o := HO.dK []) hd
    have e4 : upd H3 d (HO.dK []) d = _ := upd_same
    generalize upd H3 d (HO.dK []) = H4 at s4 e4 ⊢
    have T4 : TapeAt H4 tp sp ss pos3 rest3 seed3 := ⟨s4 _ _ T3.t, s4 _ _ T3.s, T3.r, T3.s0, T3.s1⟩
    refine ⟨_, rfl, tp, sp, ss, pos3, rest3, seed3, 13, rfl, T4, by decide, by decide, hlen, fun nt H5 pos5 rest5 seed5 n0 n13 T5 k5 => ?_⟩
    have d_tp : d ≠ tp := fun z => by rw [z] at e4; rw [T4.t] at e4; cases e4
    refine ⟨_, rfl, by omega, by omega, for_range (lo := 0) (n := nt.toNat) (fun i σ H' => ∃ (x5 x6 x7 x8 x9 x10 : Option V) (r : Addr) (tb rs : Tb), σ = [some (.ref a), some (.ref tp), some (.int b), some (.ref r), some (.ref d), x5, x6, x7, x8, x9, x10] ∧ St8 K H' tp sp d r ss tb rs i)
      ⟨_, _, _, _, _, _, E0a, [], [], rfl, ⟨_, _, _, T5⟩, k5 _ _ e4 d_tp, ⟨E1a, [], hE0 _, hE1 _, .nil⟩, .refl _, .nil, List.nodup_nil, Nat.le_refl _⟩ ?_ ?_⟩
    · rintro i σ H6 hi ⟨x5, x6, x7, x8, x9, x10, r, tb, rs, rfl, ⟨pos6, rest6, seed6, T6⟩, R6⟩
      have hi13 : i < 13 := by omega
      have hlk : lkV rs = lkV tb := by
        funext k
        unfold lkV
        rw [lookup_perm R6.p R6.nd]
      have key := T6.t
      -- key, kind
      refine ⟨_, rfl, _, rfl, tp, sp, ss, pos6, rest6, seed6, b, rfl, T6, b0, b4, hlen, fun key H7 pos7 rest7 seed7 hk T7 k7 => ?_⟩
      have R7 := R6.ext ((k7 _ _ R6.d d_tp).trans R6.d.symm) (k7.ext T6.t)
      refine ⟨_, rfl, tp, sp, ss, pos7, rest7, seed7, 4, rfl, T7, by decide, by decide, hlen, fun kind H8 pos8 rest8 seed8 kd0 kd4 T8 k8 => ?_⟩
      have R8 := R7.ext ((k8 _ _ R7.d d_tp).trans R7.d.symm) (k8.ext T7.t)
      clear R6 R7 T6 T7 k7 k8
      obtain ⟨q, ts, h1, h2, h3⟩ := id R8.r
      -- kept
      refine ⟨_, rfl, r, _, 0, _, rfl, rfl, h1, at0, _, rfl, r, _, 1, _, rfl, rfl, h1, at1, q, _, rfl, .inr h2, fun l hl => ⟨l, _, rfl, .inl ⟨SqL.of upd_same, fun u hu2 => ⟨(by show 2 ≤ sizeLine; decide), fun kp hkp => ?_⟩⟩⟩⟩
      have t9 := up1 (o := HO.lst ts) hl
      generalize upd H8 l (HO.lst ts) = H9 at t9 hu2 hkp ⊢
      have t10 := t9.trans (up1 (o := HO.tup ts) hu2)
      have u10 : upd H9 u (HO.tup ts) u = _ := upd_same
      generalize upd H9 u (HO.tup ts) = H10 at t10 u10 hkp ⊢
      have t11 := t10.trans (up1 (o := HO.tup [V.str "items", V.ref u]) hkp)
      have t1011 := up1 (o := HO.tup [V.str "items", V.ref u]) hkp
      have u11 : upd H10 kp (HO.tup [V.str "items", V.ref u]) kp = _ := upd_same
      generalize upd H10 kp (HO.tup [V.str "items", V.ref u]) = H11 at t11 t1011 u11 ⊢
      have R11 := R8.same t11
      have T11 := T8.same t11
      have K11 : Rec K H11 kp (rs.map vp) := ⟨u, ts, SqT.of u11, SqT.of (t1011 _ _ u10), h3.same t11⟩
      clear R8 T8 t9 t10 t11 t1011 u10 u11
      -- the first test
      refine ⟨_, rfl, key, rfl, _, rfl, rfl, _, rfl, iteNS (congrArg V.int hk) ?_⟩
      refine ⟨_, rfl, _, rfl, r, key, rs, rfl, R11.r, _, rfl, d, rfl, .inl ⟨_, .inl R11.d⟩, _, rfl, _, DGet.k (k := (Sum.inl key : Key)) R11.d, ?_⟩
      rw [lkV_val, hlk]
      refine ⟨lkV_scal _ _, _, rfl, iteNS rfl ?_⟩
      refine ⟨_, rfl, ?_⟩
      -- if kind < 2
      refine ⟨fun σ' H' => ∃ (r' : Addr) (tb' rs' : Tb), σ' = [some (.ref a), some (.ref tp), some (.int b), some (.ref r), some (.ref d), some (.int (0 + (i : Int))), some (.int key), some (.int kind), some (.ref kp), some (.ref r'), x10] ∧ (∃ pos rest seed, TapeAt H' tp sp ss pos rest seed) ∧ TR K H' d r' tb' rs' (i + 1) ∧ Rec K H' r (rs.map vp) ∧ Rec K H' kp (rs.map vp) ∧ (2 ≤ kind → tb' = tb), ?_, ?_⟩
      · refine ⟨_, rfl, _, _, rfl, rfl, _, rfl, ite2 (fun c => ?_) (fun c => ?_)⟩
        · have c := of_decide_eq_true c
          refine ⟨_, rfl, tp, sp, ss, pos8, rest8, seed8, 9, rfl, T11, by decide, by decide, hlen, fun x H12 pos12 rest12 seed12 x0 x9' T12 k12 => ?_⟩
          have R12 := R11.ext ((k12 _ _ R11.d d_tp).trans R11.d.symm) (k12.ext T11.t)
          have K12 := K11.ext (k12.ext T11.t)
          refine ⟨_, _, rfl, rfl, _, rfl, _, rfl, d, _, rfl, DPut.k (k := (Sum.inl key : Key)) R12.d (by unfold Rt.kvI; rw [List.length_map, ← R12.p.length_eq]; have := R12.n; omega), ?_⟩
          rw [putK_kvI]
          have xD : ExT H12 (upd H12 d (.dK (Rt.kvI (putI tb key (x - 3))))) := Kept.extD (a := d) (fun b o e n => by rw [upd_ne n]; exact e) R12.d
          have hd13 : upd H12 d (.dK (Rt.kvI (putI tb key (x - 3)))) d = _ := upd_same
          have T13 : TapeAt (upd H12 d (.dK (Rt.kvI (putI tb key (x - 3))))) tp sp ss pos12 rest12 seed12 := ⟨by rw [upd_ne d_tp.symm]; exact T12.t, by rw [upd_ne (ne_of T12.s R12.d (by intro z; cases z))]; exact T12.s, T12.r, T12.s0, T12.s1⟩
          have Rr13 := R12.r.ext xD
          have K13 := K12.ext xD
          generalize upd H12 d (.dK (Rt.kvI (putI tb key (x - 3)))) = H13 at hd13 T13 Rr13 K13 ⊢
          have g : DGet H13 d (.int key) (some (.int (x - 3))) := by
            have := DGet.k (k := (Sum.inl key : Key)) hd13
            rw [valV_kvI, putI_lk R12.nd] at this
            exact this
          refine ⟨_, rfl, _, rfl, _, rfl, _, rfl, d, _, rfl, g, r, key, x - 3, rs, rfl, Rr13, (by have := R12.n; omega), fun H14 r' ms s14 R14 pm srt => ?_⟩
          have hpl := pm.length_eq
          have hfl := List.length_filter_le (fun n : Int × Int => !decide (n.1 = key)) rs
          rw [List.length_append, List.length_singleton] at hpl
          exact ⟨r', putI tb key (x - 3), ms, rfl, ⟨_, _, _, T13.same s14⟩, ⟨s14 _ _ hd13, R14, pm.trans (((R12.p.filter _).append (.refl _)).trans (putI_perm R12.nd).symm), srt, putI_nd R12.nd, by have := R12.n; omega⟩, Rr13.same s14, K13.same s14, fun h => by omega⟩
        · exact ⟨r, tb, rs, rfl, ⟨_, _, _, T11⟩, ⟨R11.d, R11.r, R11.p, R11.s, R11.nd, by have := R11.n; omega⟩, R11.r, K11, fun _ => rfl⟩
      clear T11
      have Rp := R11.p
      have Rs := R11.s
      have Rnd := R11.nd
      have Rn := R11.n
      clear R11 K11
      rintro σ' H11 ⟨r', tb', rs', rfl, ⟨pos, rest, seed, T11⟩, R11, Rr11, K11, hkk⟩
      -- if kind == 2
      refine ⟨fun σ' H' => ∃ (r' : Addr) (tb' rs' : Tb), σ' = [some (.ref a), some (.ref tp), some (.int b), some (.ref r), some (.ref d), some (.int (0 + (i : Int))), some (.int key), some (.int kind), some (.ref kp), some (.ref r'), x10] ∧ (∃ pos rest seed, TapeAt H' tp sp ss pos rest seed) ∧ TR K H' d r' tb' rs' (i + 1) ∧ Rec K H' r (rs.map vp) ∧ Rec K H' kp (rs.map vp), ?_, ?_⟩
      · refine ⟨_, rfl, rfl, _, rfl, ite2 (fun c => ?_) (fun c => ?_)⟩
        · have c : kind = 2 := V.int.inj (of_decide_eq_true c)
          have etb := hkk (by omega)
          subst etb
          have cont : ∀ H', H' d = some (.dK (Rt.kvI (wo tb' key))) → TapeAt H' tp sp ss pos rest seed → Rec K H' r (rs.map vp) → Rec K H' kp (rs.map vp) →
              tAsg (tCall (spWithout K) [] E0 (tCons (tVar 3) (tCons (tVar 6) tNil))) (gName 9) { nx := fun σ' H' => ∃ (r' : Addr) (tb' rs' : Tb), σ' = [some (.ref a), some (.ref tp), some (.int b), some (.ref r), some (.ref d), some (.int (0 + (i : Int))), some (.int key), some (.int kind), some (.ref kp), some (.ref r'), x10] ∧ (∃ pos rest seed, TapeAt H' tp sp ss pos rest seed) ∧ TR K H' d r' tb' rs' (i + 1) ∧ Rec K H' r (rs.map vp) ∧ Rec K H' kp (rs.map vp), rt := Q }
                [some (.ref a), some (.ref tp), some (.int b), some (.ref r), some (.ref d), some (.int (0 + (i : Int))), some (.int key), some (.int kind), some (.ref kp), some (.ref r'), x10] H' := fun H' hd' T' Rr' K' => by
            refine ⟨_, rfl, _, rfl, r, key, rs, rfl, Rr', by omega, fun H14 r2 s14 R14 => ?_⟩
            have hfl := List.length_filter_le (fun n : Int × Int => !decide (n.1 = key)) rs
            exact ⟨r2, wo tb' key, wo rs key, rfl, ⟨_, _, _, T'.same s14⟩, ⟨s14 _ _ hd', R14, Rp.filter _, Rs.sublist List.filter_sublist, wo_nd Rnd, by unfold wo; omega⟩, Rr'.same s14, K'.same s14⟩
          refine ⟨_, rfl, d, rfl, .inl ⟨_, .inl R11.d⟩, _, rfl, _, (Sum.inl key : Key), R11.d, rfl, fun v hv => ?_, fun hv => ?_⟩
          · rw [dropK_kvI]
            have xD : ExT H11 (upd H11 d (.dK (Rt.kvI (wo tb' key)))) := Kept.extD (a := d) (fun b o e n => by rw [upd_ne n]; exact e) R11.d
            exact cont _ upd_same ⟨by rw [upd_ne d_tp.symm]; exact T11.t, by rw [upd_ne (ne_of T11.s R11.d (by intro z; cases z))]; exact T11.s, T11.r, T11.s0, T11.s1⟩ (Rr11.ext xD) (K11.ext xD)
          · have hn : tb'.lookup key = none := by
              rw [valV_kvI] at hv
              cases e : tb'.lookup key with
              | none => rfl
              | some v => rw [e] at hv; cases hv
            exact cont _ (by rw [wo_none hn]; exact R11.d) T11 Rr11 K11
        · exact ⟨r', tb', rs', rfl, ⟨_, _, _, T11⟩, R11, Rr11, K11⟩
      clear T11 R11 Rr11 K11 hkk
      rintro σ' H11 ⟨r', tb', rs', rfl, ⟨pos, rest, seed, T11⟩, R11, Rr11, K11⟩
      -- the second test
      refine ⟨_, rfl, _, rfl, d, tb', rfl, R11.d, fun H12 p ts' ms s12 hp hl12 pr pm pw => ⟨p, _, rfl, .inl ⟨SqL.of hl12, fun u hu2 => ⟨(by show 2 ≤ sizeLine; decide), fun z hz => ?_⟩⟩⟩⟩
      have ems : ms = rs' := lex_uniq (pm.trans R11.p.symm) pw R11.s
      subst ems
      have s12 : Same H11 H12 := s12
      have s13 := s12.trans (up1 (o := HO.tup (ts'.map V.ref)) hu2)
      have s123 := up1 (o := HO.tup (ts'.map V.ref)) hu2
      have e13 : upd H12 u (HO.tup (ts'.map V.ref)) u = _ := upd_same
      generalize upd H12 u (HO.tup (ts'.map V.ref)) = H13 at s13 s123 e13 hz ⊢
      have s14 := s13.trans (up1 (o := HO.tup [V.str "items", V.ref u]) hz)
      have s134 := up1 (o := HO.tup [V.str "items", V.ref u]) hz
      have e14 : upd H13 z (HO.tup [V.str "items", V.ref u]) z = _ := upd_same
      generalize upd H13 z (HO.tup [V.str "items", V.ref u]) = H14 at s14 s134 e14 ⊢
      have Rz : Rec K H14 z (ms.map vp) := ⟨u, _, SqT.of e14, SqT.of (s134 _ _ e13), (prs_refs pr).same (s123.trans s134)⟩
      have R14 := R11.same s14
      refine ⟨dRec ms, dRec ms, R14.r.dp, Rz.dp, dRec_shaped _, dRec_shaped _, _, rfl, iteC (by rw [eqv_sh (dRec_shaped _)]; rfl) ?_⟩
      refine ⟨_, rfl, _, rfl, dRec rs, dRec rs, (Rr11.same s14).dp, (K11.same s14).dp, dRec_shaped _, dRec_shaped _, _, rfl, iteC (by rw [eqv_sh (dRec_shaped _)]; rfl) ?_⟩
      exact ⟨_, rfl, _, _, _, _, _, _, r', tb', ms, rfl, ⟨_, _, _, T11.same s14⟩, R14⟩
    · rintro σ H6 ⟨x5, x6, x7, x8, x9, x10, r, tb, rs, rfl, ⟨pos6, rest6, seed6, T6⟩, R6⟩
      have hn := R6.n
      refine ⟨_, rfl, _, rfl, tp, sp, r, ss, pos6, rest6, seed6, b, rs, rfl, T6, hlen, R6.r, by omega, fun H7 r7 g hb7 => ?_⟩
      refine ⟨_, rfl, _, rfl, r7, b, g, rfl, hb7, fun c H8 hc s8 => ?_⟩
      refine ⟨_, rfl, _, _, _, _, true, rfl, .ty "bool", .base (.bl c), kit_ty (by decide +kernel), _, rfl, iteT ?_⟩
      refine ⟨_, rfl, _, rfl, _, rfl, r7, b, g, rfl, hb7.same s8, fun c2 H9 hc2 s9 => ?_⟩
      have ec : c = c2 := by
        cases c <;> cases c2
        · rfl
        · exact absurd (hc.mpr (hc2.mp rfl)) (by decide)
        · exact absurd (hc2.mpr (hc.mp rfl)) (by decide)
        · rfl
      subst ec
      refine ⟨by cases c <;> rfl, ?_⟩
      rw [decide_eq_true rfl]
      exact kQ _
end
end Dk

set_option maxHeartbeats 8000000
namespace Dk
open PySem PySem.Spec PyProof.Rows L2
theorem all_mk {l : PySem.W.OpenLaw} {w : World} {K : PySem.W.Frag} {h : Heap} {mg : Str → Option Value} {fa E0 E1 f1 f2 f3 f4 f5 f6 f7 f8 f9 f10 f11 f12 f13 f14 : Addr} (X : K.In h) (G : h.Ns mainGlobals mg) (hfa : mg "law" = some (.ref fa))
    {tB tI : Tok} {dE0 dE1 : Option Addr} {nE0 nE1 : Nat} {sE0 sE1 : Array (Option Value)}
    {od1 an1 : Option Addr} {sl1 : Array (Option Value)} {oc1 kV1 dc1 pm1 cd1 ct1 : Value}
    {od2 an2 : Option Addr} {sl2 : Array (Option Value)} {oc2 kV2 dc2 pm2 cd2 ct2 : Value}
    {od3 an3 : Option Addr} {sl3 : Array (Option Value)} {oc3 kV3 dc3 pm3 cd3 ct3 : Value}
    {od4 an4 : Option Addr} {sl4 : Array (Option Value)} {oc4 kV4 dc4 pm4 cd4 ct4 : Value}
    {od5 an5 : Option Addr} {sl5 : Array (Option Value)} {oc5 kV5 dc5 pm5 cd5 ct5 : Value}
    {od6 an6 : Option Addr} {sl6 : Array (Option Value)} {oc6 kV6 dc6 pm6 cd6 ct6 : Value}
    {od7 an7 : Option Addr} {sl7 : Array (Option Value)} {oc7 kV7 dc7 pm7 cd7 ct7 : Value}
    {od8 an8 : Option Addr} {sl8 : Array (Option Value)} {oc8 kV8 dc8 pm8 cd8 ct8 : Value}
    {od9 an9 : Option Addr} {sl9 : Array (Option Value)} {oc9 kV9 dc9 pm9 cd9 ct9 : Value}
    {od10 an10 : Option Addr} {sl10 : Array (Option Value)} {oc10 kV10 dc10 pm10 cd10 ct10 : Value}
    {od11 an11 : Option Addr} {sl11 : Array (Option Value)} {oc11 kV11 dc11 pm11 cd11 ct11 : Value}
    {od12 an12 : Option Addr} {sl12 : Array (Option Value)} {oc12 kV12 dc12 pm12 cd12 ct12 : Value}
    {od13 an13 : Option Addr} {sl13 : Array (Option Value)} {oc13 kV13 dc13 pm13 cd13 ct13 : Value}
    {od14 an14 : Option Addr} {sl14 : Array (Option Value)} {oc14 kV14 dc14 pm14 cd14 ct14 : Value}
    (a1 : PySem.W.nsIn K mainGlobals "is_whole" = some (some (.ref f1)))
    (l1 : K.lookup f1 = some ⟨oc1, od1, .func (PySem.W.fnOf "is_whole" "is_whole" (defArgs sWhole) (defBody sWhole) (defScope sWhole) .none kV1 dc1 pm1 an1 cd1 ct1), sl1⟩)
    (c1 : PySem.W.codeIn K cd1 "is_whole" = true)
    (k1 : PySem.W.keepIn K (.ref f1) = true)
    (a2 : PySem.W.nsIn K mainGlobals "is_ascending" = some (some (.ref f2)))
    (l2 : K.lookup f2 = some ⟨oc2, od2, .func (PySem.W.fnOf "is_ascending" "is_ascending" (defArgs sAsc) (defBody sAsc) (defScope sAsc) .none kV2 dc2 pm2 an2 cd2 ct2), sl2⟩)
    (c2 : PySem.W.codeIn K cd2 "is_ascending" = true)
    (k2 : PySem.W.keepIn K (.ref f2) = true)
    (a3 : PySem.W.nsIn K mainGlobals "bucket_of" = some (some (.ref f3)))
    (l3 : K.lookup f3 = some ⟨oc3, od3, .func (PySem.W.fnOf "bucket_of" "bucket_of" (defArgs sBucket) (defBody sBucket) (defScope sBucket) .none kV3 dc3 pm3 an3 cd3 ct3), sl3⟩)
    (c3 : PySem.W.codeIn K cd3 "bucket_of" = true)
    (k3 : PySem.W.keepIn K (.ref f3) = true)
    (a4 : PySem.W.nsIn K mainGlobals "is_items" = some (some (.ref f4)))
    (l4 : K.lookup f4 = some ⟨oc4, od4, .func (PySem.W.fnOf "is_items" "is_items" (defArgs sIsItems) (defBody sIsItems) (defScope sIsItems) .none kV4 dc4 pm4 an4 cd4 ct4), sl4⟩)
    (c4 : PySem.W.codeIn K cd4 "is_items" = true)
    (k4 : PySem.W.keepIn K (.ref f4) = true)
    (a5 : PySem.W.nsIn K mainGlobals "is_pair" = some (some (.ref f5)))
    (l5 : K.lookup f5 = some ⟨oc5, od5, .func (PySem.W.fnOf "is_pair" "is_pair" (defArgs sIsPair) (defBody sIsPair) (defScope sIsPair) .none kV5 dc5 pm5 an5 cd5 ct5), sl5⟩)
    (c5 : PySem.W.codeIn K cd5 "is_pair" = true)
    (k5 : PySem.W.keepIn K (.ref f5) = true)
    (a6 : PySem.W.nsIn K mainGlobals "value_in" = some (some (.ref f6)))
    (l6 : K.lookup f6 = some ⟨oc6, od6, .func (PySem.W.fnOf "value_in" "value_in" (defArgs sValIn) (defBody sValIn) (defScope sValIn) .none kV6 dc6 pm6 an6 cd6 ct6), sl6⟩)
    (c6 : PySem.W.codeIn K cd6 "value_in" = true)
    (k6 : PySem.W.keepIn K (.ref f6) = true)
    (a7 : PySem.W.nsIn K mainGlobals "with_item" = some (some (.ref f7)))
    (l7 : K.lookup f7 = some ⟨oc7, od7, .func (PySem.W.fnOf "with_item" "with_item" (defArgs sWith) (defBody sWith) (defScope sWith) .none kV7 dc7 pm7 an7 cd7 ct7), sl7⟩)
    (c7 : PySem.W.codeIn K cd7 "with_item" = true)
    (k7 : PySem.W.keepIn K (.ref f7) = true)
    (a8 : PySem.W.nsIn K mainGlobals "without_item" = some (some (.ref f8)))
    (l8 : K.lookup f8 = some ⟨oc8, od8, .func (PySem.W.fnOf "without_item" "without_item" (defArgs sWithout) (defBody sWithout) (defScope sWithout) .none kV8 dc8 pm8 an8 cd8 ct8), sl8⟩)
    (c8 : PySem.W.codeIn K cd8 "without_item" = true)
    (k8 : PySem.W.keepIn K (.ref f8) = true)
    (a9 : PySem.W.nsIn K mainGlobals "_law_next" = some (some (.ref f9)))
    (l9 : K.lookup f9 = some ⟨oc9, od9, .func (PySem.W.fnOf "_law_next" "_law_next" (defArgs sNext) (defBody sNext) (defScope sNext) .none kV9 dc9 pm9 an9 cd9 ct9), sl9⟩)
    (c9 : PySem.W.codeIn K cd9 "_law_next" = true)
    (k9 : PySem.W.keepIn K (.ref f9) = true)
    (a10 : PySem.W.nsIn K mainGlobals "_law_key" = some (some (.ref f10)))
    (l10 : K.lookup f10 = some ⟨oc10, od10, .func (PySem.W.fnOf "_law_key" "_law_key" (defArgs sKey) (defBody sKey) (defScope sKey) .none kV10 dc10 pm10 an10 cd10 ct10), sl10⟩)
    (c10 : PySem.W.codeIn K cd10 "_law_key" = true)
    (k10 : PySem.W.keepIn K (.ref f10) = true)
    (a11 : PySem.W.nsIn K mainGlobals "_law_bent" = some (some (.ref f11)))
    (l11 : K.lookup f11 = some ⟨oc11, od11, .func (PySem.W.fnOf "_law_bent" "_law_bent" (defArgs sBent) (defBody sBent) (defScope sBent) .none kV11 dc11 pm11 an11 cd11 ct11), sl11⟩)
    (c11 : PySem.W.codeIn K cd11 "_law_bent" = true)
    (k11 : PySem.W.keepIn K (.ref f11) = true)
    (a12 : PySem.W.nsIn K mainGlobals "_law_integer" = some (some (.ref f12)))
    (l12 : K.lookup f12 = some ⟨oc12, od12, .func (PySem.W.fnOf "_law_integer" "_law_integer" (defArgs sInteg) (defBody sInteg) (defScope sInteg) .none kV12 dc12 pm12 an12 cd12 ct12), sl12⟩)
    (c12 : PySem.W.codeIn K cd12 "_law_integer" = true)
    (k12 : PySem.W.keepIn K (.ref f12) = true)
    (a13 : PySem.W.nsIn K mainGlobals "_law_due" = some (some (.ref f13)))
    (l13 : K.lookup f13 = some ⟨oc13, od13, .func (PySem.W.fnOf "_law_due" "_law_due" (defArgs sDue) (defBody sDue) (defScope sDue) .none kV13 dc13 pm13 an13 cd13 ct13), sl13⟩)
    (c13 : PySem.W.codeIn K cd13 "_law_due" = true)
    (k13 : PySem.W.keepIn K (.ref f13) = true)
    (a14 : PySem.W.nsIn K mainGlobals "law" = some (some (.ref f14)))
    (l14 : K.lookup f14 = some ⟨oc14, od14, .func (PySem.W.fnOf "law" "law" (defArgs sLaw) (defBody sLaw) (defScope sLaw) .none kV14 dc14 pm14 an14 cd14 ct14), sl14⟩)
    (c14 : PySem.W.codeIn K cd14 "law" = true)
    (k14 : PySem.W.keepIn K (.ref f14) = true)
    (gBk : PySem.W.nsIn K mainGlobals "BUCKETS" = some (some (.int 4 tB)))
    (gEm : PySem.W.nsIn K mainGlobals "EMPTY" = some (some (.ref E0)))
    (lE0 : K.lookup E0 = some ⟨.type "tuple", dE0, .seq #[.str "items" tI, .ref E1] nE0, sE0⟩)
    (lE1 : K.lookup E1 = some ⟨.type "tuple", dE1, .seq #[] nE1, sE1⟩)
    (z_isinstance : PySem.W.nsIn K mainGlobals "isinstance" = some none)
    (z_int : PySem.W.nsIn K mainGlobals "int" = some none)
    (z_bool : PySem.W.nsIn K mainGlobals "bool" = some none)
    (z_tuple : PySem.W.nsIn K mainGlobals "tuple" = some none)
    (z_list : PySem.W.nsIn K mainGlobals "list" = some none)
    (z_range : PySem.W.nsIn K mainGlobals "range" = some none)
    (z_len : PySem.W.nsIn K mainGlobals "len" = some none)
    (z_abs : PySem.W.nsIn K mainGlobals "abs" = some none)
    (z_all : PySem.W.nsIn K mainGlobals "all" = some none)
    (z_zip : PySem.W.nsIn K mainGlobals "zip" = some none)
    (z_sorted : PySem.W.nsIn K mainGlobals "sorted" = some none)
    (z_max : PySem.W.nsIn K mainGlobals "max" = some none)
    : ∃ fd : FuncData, (∀ (s : Shared) (v : Value), BindsTo s fd ⟨[v], []⟩ [("script", v)]) ∧ ∀ base : Heap, K.In base → base.Ns mainGlobals mg → FnOk l.prog w K mg base CX0 4 fa fd ["script"] (spLaw K) := by
  have e := hfa.symm.trans (PySem.W.mg_of X G a14)
  cases e
  have F1 := fun_mk (st := sWhole) l1 c1 k1
  have b1 := F1.binds (ps := ["value"]) fun _ _ _ _ _ _ us hl => match us, hl with | [_], _ => rfl
  have T_is_whole : GT K mg "is_whole" sWhole ["value"] := ⟨_, _, F1, PySem.W.mg_of X G a1, b1⟩
  have F2 := fun_mk (st := sAsc) l2 c2 k2
  have b2 := F2.binds (ps := ["numbers"]) fun _ _ _ _ _ _ us hl => match us, hl with | [_], _ => rfl
  have T_is_ascending : GT K mg "is_ascending" sAsc ["numbers"] := ⟨_, _, F2, PySem.W.mg_of X G a2, b2⟩
  have F3 := fun_mk (st := sBucket) l3 c3 k3
  have b3 := F3.binds (ps := ["key"]) fun _ _ _ _ _ _ us hl => match us, hl with | [_], _ => rfl
  have T_bucket_of : GT K mg "bucket_of" sBucket ["key"] := ⟨_, _, F3, PySem.W.mg_of X G a3, b3⟩
  have F4 := fun_mk (st := sIsItems) l4 c4 k4
  have b4 := F4.binds (ps := ["value", "bucket"]) fun _ _ _ _ _ _ us hl => match us, hl with | [_, _], _ => rfl
  have T_is_items : GT K mg "is_items" sIsItems ["value", "bucket"] := ⟨_, _, F4, PySem.W.mg_of X G a4, b4⟩
  have F5 := fun_mk (st := sIsPair) l5 c5 k5
  have b5 := F5.binds (ps := ["value", "bucket"]) fun _ _ _ _ _ _ us hl => match us, hl with | [_, _], _ => rfl
  have T_is_pair : GT K mg "is_pair" sIsPair ["value", "bucket"] := ⟨_, _, F5, PySem.W.mg_of X G a5, b5⟩
  have F6 := fun_mk (st := sValIn) l6 c6 k6
  have b6 := F6.binds (ps := ["record", "key"]) fun _ _ _ _ _ _ us hl => match us, hl with | [_, _], _ => rfl
  have T_value_in : GT K mg "value_in" sValIn ["record", "key"] := ⟨_, _, F6, PySem.W.mg_of X G a6, b6⟩
  have F7 := fun_mk (st := sWith) l7 c7 k7
  have b7 := F7.binds (ps := ["record", "key", "value"]) fun _ _ _ _ _ _ us hl => match us, hl with | [_, _, _], _ => rfl
  have T_with_item : GT K mg "with_item" sWith ["record", "key", "value"] := ⟨_, _, F7, PySem.W.mg_of X G a7, b7⟩
  have F8 := fun_mk (st := sWithout) l8 c8 k8
  have b8 := F8.binds (ps := ["record", "key"]) fun _ _ _ _ _ _ us hl => match us, hl with | [_, _], _ => rfl
  have T_without_item : GT K mg "without_item" sWithout ["record", "key"] := ⟨_, _, F8, PySem.W.mg_of X G a8, b8⟩
  have F9 := fun_mk (st := sNext) l9 c9 k9
  have b9 := F9.binds (ps := ["tape", "many"]) fun _ _ _ _ _ _ us hl => match us, hl with | [_, _], _ => rfl
  have T__law_next : GT K mg "_law_next" sNext ["tape", "many"] := ⟨_, _, F9, PySem.W.mg_of X G a9, b9⟩
  have F10 := fun_mk (st := sKey) l10 c10 k10
  have b10 := F10.binds (ps := ["tape", "bucket"]) fun _ _ _ _ _ _ us hl => match us, hl with | [_, _], _ => rfl
  have T__law_key : GT K mg "_law_key" sKey ["tape", "bucket"] := ⟨_, _, F10, PySem.W.mg_of X G a10, b10⟩
  have F11 := fun_mk (st := sBent) l11 c11 k11
  have b11 := F11.binds (ps := ["tape", "record"]) fun _ _ _ _ _ _ us hl => match us, hl with | [_, _], _ => rfl
  have T__law_bent : GT K mg "_law_bent" sBent ["tape", "record"] := ⟨_, _, F11, PySem.W.mg_of X G a11, b11⟩
  have F12 := fun_mk (st := sInteg) l12 c12 k12
  have b12 := F12.binds (ps := ["value"]) fun _ _ _ _ _ _ us hl => match us, hl with | [_], _ => rfl
  have T__law_integer : GT K mg "_law_integer" sInteg ["value"] := ⟨_, _, F12, PySem.W.mg_of X G a12, b12⟩
  have F13 := fun_mk (st := sDue) l13 c13 k13
  have b13 := F13.binds (ps := ["value", "bucket"]) fun _ _ _ _ _ _ us hl => match us, hl with | [_, _], _ => rfl
  have T__law_due : GT K mg "_law_due" sDue ["value", "bucket"] := ⟨_, _, F13, PySem.W.mg_of X G a13, b13⟩
  have F14 := fun_mk (st := sLaw) l14 c14 k14
  have Bn0 : Bn mg := ⟨PySem.W.mg_none_of X G z_isinstance, PySem.W.mg_none_of X G z_int, PySem.W.mg_none_of X G z_bool, PySem.W.mg_none_of X G z_tuple, PySem.W.mg_none_of X G z_list, PySem.W.mg_none_of X G z_range, PySem.W.mg_none_of X G z_len, PySem.W.mg_none_of X G z_abs, PySem.W.mg_none_of X G z_all, PySem.W.mg_none_of X G z_zip, PySem.W.mg_none_of X G z_sorted, PySem.W.mg_none_of X G z_max⟩
  have hE0 : ∀ H, SqT K H E0 [.str "items", .ref E1] := fun H => .inr ⟨_, _, _, lE0, rfl, rfl, (by show 2 ≤ sizeLine; decide), .cons ⟨_, rfl⟩ (.cons rfl .nil)⟩
  have hE1 : ∀ H, SqT K H E1 [] := fun H => .inr ⟨_, _, _, lE1, rfl, rfl, (by show 0 ≤ sizeLine; exact Nat.zero_le _), .nil⟩
  refine ⟨PySem.W.fnOf "law" "law" (defArgs sLaw) (defBody sLaw) (defScope sLaw) .none kV14 dc14 pm14 an14 cd14 ct14, fun s v => .of_eq rfl, fun base _ _ => ?_⟩
  have Gwh := go_whole (P := l.prog) (w := w) (base := base) T_is_whole Bn0
  have Gas := go_asc (P := l.prog) (w := w) (base := base) T_is_ascending Bn0
  have Gbk := go_bucket (P := l.prog) (w := w) (base := base) T_bucket_of (PySem.W.mg_of X G gBk)
  have Gpr := go_ispair T_is_pair Bn0 Gwh Gbk
  have Gis := go_isitems T_is_items Bn0 Gpr Gas
  have Gvi := go_valin (P := l.prog) (w := w) (base := base) T_value_in
  have Gwo := go_without (P := l.prog) (w := w) (base := base) T_without_item Bn0
  have Gwi := go_with T_with_item Bn0 Gwo
  have Gnx := go_next (P := l.prog) (w := w) (base := base) T__law_next Bn0
  have Gky := go_key T__law_key Gnx
  have Gbt := go_bent T__law_bent Bn0 Gnx
  have Gin := go_integ (P := l.prog) (w := w) (base := base) T__law_integer Bn0
  have Gdu := go_due T__law_due Bn0 Gin
  exact ok_law F14 Bn0 (PySem.W.mg_of X G gEm) hE0 hE1 Gbk Gis Gvi Gwo Gwi Gnx Gky Gbt Gdu
theorem walk {l : PySem.W.OpenLaw} {q : Program} {loose : List Str} {XP : (Str → Option Value) → Heap → Prop} {YP : World → Heap → Prop} {d : DefRec} {K : Params → PySem.W.Frag} (hn : l.most = some 63) (hdf : d.params.defaults = [])
    (hY : ∀ (w : World) (h : Heap), YP w h → (K w.params).In h)
    (F : ∀ (w : World) (mg : Str → Option Value) (fa : Addr) (h : Heap), (K w.params).In h → h.Ns mainGlobals mg → mg d.name = some (.ref fa) →
      ∃ fd : FuncData, (∀ (s : Shared) (u : Value), BindsTo s fd ⟨[u], []⟩ [("script", u)]) ∧ ∀ base : Heap, (K w.params).In base → base.Ns mainGlobals mg → FnOk l.prog w (K w.params) mg base CX0 4 fa fd ["script"] (spLaw (K w.params))) :
    PySem.W.WalkO q loose XP YP l.row.toRowW d [] (fun f vs => PySem.call f vs) :=
  L2.walk_of (n := 63) (k := 4) (x := "script") (CX := fun _ => CX0) (sp := fun w => spLaw (K w.params)) hn (by decide) hdf ⟨rfl, by decide, by decide⟩ hY F (fun _ _ a ns hl _ hS => ⟨a, ns, rfl, hS, hl, fun _ => rfl⟩) fun _ _ _ _ _ z => z
end Dk
open PySem PySem.W PyProof.Rows
set_option maxRecDepth 100000 in
set_option maxHeartbeats 0 in
theorem PySem.Challenge.cw_driftkept_k13_records_are_tables_holds : PySem.Challenge.rw_driftkept_k13_records_are_tables.Holds := by
  w_on; o_law; k_head; (case hw => w_witness2)
  k_fill
  refine Dk.walk (l := PySem.Challenge.rw_driftkept_k13_records_are_tables) rfl rfl (fun w h Y => PySem.W.kIn_of Y) ?F
  case F =>
    intro w mg fa h KX G hmg
    refine' Dk.all_mk KX G hmg ?a1 ?l1 ?c1 ?k1 ?a2 ?l2 ?c2 ?k2 ?a3 ?l3 ?c3 ?k3 ?a4 ?l4 ?c4 ?k4 ?a5 ?l5 ?c5 ?k5 ?a6 ?l6 ?c6 ?k6 ?a7 ?l7 ?c7 ?k7 ?a8 ?l8 ?c8 ?k8 ?a9 ?l9 ?c9 ?k9 ?a10 ?l10 ?c10 ?k10 ?a11 ?l11 ?c11 ?k11 ?a12 ?l12 ?c12 ?k12 ?a13 ?l13 ?c13 ?k13 ?a14 ?l14 ?c14 ?k14 ?gBk ?gEm ?lE0 ?lE1 ?z_isinstance ?z_int ?z_bool ?z_tuple ?z_list ?z_range ?z_len ?z_abs ?z_all ?z_zip ?z_sorted ?z_max
    (case a1 => k_is)
    (case l1 => k_is)
    (case c1 => k_is)
    (case k1 => k_is)
    (case a2 => k_is)
    (case l2 => k_is)
    (case c2 => k_is)
    (case k2 => k_is)
    (case a3 => k_is)
    (case l3 => k_is)
    (case c3 => k_is)
    (case k3 => k_is)
    (case a4 => k_is)
    (case l4 => k_is)
    (case c4 => k_is)
    (case k4 => k_is)
    (case a5 => k_is)
    (case l5 => k_is)
    (case c5 => k_is)
    (case k5 => k_is)
    (case a6 => k_is)
    (case l6 => k_is)
    (case c6 => k_is)
    (case k6 => k_is)
    (case a7 => k_is)
    (case l7 => k_is)
    (case c7 => k_is)
    (case k7 => k_is)
    (case a8 => k_is)
    (case l8 => k_is)
    (case c8 => k_is)
    (case k8 => k_is)
    (case a9 => k_is)
    (case l9 => k_is)
    (case c9 => k_is)
    (case k9 => k_is)
    (case a10 => k_is)
    (case l10 => k_is)
    (case c10 => k_is)
    (case k10 => k_is)
    (case a11 => k_is)
    (case l11 => k_is)
    (case c11 => k_is)
    (case k11 => k_is)
    (case a12 => k_is)
    (case l12 => k_is)
    (case c12 => k_is)
    (case k12 => k_is)
    (case a13 => k_is)
    (case l13 => k_is)
    (case c13 => k_is)
    (case k13 => k_is)
    (case a14 => k_is)
    (case l14 => k_is)
    (case c14 => k_is)
    (case k14 => k_is)
    (case gBk => k_is)
    (case gEm => k_is)
    (case lE0 => k_is)
    (case lE1 => k_is)
    (case z_isinstance => k_is)
    (case z_int => k_is)
    (case z_bool => k_is)
    (case z_tuple => k_is)
    (case z_list => k_is)
    (case z_range => k_is)
    (case z_len => k_is)
    (case z_abs => k_is)
    (case z_all => k_is)
    (case z_zip => k_is)
    (case z_sorted => k_is)
    (case z_max => k_is)

