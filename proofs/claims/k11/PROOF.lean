import PyProof.Rows.All
import Wide.All
import OpenK.AllK
import Wide.FinOn
import HandS.ForMost
import HandS.IsInst
import HandS.Strs
import HandS.SetFor
import HandS.TupAny
import HandS.Zip
import HandS.Walk
import HandS.Conv
import KE.GoesEnum
import HandS.Evl
import HandS.Defaults
import HandS.DictComp
import HandS.Gcd
import KE.RegKMathGC
import PyProof.DictUpdate
import HandS.SortRule
import KE.KSortTupAny
import HandS.ListItems
import HandS.Finally
import HandS.Style
import HandS.Set
import HandS.SortInts
import HandS.Wide
import KE.KRevSl
import HandS.TryOnly
import KE.KDictZip
import HandS.Lambda
import KE.KDflt
import HandS.EndTab
import HandS.ExcIs
import HandS.ExcOwn
import HandS.WordsExc
import HandS.HeadHook1
import HandS.HeadHook4
import PyProof.ExcBaseAll.ValueError
import KE.KStateDown
import HandS.Head0
import HandS.Head1
import HandS.Head2
import HandS.Head3
import HandS.HeadEnd
import PySem.Challenge.RW_measurehall_k11_halls_that_are_full
set_option Elab.async false
set_option linter.all false
set_option maxRecDepth 100000
set_option maxHeartbeats 4000000
/-! Rules that the laws of Measurehall want beside the hand layer: match over tuples, enumerate over a tuple, set of a list of ints. -/
namespace Mh
open PySem L2

/-! ### match -/
abbrev BS := Option (List (Str × V))
/-- what is caught, by values and by the machine's values -/
def RelB : BS → Option (List (Str × Value)) → Prop
  | none, none => True
  | some l, some m => KV l m
  | _, _ => False
theorem kv_app {a b : List (Str × V)} {c d : List (Str × Value)} (h : KV a c) (g : KV b d) : KV (a ++ b) (c ++ d) := by
  induction h with
  | nil => exact g
  | cons r _ ih => exact .cons r ih
abbrev TP := V → St → Hp → (BS → Hp → Prop) → Prop
abbrev TPs := List V → St → Hp → (BS → Hp → Prop) → Prop
abbrev TC := V → TS
structure PP (X : Cx) (p : Pattern) (t : TP) : Prop where
  run : ∀ (pins : List (Addr × Obj)) (s : Shared) (σ : St) (H : Hp) (v : V) (u : Value) (Q : BS → Hp → Prop), Inv X pins σ H s → RelV v u → t v σ H Q →
    wpAny (model X.prog X.w) X.A (matchPattern p X.env u) (fun r s1 => ∃ r' H1, Inv X pins σ H1 s1 ∧ RelB r' r ∧ Q r' H1) X.xe s
structure PPq (X : Cx) (ps : List Pattern) (t : TPs) : Prop where
  run : ∀ (pins : List (Addr × Obj)) (s : Shared) (σ : St) (H : Hp) (vs : List V) (us : List Value) (Q : BS → Hp → Prop), Inv X pins σ H s → Vals vs us → vs.length = ps.length → t vs σ H Q →
    wpAny (model X.prog X.w) X.A (matchEach ps X.env us) (fun r s1 => ∃ r' H1, Inv X pins σ H1 s1 ∧ RelB r' r ∧ Q r' H1) X.xe s
structure PPo (X : Cx) (ps : List Pattern) (t : TP) : Prop where
  run : ∀ (pins : List (Addr × Obj)) (s : Shared) (σ : St) (H : Hp) (v : V) (u : Value) (Q : BS → Hp → Prop), Inv X pins σ H s → RelV v u → t v σ H Q →
    wpAny (model X.prog X.w) X.A (matchFirst ps X.env u) (fun r s1 => ∃ r' H1, Inv X pins σ H1 s1 ∧ RelB r' r ∧ Q r' H1) X.xe s
structure PCs (X : Cx) (cs : List MatchCase) (t : TC) : Prop where
  run : ∀ (fst : Bool) (pins : List (Addr × Obj)) (s : Shared) (σ : St) (H : Hp) (v : V) (u : Value) (D : Ends), Inv X pins σ H s → RelV v u → t v D σ H →
    wpAny (model X.prog X.w) X.A (matchCases cs X.env u fst) (SP X pins D) X.xe s
section
variable {X : Cx}
/-- a text as a pattern -/
def mStr (x : Str) : TP := fun v _ H Q => scal v (.str x) = true ∧ if v = .str x then Q (some []) H else Q none H
theorem ifp {c A B : Prop} [Decidable c] (h : c) (a : A) : if c then A else B := by
  rw [if_pos h]
  exact a
theorem ifn {c A B : Prop} [Decidable c] (h : ¬ c) (b : B) : if c then A else B := by
  rw [if_neg h]
  exact b
theorem pp_str {x : Str} {j : Nat} {p1 p2 : Pos} : PP X (.MatchValue (.Constant (.str x) j p1) p2) (mStr x) := by
  refine ⟨fun pins s σ H v u Q I r h => ?_⟩
  obtain ⟨hs, q⟩ := h
  refine wpAny_matchPattern_Value ?_
  refine thn ((pe_str (X := X)).run pins s σ H (fun y H1 => y = .str x ∧ H1 = H) I ⟨rfl, rfl⟩) fun c s1 ⟨y, H1, I1, r1, e1, e2⟩ => ?_
  subst e1 e2
  refine thn (op_eq (X := X) pins s1 σ H1 v (.str x) u c (fun y H2 => y = .bl (decide (v = .str x)) ∧ H2 = H1) I1 r r1 ⟨hs, rfl, rfl⟩) fun d s2 ⟨y, H2, I2, r2, e1, e2⟩ => ?_
  subst e1 e2
  cases r2
  refine wpAny_truthy_bool ?_
  by_cases hv : v = .str x
  · rw [decide_eq_true hv]
    refine ⟨some [], H2, I2, .nil, ?_⟩
    rw [if_pos hv] at q
    exact q
  · rw [decide_eq_false hv]
    refine ⟨none, H2, I2, True.intro, ?_⟩
    rw [if_neg hv] at q
    exact q
/-- a name as a pattern; _ -/
def mName (x : Str) : TP := fun v _ H Q => Q (some [(x, v)]) H
def mAny : TP := fun _ _ H Q => Q (some []) H
theorem pp_name {x : Str} {p : Pos} : PP X (.MatchAs none (some x) p) (mName x) :=
  ⟨fun pins s σ H v u Q I r h => wpAny_matchPattern_Capture ⟨some [(x, v)], H, I, .cons ⟨rfl, r⟩ .nil, h⟩⟩
theorem pp_any {p : Pos} : PP X (.MatchAs none none p) mAny :=
  ⟨fun pins s σ H v u Q I r h => wpAny_matchPattern_Capture ⟨some [], H, I, .nil, h⟩⟩
/-- one of some texts -/
def oNil : TP := fun _ _ H Q => Q none H
def oCons (t u : TP) : TP := fun v σ H Q => t v σ H fun r H1 => match r with
  | some bs => Q (some bs) H1
  | none => u v σ H1 Q
theorem ppo_nil : PPo X [] oNil := ⟨fun pins s σ H v u Q I r h => wpAny_matchFirst_nil ⟨none, H, I, True.intro, h⟩⟩
theorem ppo_cons {p : Pattern} {ps : List Pattern} {t u : TP} (hp : PP X p t) (hq : PPo X ps u) : PPo X (p :: ps) (oCons t u) := by
  refine ⟨fun pins s σ H v w' Q I r h => wpAny_matchFirst_cons (thn (hp.run pins s σ H v w' _ I r h) fun b s1 ⟨b', H1, I1, rb, q⟩ => ?_)⟩
  cases b with
  | none =>
    cases b' with
    | none => exact hq.run pins s1 σ H1 v w' Q I1 r q
    | some _ => exact (show False from rb).elim
  | some l =>
    cases b' with
    | none => exact (show False from rb).elim
    | some l' => exact ⟨some l', H1, I1, rb, q⟩
def mOr (t : TP) : TP := fun v σ H Q => t v σ H fun r H1 => match r with
  | some _ => Q (some []) H1
  | none => Q none H1
theorem pp_or {ps : List Pattern} {t : TP} {p : Pos} (hp : PPo X ps t) (hn : namesOfAll (ps.take 1) = [] := by rfl) : PP X (.MatchOr ps p) (mOr t) := by
  refine ⟨fun pins s σ H v u Q I r h => wpAny_matchPattern_Or (thn (hp.run pins s σ H v u _ I r h) fun b s1 ⟨b', H1, I1, rb, q⟩ => ?_)⟩
  cases b with
  | none =>
    cases b' with
    | none => exact ⟨none, H1, I1, True.intro, q⟩
    | some _ => exact (show False from rb).elim
  | some l =>
    cases b' with
    | none => exact (show False from rb).elim
    | some l' =>
      refine ⟨some [], H1, I1, ?_, q⟩
      rw [hn]
      exact .nil
/-- the items, from the left -/
def qNil : TPs := fun _ _ H Q => Q (some []) H
def qCons (t : TP) (u : TPs) : TPs := fun vs σ H Q => ∃ v r, vs = v :: r ∧ t v σ H fun b H1 => match b with
  | none => Q none H1
  | some bs => u r σ H1 fun c H2 => match c with
    | none => Q none H2
    | some cs => Q (some (bs ++ cs)) H2
theorem ppq_nil : PPq X [] qNil := ⟨fun pins s σ H vs us Q I r _ h => wpAny_matchEach_nil ⟨some [], H, I, .nil, h⟩⟩
theorem ppq_cons {p : Pattern} {ps : List Pattern} {t : TP} {u : TPs} (hp : PP X p t) (hq : PPq X ps u) (hs : p.isStar = false := by rfl) : PPq X (p :: ps) (qCons t u) := by
  refine ⟨fun pins s σ H vs us Q I r hl h => ?_⟩
  obtain ⟨v, vr, e, h⟩ := h
  subst e
  cases r with
  | cons r rr =>
    refine wpAny_matchEach_cons (thn (hp.run pins s σ H v _ _ I r h) fun b s1 ⟨b', H1, I1, rb, q⟩ => ?_) hs
    cases b with
    | none =>
      cases b' with
      | none => exact ⟨none, H1, I1, True.intro, q⟩
      | some _ => exact (show False from rb).elim
    | some l =>
      cases b' with
      | none => exact (show False from rb).elim
      | some l' =>
        refine thn (hq.run pins s1 σ H1 vr _ _ I1 rr (by simpa using hl) q) fun c s2 ⟨c', H2, I2, rc, q2⟩ => ?_
        cases c with
        | none =>
          cases c' with
          | none => exact ⟨none, H2, I2, True.intro, q2⟩
          | some _ => exact (show False from rc).elim
        | some m =>
          cases c' with
          | none => exact (show False from rc).elim
          | some m' => exact ⟨some (l' ++ m'), H2, I2, kv_app rb rc, q2⟩
def mSeq (K : PySem.W.Frag) (n : Nat) (t : TPs) : TP := fun v σ H Q => ∃ a xs, v = .ref a ∧ SqT K H a xs ∧ if xs.length = n then t xs σ H Q else Q none H
theorem pp_seq {ps : List Pattern} {t : TPs} {p : Pos} (hp : PPq X ps t) (hc : X.calm = true := by rfl) (hst : ps.findIdx? (·.isStar) = none := by rfl)
    (hw : (ps.all fun p => p.isWildcard || (p.isStar && p.names.isEmpty)) = false := by rfl) : PP X (.MatchSequence ps p) (mSeq X.K ps.length t) := by
  refine ⟨fun pins s σ H v u Q I r h => ?_⟩
  obtain ⟨a, xs, e, hq, h⟩ := h
  subst e
  cases r
  obtain ⟨its, rv, ht, hz⟩ := I.tuple hq
  have hlen := rv.length
  have hs : sizeLine = 16777216 := sizeLine_eq
  have hfit : ((its.toArray.size : Nat) : Int) < 2 ^ 63 := by
    simp only [List.size_toArray]
    omega
  by_cases hn : xs.length = ps.length
  · rw [if_pos hn] at h
    refine PyProof.Rows.matchSeq_tuple_hit ht hfit (by simp only [List.size_toArray]; omega) ?_ hst hw
    have hz2 : its.toArray.size = ps.length := by
      simp only [List.size_toArray]
      omega
    rw [← hz2]
    refine PyProof.Rows.unpackItems_tuple (I.ok.hd hc) ht fun h' hx => ?_
    exact hp.run pins _ σ H xs _ Q (I.kept (h' := h') fun b o e => hx b o (Nat.ne_of_lt (Heap.lt_size e)) e) (by simpa using rv) hn h
  · rw [if_neg hn] at h
    exact PyProof.Rows.matchSeq_tuple_miss ht hfit (by simp only [List.size_toArray]; omega) ⟨none, H, I.tok _, True.intro, h⟩ hst hw

/-! ### the cases -/
def setAll : St → List Nat → List V → St
  | σ, i :: is, v :: vs => setAll (σ.set i (some v)) is vs
  | σ, _, _ => σ
theorem bind_all {pins : List (Addr × Obj)} {H : Hp} {Q : Unit → Shared → Prop} : ∀ (own : List (Str × Nat)) (l : List (Str × V)) (m : List (Str × Value)) (s : Shared) (σ : St), Inv X pins σ H s → KV l m →
    l.map (·.1) = own.map (·.1) → X.N.Nodup → (∀ p ∈ own, X.N[p.2]? = some p.1 ∧ Loc X.env.scope p.1 ∧ (X.fn p.1 = true ∨ X.env.scope.names.lookup p.1 = some .local)) →
    (∀ s', Inv X pins (setAll σ (own.map (·.2)) (l.map (·.2))) H s' → Q () s') →
    wpAny (model X.prog X.w) X.A (assignInOrder (m.map fun (n, _) => bindName X.env n) (m.map (·.2))) Q X.xe s
  | [], [], _, s, σ, I, r, _, _, _, k => by
    cases r
    exact wpAny_assignInOrder_none (k s I)
  | [], _ :: _, _, _, _, _, _, e, _, _, _ => by simp at e
  | _ :: _, [], _, _, _, _, _, e, _, _, _ => by simp at e
  | (x, i) :: own, (y, v) :: l, _, s, σ, I, r, e, hN, ho, k => by
    cases r with
    | @cons _ q _ m r rr =>
      obtain ⟨z, u⟩ := q
      obtain ⟨e1, rv⟩ : y = z ∧ RelV v u := r
      have e2 : y = x ∧ l.map (·.1) = own.map (·.1) := by simpa using e
      obtain ⟨ex, el⟩ := e2
      subst e1
      subst ex
      obtain ⟨h1, h2, h3⟩ := ho (y, i) List.mem_cons_self
      refine wpAny_assignInOrder_more ?_
      show wpAny _ X.A (bindName X.env y u) _ _ _
      unfold bindName
      refine wpAny_bind (wpAny_holding (wpAny_point (wpAny_bind (store_ok I hN h1 h2 rv (fun s1 I1 => wpAny_point ?_) h3))))
      exact bind_all own l m s1 _ I1 rr el hN (fun p hp => ho p (List.mem_cons_of_mem _ hp)) k
def cNil : TC := fun _ D σ H => D.nx σ H
def cCons (t : TP) (own : List (Str × Nat)) (b : TS) (u : TC) : TC := fun v D σ H => t v σ H fun r H1 => match r with
  | none => u v D σ H1
  | some bs => bs.map (·.1) = own.map (·.1) ∧ b D (setAll σ (own.map (·.2)) (bs.map (·.2))) H1
theorem pcs_nil : PCs X [] cNil := ⟨fun _ pins s σ H v u D I r h => wpAny_matchCases_nil ⟨σ, H, I, h⟩⟩
theorem pcs_cons {p : Pattern} {body : List Stmt} {cs : List MatchCase} {t : TP} {b : TS} {u : TC} (own : List (Str × Nat)) (hN : X.N.Nodup)
    (ho : ∀ p ∈ own, X.N[p.2]? = some p.1 ∧ Loc X.env.scope p.1 ∧ (X.fn p.1 = true ∨ X.env.scope.names.lookup p.1 = some .local))
    (hp : PP X p t) (hb : PSs X body b) (hc : PCs X cs u) : PCs X (⟨p, none, body⟩ :: cs) (cCons t own b u) := by
  refine ⟨fun fst pins s σ H v w' D I r h => wpAny_matchCases_cons (thn (hp.run pins s σ H v w' _ I r h) fun c s1 ⟨c', H1, I1, rc, q⟩ => ?_)⟩
  cases c with
  | none =>
    cases c' with
    | none => exact hc.run false pins s1 σ H1 v w' D I1 r q
    | some _ => exact (show False from rc).elim
  | some m =>
    cases c' with
    | none => exact (show False from rc).elim
    | some l =>
      obtain ⟨e, q⟩ := q
      exact bind_all own l m s1 σ I1 rc e hN ho fun s2 I2 => hb.run pins s2 _ H1 D I2 q
theorem own0 {P : Str × Nat → Prop} : ∀ p ∈ ([] : List (Str × Nat)), P p := fun p hp => absurd hp (by simp)
theorem ownC {P : Str × Nat → Prop} {q : Str × Nat} {l : List (Str × Nat)} (h : P q) (hl : ∀ p ∈ l, P p) : ∀ p ∈ q :: l, P p := fun p hp => by
  rcases List.mem_cons.mp hp with e | e
  · rw [e]
    exact h
  · exact hl p e
def tMatch (te : TE) (c : TC) : TS := fun D σ H => te σ H fun v H1 => c v D σ H1
theorem ps_match {e : Expr} {cs : List MatchCase} {te : TE} {c : TC} {p : Pos} (he : PE X e te) (hc : PCs X cs c) : PS X (.Match e cs p) (tMatch te c) := by
  refine ⟨fun pins s σ H D I h => wpAny_Match (thn (he.run pins s σ H _ I h) fun u s1 ⟨v, H1, I1, r, q⟩ => ?_)⟩
  exact hc.run true pins s1 σ H1 v u D I1 r q
end
end Mh
namespace Mh
open PySem L2

/-! ### enumerate(v), v told by what its iterator draws -/
theorem meetsEnum {v : Value} {cell : Obj} {Z : Heap → Prop} (bg : Begins v cell Z) :
    Meets (Builtin.«enumerate.__new__» ⟨[.type "enumerate", v], []⟩) (fun _ R s => Z s.heap ∧
      R (.ok (.ret (.ref (s.heap.push cell).objs.size)))
        { s with heap := (s.heap.push cell).push { cls := .type "enumerate", data := .fields #[.none, .bool false, .ref s.heap.objs.size, rawInt 0, .none, .none] } }) :=
  .of_wp fun prog w A R s given => by
    obtain ⟨hp, gs, dr, tk, os⟩ := s
    obtain ⟨g1, g2⟩ := given
    have below := sub_enumerate
    have it1 : ∀ {B : Around} {E : Value → Shared → Prop} {Q : Value → Shared → Prop}, Q (.ref hp.objs.size) ⟨hp.push cell, gs, dr, tk, os⟩ → wpAny (model prog w) B (pyIter v) Q E ⟨hp, gs, dr, tk, os⟩ :=
      fun q => bg.iter prog w _ _ ⟨hp, gs, dr, tk, os⟩ _ g1 q
    wp_walk using it1
    refine wpAny_stack_any fun stk => wpAny_pure ?_
    split
    · rename_i c _ _ _ _ _
      cases (c == Value.type "enumerate") <;> (wp_walk using it1; exact ⟨_, rfl, g2⟩)
    · wp_walk using it1
      exact ⟨_, rfl, g2⟩
section
variable {prog : Program} {w : World} {A : Around} {E : Value → Shared → Prop} {s : Shared}
theorem enum1 {v : Value} {cell : Obj} {Z : Heap → Prop} {Q : Value → Shared → Prop} (bg : Begins v cell Z) (g1 : Z s.heap)
    (k : ∀ h', IsEnum h' (s.heap.objs.size + 1) s.heap.objs.size 0 .none → h'.get? s.heap.objs.size = some cell → h'.objs.size = s.heap.objs.size + 2 →
      (∀ b o, s.heap.get? b = some o → h'.get? b = some o) → Q (.ref (s.heap.objs.size + 1)) { s with heap := h' }) :
    wpAny (model prog w) A (call (.type "enumerate") [v]) Q E s := by
  refine callType_new F.called_enumerate (by decide) (F.typeCall_enumerate_1 _) (F.newCall_enumerate_1 _) (fun obj => F.args_object_init_2 obj _) F.entry_enumerate_new (meetsEnum bg) ⟨g1, ?_⟩
  have size1 : (s.heap.push cell).objs.size = s.heap.objs.size + 1 := Heap.size_push ..
  show _ ∧ _
  rw [size1]
  have made : IsEnum ((s.heap.push cell).push { cls := .type "enumerate", data := .fields #[.none, .bool false, .ref s.heap.objs.size, rawInt 0, .none, .none] }) (s.heap.objs.size + 1) s.heap.objs.size 0 .none := by
    have z := Heap.get?_push_size (s.heap.push cell) (o := { cls := .type "enumerate", data := .fields #[.none, .bool false, .ref s.heap.objs.size, rawInt 0, .none, .none] }) rfl
    rw [size1] at z
    exact z
  exact ⟨⟨_, made, rfl⟩, k _ made (Heap.get?_push_of_some _ (Heap.get?_push_size _ bg.free)) (by rw [Heap.size_push, size1]) fun b o x => Heap.get?_push_of_some _ (Heap.get?_push_of_some _ x)⟩
end
/-- the tuple at a, each item in a new pair with its number -/
def IteT (K : PySem.W.Frag) (a : Addr) : It where
  go := fun i H => ∃ (xs : List V) (x : V), SqT K H a xs ∧ xs[i]? = some x
  yld := fun i H v H' => ∃ T x, v = .ref T ∧ H T = none ∧ H' = upd H T (.tup [.int (i : Nat), x]) ∧ ∀ xs, SqT K H a xs → xs[i]? = some x
  stop := fun i H => ∃ xs : List V, SqT K H a xs ∧ xs.length ≤ i
theorem turn_enumT {P : Program} {w : World} {K : PySem.W.Frag} {elts : List Expr} {kk : Nat} {tpos : Pos} (a e it : Addr) (items : Array Value) (hne : e ≠ it) (hea : e ≠ a) (hia : a ≠ it) :
    Turn P w K (.Tuple elts kk tpos) (IteT K a) [e, it] e (fun i h => (∃ old, IsEnum h e it ((i : Nat) : Int) old) ∧ h.IsTupleIter it a i) where
  mem := by simp
  obj := fun i h st b hb => by
    obtain ⟨⟨old, he⟩, o, ho, hc, hd⟩ := st
    have hb' : b = e ∨ b = it := by simpa using hb
    rcases hb' with z | z
    · rw [z]
      exact ⟨_, he, fun v q => nomatch q⟩
    · rw [z]
      exact ⟨o, ho, fun v q => by rw [hd] at q; cases q⟩
  keep := fun i h h' st k => let ⟨⟨old, he⟩, hi⟩ := st; ⟨⟨old, k e (by simp) _ he⟩, hi.at fun o q => k it (by simp) o q⟩
  item := by
    intro X hP hw hK hc i pins s σ H E I hf st hg
    subst hP hw hK
    obtain ⟨⟨old, he⟩, hit⟩ := st
    obtain ⟨xs, x, hq, hx⟩ := hg
    obtain ⟨its, rv, p, hz⟩ := I.tuple hq
    obtain ⟨u, hu, ru⟩ := rv.get hx
    have sz := rv.length
    have hil : i < its.toArray.size := by
      have z := (List.getElem?_eq_some_iff.mp hx).1
      simp only [List.size_toArray]
      omega
    have hel : e < s.heap.objs.size := Heap.lt_size he
    have hitl : it < s.heap.objs.size := by obtain ⟨_, q, _⟩ := hit; exact Heap.lt_size q
    have hh1 : X.A.in1.handled = none := I.ok.hd hc
    refine wpAny_pyNext_enum_itemD (Draws.tuple hh1 it a hia its.toArray) he ⟨hit, show s.heap.IsTuple a its.toArray from p⟩ hil hne (by simp [hne, hea]) fun y h' tk hy ho hst' hT hsz hk => ?_
    have ey : y = u := by
      rw [List.getElem?_toArray] at hy
      rw [hu] at hy
      exact (Option.some.inj hy).symm
    subst ey
    refine ⟨_, rfl, wpAny_letOwnedTupleGo_enum (s := { s with heap := h', toks := tk + 1 }) ho fun h2 he2 sb => ?_⟩
    have hT2 : h2.get? s.heap.objs.size = some { cls := .type "tuple", data := .seq #[.int i tk, y] } := (sb.2 _ (Nat.ne_of_gt hel)).trans hT
    have new : ObjOk X.prog X.w (upd H s.heap.objs.size (.tup [.int (i : Nat), x])) h2 s.heap.objs.size (.tup [.int (i : Nat), x]) :=
      ⟨by show 2 ≤ sizeLine; decide, [.int i tk, y], .cons ⟨_, rfl⟩ (.cons ru .nil), ⟨_, hT2, rfl, _, rfl⟩⟩
    have I1 : Inv X pins σ (upd H s.heap.objs.size (.tup [.int (i : Nat), x])) { s with heap := h2, toks := tk + 1 } :=
      I.turnedNew (ch := [e, it]) (fun b ob hb q => (sb.2 b (fun z => hb (by simp [z]))).trans (hk b ob (fun z => hb (by simp [z])) (fun z => hb (by simp [z])) q)) hf (Nat.le_refl _) new
    refine ⟨.ref s.heap.objs.size, _, I1, rfl, ⟨_, x, rfl, I.hok.fresh (Nat.le_refl _), rfl, fun ys hy2 => by rw [I.tuple_inj hy2 hq]; exact hx⟩, ⟨⟨y, ?_⟩, hst'.1.at fun o q => (sb.2 it (Ne.symm hne)).trans q⟩, fun b hb => ?_⟩
    · have e1 : ((i + 1 : Nat) : Int) = (i : Int) + 1 := by omega
      rw [e1]
      exact he2
    · have hb' : b = e ∨ b = it := by simpa using hb
      have hlt : b < s.heap.objs.size := by
        rcases hb' with z | z
        · rw [z]; exact hel
        · rw [z]; exact hitl
      rw [upd_ne (Nat.ne_of_lt hlt)]
      exact (hf b hb).1
  done := by
    intro X hP hw hK hc i pins s σ H E I hf st hg
    subst hP hw hK
    obtain ⟨⟨old, he⟩, hit⟩ := st
    obtain ⟨xs, hq, hx⟩ := hg
    obtain ⟨its, rv, p, hz⟩ := I.tuple hq
    have sz := rv.length
    obtain ⟨f0, f1, f2, f3, f4, f5⟩ := hf it (by simp)
    have hh1 : X.A.in1.handled = none := I.ok.hd hc
    have D0 : Draws X.prog X.w X.A.in1 it [it, a] i (fun _ _ => True) (fun j h => j = i ∧ h.IsTupleIter it a j ∧ h.IsTuple a its.toArray) := {
      live := fun _ _ z => let ⟨o, ho, _⟩ := z.2.1; ⟨o, ho⟩
      frame := fun _ _ _ z hk => ⟨z.1, z.2.1.at fun o q => hk it (by simp) o q, z.2.2.at fun o q => hk a (by simp) o q⟩
      item := fun j s2 Q E2 hj z k => absurd z.1 (Nat.ne_of_lt hj)
      done := fun s2 Q E2 z k => wpAny_nextOf_tuple_end hh1 z.2.1 z.2.2 (by simp; omega) k }
    exact wpAny_pyNext_enum_endD D0 he ⟨rfl, hit, show s.heap.IsTuple a its.toArray from p⟩ fun h' eb => ⟨rfl, I.turned (t' := s.toks) (fun b o hb q => eb b o hb q) f0 f1 f3 f4 f5⟩
  self := fun A i s Q E st h => let ⟨⟨_, he⟩, _⟩ := st; wpAny_pyIter_enum he h
def iEnumT (K : PySem.W.Frag) (ta : TA) : TI := fun σ H R => ta σ H fun vs H1 => ∃ a xs, vs = [.ref a] ∧ SqT K H1 a xs ∧ R (IteT K a) H1
theorem pi_enumT {X : Cx} {e : Expr} {ta : TA} {p pos tpos : Pos} {elts : List Expr} {kk : Nat} (hg : Gl X "enumerate") (hm : X.mg "enumerate" = none) (ha : PA X [e] ta) (hs : starEach [e] X.env = [(false, eval e X.env)] := by rfl) :
    PI X (.Tuple elts kk tpos) (.Call (.Name "enumerate" p) [e] [] pos) (iEnumT X.K ta) := by
  refine ⟨fun pins s σ H R I h => ?_⟩
  refine PyProof.Rows.Call_ (ld_blt I hg hm PyProof.Rows.boot_enumerate (PyProof.Rows.callWith_type1 (thn (ha.run pos pins s σ H _ I h) fun us s1 ⟨vs, H1, I1, r1, q1⟩ => ?_) hs rfl))
  obtain ⟨a, xs, ex, hq, q⟩ := q1
  subst ex
  cases r1 with
  | cons r rr =>
    cases rr
    cases r
    obtain ⟨its, rv, p', hz⟩ := I1.tuple hq
    have hta : s1.heap.IsTuple a its.toArray := p'
    have hal : a < s1.heap.objs.size := by obtain ⟨o, q, _⟩ := hta; exact Heap.lt_size q
    refine enum1 (begins_tuple a its.toArray) hta fun h' he hcell hsz hk => wpAny_pyIter_enum he ?_
    have I2 : Inv X pins σ H1 { s1 with heap := h' } := I1.kept (t' := s1.toks) hk
    refine ⟨s1.heap.objs.size + 1, [s1.heap.objs.size + 1, s1.heap.objs.size], _, _, H1, rfl, I2,
      turn_enumT a (s1.heap.objs.size + 1) s1.heap.objs.size its.toArray (Nat.succ_ne_self _) (Nat.ne_of_gt (Nat.lt_succ_of_lt hal)) (Nat.ne_of_lt hal), ⟨⟨.none, he⟩, ⟨_, hcell, rfl, rfl⟩⟩, fun b hb => ?_, q⟩
    have hb' : b = s1.heap.objs.size + 1 ∨ b = s1.heap.objs.size := by simpa using hb
    have hle : s1.heap.objs.size ≤ b := by
      rcases hb' with z | z
      · rw [z]; exact Nat.le_add_right _ _
      · rw [z]; exact Nat.le_refl _
    exact I1.fpOk hle (I1.hok.fresh hle)
theorem walk_enumT {K : PySem.W.Frag} {a : Addr} {xs : List V} : Walk (IteT K a) xs.length (fun H => SqT K H a xs) (YPair (fun i => some (.int (i : Nat))) (fun i => xs[i]?)) := by
  refine ⟨fun i _ hi q => ⟨xs, xs[i], q, by simp [hi]⟩, fun _ q => ⟨xs, q, Nat.le_refl _⟩, fun i H v H' _ q y => ?_⟩
  obtain ⟨T, x, h1, h2, h3, h4⟩ := y
  exact ⟨T, .int (i : Nat), x, h1, h2, h3, rfl, h4 xs q⟩
end Mh
namespace Mh
open PySem L2
/-- a set as it is made -/
abbrev freshSet (w : World) : Obj := { cls := .type "set", dict := none, data := .set #[] 0 (.fresh 0 0 (!w.params.followText "set-order")) }
section
variable {P : Program} {w : World} {A : Around} {E : Value → Shared → Prop} {s : Shared}
/-- set(xs), xs a list of ints -/
theorem callSetL {a : Addr} {its : Array Value} (ns : List Int) {Q : Value → Shared → Prop} (calm : A.handled = none) (isL : s.heap.IsList a its) (allInt : PyProof.Rows.IntsAre its.toList ns) (few : ns.length + 1 < scanBound)
    (k : ∀ (h' : Heap) (tk c : Nat), SetR w h' s.heap.objs.size (fun j => decide (j ∈ ns)) c → c ≤ ns.length → (∀ b o, s.heap.get? b = some o → h'.get? b = some o) → Q (.ref s.heap.objs.size) { s with heap := h', toks := tk }) :
    wpAny (model P w) A (call (.type "set") [.ref a]) Q E s := by
  have size0 : its.size = ns.length := by
    have z := PyProof.Rows.IntsAre.length allInt
    rwa [Array.length_toList] at z
  obtain ⟨cc, tl, mro⟩ := F.called_set.mro
  have made := F.called_set.made
  have below := F.called_set.sub
  refine wpAny_call (codeAny_of_tree ?_)
  show wpAny (model P w) _ (callAny (.type "set") _) _ _ s
  refine wpAny_pure ⟨Code.quiet_builtin _ (by decide +kernel), codeAny_builtin F.entry_type_call ?_⟩
  rw [Around.under_plain (weight_type_call_type "set" [.ref a] []) rfl]
  have p1 := F.called_set.notType
  have p2 := F.called_set.canCreate
  have p3 := F.typeCall_set_1 (.ref a)
  repeat (any_goals (first | assumption | wp_step))
  refine codeAny_mono (code_set_led1 (.ref a) (E := E)
    (Q₁ := fun obj s₁ => obj = .ref s.heap.objs.size ∧ s₁ = { s with heap := s.heap.push (freshSet w) }) ⟨rfl, rfl⟩) fun r s₁ hr => ?_
  rcases r with e | fl
  · exact hr
  rcases fl with _ | _ | _ | obj
  · exact hr.elim
  · exact hr.elim
  · exact hr.elim
  obtain ⟨rfl, rfl⟩ := hr
  have at0 : (s.heap.push (freshSet w)).get? s.heap.objs.size = some (freshSet w) := Heap.get?_push_size _ rfl
  have ty0 : Shared.TypeIs { s with heap := s.heap.push (freshSet w) } (.ref s.heap.objs.size) "set" := ⟨_, at0, rfl⟩
  have p4 := F.called_set.init.lookup
  have p5 := F.called_set.init.bind (.ref s.heap.objs.size)
  repeat (any_goals (first | assumption | wp_step))
  refine codeAny_mono (codeAny_call_builtin (R := wants (fun r s₂ => r = .none ∧ ∃ h' tk c, s₂ = { s with heap := h', toks := tk } ∧ SetR w h' s.heap.objs.size (fun j => decide (j ∈ ns)) c ∧ c ≤ ns.length ∧
    (∀ b o, s.heap.get? b = some o → h'.get? b = some o)) E) F.called_set.init.plain F.entry_set_init (check_set_init_1 ty0 ?_)) fun r₂ s₂ hr₂ => ?_
  · obtain ⟨⟨c0, d0, dt0, sl0⟩, got, cls0, cnt0, data0⟩ := isL
    simp only at cls0 data0
    subst cls0 data0
    have got1 : (s.heap.push (freshSet w)).get? a = some { cls := .type "list", dict := d0, data := .seq its cnt0, slots := sl0 } := Heap.get?_push_of_some _ got
    have q1 := F.sub_list_set
    have q2 := F.sub_list_frozenset
    have q3 : (Value.type "list" == Value.type "dict") = false := by decide
    have isL1 : (s.heap.push (freshSet w)).IsList a its := ⟨_, got1, rfl, cnt0, rfl⟩
    unfold Builtin.«set.__init__» noKeywords Builtin.Frozenset.updateFrom
    generalize frozen : pyIter = walkIt
    wp_walk
    subst frozen
    refine wpAny_pyIter_list isL1 (wpAny_bind (wpAny_runValue ?_))
    have below0 : a < s.heap.objs.size := Heap.lt_size got
    have calm3 : A.in1.in1.in1.handled = none := by simp [calm]
    have apart : a ≠ (s.heap.push (freshSet w)).objs.size := by
      rw [Heap.size_push]
      exact Nat.ne_of_lt (Nat.lt_succ_of_lt below0)
    have apart2 : s.heap.objs.size ∉ [(s.heap.push (freshSet w)).objs.size, a] := by
      rw [Heap.size_push]
      simp only [List.mem_cons, List.not_mem_nil, or_false, not_or]
      exact ⟨Nat.ne_of_lt (Nat.lt_succ_self _), Nat.ne_of_gt below0⟩
    have vals : ∀ (i : Nat) (v : Value), its[i]? = some v → ∃ z t, ns[i]? = some z ∧ v = .int z t := fun i v hv => by
      have hi : i < ns.length := by
        rw [← size0]
        exact (Array.getElem?_eq_some_iff.mp hv).1
      obtain ⟨t, e⟩ := PyProof.Rows.IntsAre.int_at allInt i v (by rw [Array.getElem?_toList]; exact hv)
      exact ⟨ns[i], t, List.getElem?_eq_getElem hi, by rw [e, List.getD_eq_getElem?_getD, List.getElem?_eq_getElem hi]; rfl⟩
    refine set_update_ints ((Walks.list calm3 _ a apart its).toS) s.heap.objs.size apart2 ns size0 few vals (its.size - 0) 0 _ (by omega) (Nat.zero_le _) ⟨⟨_, Heap.get?_push_size _ rfl, rfl, rfl⟩, isL1.push _⟩
      ⟨0, Nat.le_refl 0, setR_new_at (Heap.get?_push_of_some _ at0)⟩ ?_
    intro s3 c3 mv hc3 hS3
    obtain ⟨h3, g3, d3, tk3, os3⟩ := s3
    have e1 : g3 = s.gens := mv.gens
    have e2 : d3 = s.drawn := mv.drawn
    have e3 : os3 = s.os := mv.os
    subst e1 e2 e3
    show wpAny (model P w) _ _ _ _ _
    refine wpAny_pure ?_
    show wpAny (model P w) _ (ret Value.none) _ _ _
    rw [size0] at hc3
    refine wpAny_pure ⟨rfl, h3, tk3, c3, rfl, hS3, hc3, fun b o e => ?_⟩
    have hb0 : b < s.heap.objs.size := Heap.lt_size e
    refine mv.heap b o ?_ (Heap.get?_push_of_some _ (Heap.get?_push_of_some _ e))
    simp only [List.mem_cons, List.not_mem_nil, or_false, not_or]
    refine ⟨Nat.ne_of_lt hb0, ?_⟩
    rw [Heap.size_push]
    exact Nat.ne_of_lt (Nat.lt_succ_of_lt hb0)
  · rcases r₂ with e | fl
    · exact hr₂
    rcases fl with _ | _ | _ | r
    · exact hr₂.elim
    · exact hr₂.elim
    · exact hr₂.elim
    obtain ⟨rfl, h', tk, c', rfl, hS', hc', hk'⟩ := hr₂
    repeat (any_goals (first | assumption | wp_step))
    exact k _ _ _ hS' hc' hk'
end
/-- set(xs) by values -/
def rSetL (K : PySem.W.Frag) (w : World) : List V → Hp → VK → Prop := fun vs H Q => ∃ (a : Addr) (ns : List Int), vs = [V.ref a] ∧ SqL K H a (ns.map V.int) ∧ ns.length ≤ 1000 ∧
  ∀ (p : Addr) (c : Nat), H p = none → c ≤ ns.length → Q (.ref p) (upd H p (SetO w p (fun j => decide (j ∈ ns)) c))
theorem ints_of_vals : ∀ {ns : List Int} {us : List Value}, Vals (ns.map V.int) us → PyProof.Rows.IntsAre us ns
  | [], _, .nil => .nil
  | n :: ns, _, .cons r t => by
    obtain ⟨tk, rfl⟩ := r
    exact .cons n tk (ints_of_vals t)
theorem cr_setL {X : Cx} (hc : X.calm = true) : CallR X (.type "set") (rSetL X.K X.w) := by
  intro pins s σ H vs us Q I r h
  obtain ⟨a, ns, rfl, hq, few, k⟩ := h
  obtain ⟨its, rv, p, hz⟩ := I.list hq
  rw [Vals.ref1 r]
  refine callSetL ns (I.ok.hd hc) p.isList (ints_of_vals rv) (by unfold scanBound; omega) fun h' tk c hS hcl hk => ?_
  refine ⟨.ref s.heap.objs.size, upd H s.heap.objs.size (SetO X.w s.heap.objs.size (fun j => decide (j ∈ ns)) c), I.laid (t' := tk) hk (Nat.le_refl _) (setO_new hS), rfl, k _ c (I.hok.fresh (Nat.le_refl _)) hcl⟩
end Mh
/-! What the laws draw, told as data; what stays. -/
namespace Mh
open PySem L2

/-! ### all stays but what is named -/
def Bt (S : List Addr) (H H' : Hp) : Prop := ∀ b o, b ∉ S → H b = some o → H' b = some o
section
variable {S S' : List Addr} {H H1 H2 : Hp} {p : Addr} {o : HO} {K : PySem.W.Frag}
theorem Bt.refl : Bt S H H := fun _ _ _ h => h
theorem Bt.trans (a : Bt S H H1) (b : Bt S H1 H2) : Bt S H H2 := fun c u n h => b c u n (a c u n h)
theorem Bt.new (h : H p = none) : Bt S H (upd H p o) := fun b u _ e => by rw [upd_ne (ne_of_none e h)]; exact e
/-- an object that was not there, or that is named, is written -/
theorem Bt.put (a : Bt S H H1) (h : H p = none) : Bt S H (upd H1 p o) := fun b u n e => by rw [upd_ne (ne_of_none e h)]; exact a b u n e
theorem Bt.set (a : Bt S H H1) (h : p ∈ S) : Bt S H (upd H1 p o) := fun b u n e => by rw [upd_ne (fun z => n (by rw [z]; exact h))]; exact a b u n e
theorem Bt.mono (a : Bt S H H1) (h : ∀ b ∈ S, b ∈ S') : Bt S' H H1 := fun b u n e => a b u (fun z => n (h b z)) e
theorem Bt.of_same (a : Same H H1) : Bt S H H1 := fun b u _ e => a b u e
theorem Bt.same (a : Bt [] H H1) : Same H H1 := fun b u e => a b u (by simp) e
/-- what was free behind was free ahead -/
theorem Bt.free (a : Bt S H H1) (h : p ∉ S) (e : H1 p = none) : H p = none := by
  cases q : H p with
  | none => rfl
  | some u =>
    rw [a p u h q] at e
    cases e
/-- all tuples stay -/
def KT (K : PySem.W.Frag) (H H' : Hp) : Prop := ∀ a xs, SqT K H a xs → SqT K H' a xs
theorem KT.refl : KT K H H := fun _ _ h => h
theorem KT.trans (a : KT K H H1) (b : KT K H1 H2) : KT K H H2 := fun c xs h => b c xs (a c xs h)
theorem Bt.kt (a : Bt S H H1) (h : ∀ b ∈ S, ∀ xs, ¬ Rd H b (.tup xs)) : KT K H H1 := fun c xs e => by
  rcases e with e | e
  · have n : c ∉ S := fun z => h c z xs e
    rcases e with e | ⟨u, e⟩
    · exact .inl (.inl (a c _ n e))
    · exact .inl (.inr ⟨u, a c _ n e⟩)
  · exact .inr e
theorem norm_tup {xs : List V} {d : Addr} (h : H d = some (.lst xs)) : ∀ ys, ¬ Rd H d (.tup ys) := fun ys z => by
  rcases z with z | ⟨u, z⟩ <;> (rw [h] at z; cases z)
theorem Bt.kt1 {d : Addr} {xs : List V} (a : Bt [d] H H1) (h : H d = some (.lst xs)) : KT K H H1 := a.kt fun b hb ys => by
  have e : b = d := by simpa using hb
  rw [e]
  exact norm_tup h ys
theorem KT.same (a : Same H H1) : KT K H H1 := (Bt.of_same (S := []) a).kt fun b hb => absurd hb (by simp)
theorem KT.new (h : H p = none) : KT K H (upd H p o) := (Bt.new (S := []) h).kt fun b hb => absurd hb (by simp)
end

/-! ### data of tuples -/
mutual
def TD : PyData → Bool
  | .none => true
  | .bool _ => true
  | .int _ => true
  | .str _ => true
  | .tuple ds => TDs ds
  | _ => false
def TDs : List PyData → Bool
  | [] => true
  | d :: ds => TD d && TDs ds
end
theorem tds_mem : ∀ {ds : List PyData}, TDs ds = true ↔ ∀ d ∈ ds, TD d = true
  | [] => by simp [TDs]
  | d :: ds => by simp [TDs, tds_mem (ds := ds)]
section
variable {K : PySem.W.Frag} {H H' : Hp}
mutual
theorem dp_keep (kt : KT K H H') : ∀ (d : PyData) (v : V), TD d = true → Dp K H v d → Dp K H' v d
  | .none, _, _, h => by cases h; exact .non
  | .bool b, _, _, h => by cases h; exact .bl b
  | .int i, _, _, h => by cases h; exact .int i
  | .str x, _, _, h => by cases h; exact .str x
  | .list _, _, t, _ => by simp [TD] at t
  | .dict _, _, t, _ => by simp [TD] at t
  | .tuple ds, _, t, h => by
    cases h with
    | tup hs ha => exact .tup (kt _ _ hs) (dps_keep kt ds _ (by simpa [TD] using t) ha)
theorem dps_keep (kt : KT K H H') : ∀ (ds : List PyData) (vs : List V), TDs ds = true → DpAll K H vs ds → DpAll K H' vs ds
  | [], _, _, h => by cases h; exact .nil
  | d :: ds, _, t, h => by
    have t' : TD d = true ∧ TDs ds = true := by simpa [TDs] using t
    cases h with
    | cons h1 h2 => exact .cons (dp_keep kt d _ t'.1 h1) (dps_keep kt ds _ t'.2 h2)
end
theorem dp_int {v : V} {i : Int} (h : Dp K H v (.int i)) : v = .int i := by cases h; rfl
theorem dp_str {v : V} {x : Str} (h : Dp K H v (.str x)) : v = .str x := by cases h; rfl
theorem dp_tup {v : V} {ds : List PyData} (h : Dp K H v (.tuple ds)) : ∃ a xs, v = .ref a ∧ SqT K H a xs ∧ DpAll K H xs ds := by
  cases h with
  | tup hs ha => exact ⟨_, _, rfl, hs, ha⟩
theorem dps_nil {vs : List V} (h : DpAll K H vs []) : vs = [] := by cases h; rfl
theorem dps_cons {vs : List V} {d : PyData} {ds : List PyData} (h : DpAll K H vs (d :: ds)) : ∃ v r, vs = v :: r ∧ Dp K H v d ∧ DpAll K H r ds := by
  cases h with
  | cons h1 h2 => exact ⟨_, _, rfl, h1, h2⟩
theorem dps_len : ∀ {vs : List V} {ds : List PyData}, DpAll K H vs ds → vs.length = ds.length
  | _, _, .nil => rfl
  | _, _, .cons _ t => by simp [dps_len t]
theorem dps_get : ∀ {vs : List V} {ds : List PyData} {i : Nat} {v : V}, DpAll K H vs ds → vs[i]? = some v → ∃ d, ds[i]? = some d ∧ Dp K H v d
  | _, _, _, _, .nil, e => by simp at e
  | _, _, 0, _, .cons h _, e => by
    simp at e
    subst e
    exact ⟨_, rfl, h⟩
  | _, _, i + 1, v, .cons _ t, e => by
    obtain ⟨d, h1, h2⟩ := dps_get (i := i) (v := v) t (by simpa using e)
    exact ⟨d, by simpa using h1, h2⟩
theorem dps_ints : ∀ {ns : List Int} {vs : List V}, DpAll K H vs (ns.map .int) → vs = ns.map .int
  | [], _, h => dps_nil h
  | n :: ns, _, h => by
    obtain ⟨v, r, rfl, h1, h2⟩ := dps_cons h
    rw [dp_int h1, dps_ints h2]
    rfl
theorem dps_of_ints : ∀ (ns : List Int), DpAll K H (ns.map V.int) (ns.map .int)
  | [] => .nil
  | n :: ns => .cons (.int n) (dps_of_ints ns)
theorem dps_snoc : ∀ {vs : List V} {ds : List PyData} {v : V} {d : PyData}, DpAll K H vs ds → Dp K H v d → DpAll K H (vs ++ [v]) (ds ++ [d])
  | _, _, _, _, .nil, h => .cons h .nil
  | _, _, _, _, .cons a t, h => .cons a (dps_snoc t h)
end

/-! ### machines -/
inductive Tst where
  | any | below (n : Int) | rest (m r : Int) | chance (m r : Int) | known (ks : List Int)
inductive Asw where
  | num (n : Int) | plus (n : Int) | times (n : Int) | rest (m : Int) | non
def Tst.dt : Tst → PyData
  | .any => .tuple [.str "any"]
  | .below n => .tuple [.str "below", .int n]
  | .rest m r => .tuple [.str "rest", .int m, .int r]
  | .chance m r => .tuple [.str "chance", .int m, .int r]
  | .known ks => .tuple [.str "known", .tuple (ks.map .int)]
def Asw.dt : Asw → PyData
  | .num n => .tuple [.str "num", .int n]
  | .plus n => .tuple [.str "plus", .int n]
  | .times n => .tuple [.str "times", .int n]
  | .rest m => .tuple [.str "rest", .int m]
  | .non => .tuple [.str "none"]
abbrev Mach := List (Tst × Asw)
def rowDt (r : Tst × Asw) : PyData := .tuple [r.1.dt, r.2.dt]
def machDt (m : Mach) : PyData := .tuple (m.map rowDt)
def Tst.Ok : Tst → Prop
  | .any => True
  | .below n => 0 ≤ n ∧ n ≤ 9999
  | .rest m r => 2 ≤ m ∧ m ≤ 99 ∧ 0 ≤ r ∧ r < m
  | .chance m r => 2 ≤ m ∧ m ≤ 99 ∧ 0 ≤ r ∧ r < m
  | .known ks => 1 ≤ ks.length ∧ ks.length ≤ 8 ∧ ks.Pairwise (· < ·) ∧ ∀ k ∈ ks, 0 ≤ k ∧ k ≤ 9999
def Asw.Ok : Asw → Prop
  | .num n => -9999 ≤ n ∧ n ≤ 9999
  | .plus n => -9999 ≤ n ∧ n ≤ 9999
  | .times n => -9999 ≤ n ∧ n ≤ 9999
  | .rest m => 2 ≤ m ∧ m ≤ 99
  | .non => True
def MachOk (m : Mach) : Prop := 1 ≤ m.length ∧ m.length ≤ 12 ∧ ∀ r ∈ m, r.1.Ok ∧ r.2.Ok
def Tst.holds (q s : Int) : Tst → Bool
  | .any => true
  | .below n => decide (q < n)
  | .rest m r => decide (q % m = r)
  | .chance m r => decide ((7 * q + 13 * s) % m = r)
  | .known ks => decide (q ∈ ks)
def Asw.out (q : Int) : Asw → Option Int
  | .num n => some n
  | .plus n => some (q + n)
  | .times n => some (q * n)
  | .rest m => some (q % m)
  | .non => none
def tell (q s : Int) : Mach → Option Int
  | [] => none
  | (t, a) :: r => if t.holds q s then a.out q else tell q s r
def oV : Option Int → V
  | none => .non
  | some i => .int i
theorem Tst.td (t : Tst) : TD t.dt = true := by
  cases t with
  | known ks =>
    have h : TDs (ks.map PyData.int) = true := tds_mem.mpr fun d hd => by
      obtain ⟨k, _, rfl⟩ := List.mem_map.mp hd
      rfl
    simp [Tst.dt, TD, TDs, h]
  | _ => simp [Tst.dt, TD, TDs]
theorem Asw.td (a : Asw) : TD a.dt = true := by cases a <;> simp [Asw.dt, TD, TDs]
theorem row_td (r : Tst × Asw) : TD (rowDt r) = true := by simp [rowDt, TD, TDs, r.1.td, r.2.td]
theorem mach_td (m : Mach) : TD (machDt m) = true := by
  have h : TDs (m.map rowDt) = true := tds_mem.mpr fun d hd => by
    obtain ⟨r, _, rfl⟩ := List.mem_map.mp hd
    exact row_td r
  simp [machDt, TD, h]

/-! ### dice -/
def Dice (xs : List V) : Prop := ∃ (a b : Int) (r : List Int), xs = .int a :: .int b :: r.map V.int ∧ 0 ≤ a ∧ a < 2147483647 ∧ 0 ≤ b ∧ r.length ≤ 63 ∧ ∀ z ∈ r, 0 ≤ z
end Mh
namespace Mh
open PySem L2
/-! ### defs of the text -/
structure Df (K : PySem.W.Frag) (mg : Str → Option Value) (x : Str) (st : Stmt) (ps : List Str) (f : Addr) (fd : FuncData) : Prop where
  F : Fun K x x st f fd
  n : mg x = some (.ref f)
  b : Binds K fd ps []
/-- with keyword-only parameters behind the first m, all told -/
structure DfK (K : PySem.W.Frag) (mg : Str → Option Value) (x : Str) (st : Stmt) (ps : List Str) (m : Nat) (ks : List Str) (f : Addr) (fd : FuncData) : Prop where
  F : Fun K x x st f fd
  n : mg x = some (.ref f)
  kb : KBn K fd ps m ks (fun us ws => us ++ ws) (fun vs zs => vs ++ zs)
/-- with keyword-only parameters that some calls leave out: dvs their values -/
structure DfS (K : PySem.W.Frag) (mg : Str → Option Value) (x : Str) (st : Stmt) (ps : List Str) (m : Nat) (ks : List Str) (dvs : List V) (f : Addr) (fd : FuncData) (ds : List Value) : Prop where
  F : Fun K x x st f fd
  n : mg x = some (.ref f)
  kb : KBn K fd ps m ks (fun us ws => us ++ ws) (fun vs zs => vs ++ zs)
  b0 : Binds K fd ps ds
  v0 : Vals dvs ds
/-- a module's value -/
def GV (mg : Str → Option Value) (x : Str) (v : V) : Prop := ∃ u, mg x = some u ∧ RelV v u
theorem pe_gv {X : Cx} {x : Str} {v : V} {pos : Pos} (hg : Gl X x) (h : GV X.mg x v) (hd : (x == ("__debug__" : Str)) = false := by decide) : PE X (.Name x pos) (tC v) := by
  obtain ⟨u, h1, h2⟩ := h
  exact pe_glob hg h1 h2 hd
theorem at0 {x : V} {r : List V} : atI (x :: r) 0 = some x := atI_nat (j := 0) rfl
theorem at1 {x y : V} {r : List V} : atI (x :: y :: r) 1 = some y := atI_nat (j := 1) rfl
theorem at2 {x y z : V} {r : List V} : atI (x :: y :: z :: r) 2 = some z := atI_nat (j := 2) rfl
def spLaw (K : PySem.W.Frag) : Sp := fun vs H Q _ => ∃ (a : Addr) (ns : List Int), vs = [.ref a] ∧ SqL K H a (ns.map V.int) ∧ ns.length ≤ 63 ∧ ∀ H', Q (.bl true) H'
end Mh
namespace Mh
open PySem L2
theorem execs_app (env : Env) (bs : List Stmt) : ∀ as : List Stmt, execs (as ++ bs) env = (do
    match ← execs as env with
    | .next => execs bs env
    | f => pure f)
  | [] => by
    show execs bs env = (pure Flow.next >>= _)
    rw [pure_bind]
  | a :: as => by
    show execs (a :: (as ++ bs)) env = _
    rw [arm_execs_cons, arm_execs_cons, bind_assoc]
    congr 1
    funext f
    cases f with
    | next => exact execs_app env bs as
    | brk => rw [pure_bind]
    | cont => rw [pure_bind]
    | ret v => rw [pure_bind]
/-- a block in two parts, with a word between them -/
theorem pss_at {X : Cx} {l : List Stmt} (n : Nat) {t u : TS} (h1 : PSs X (l.take n) t) (h2 : PSs X (l.drop n) u) : PSs X l (Evl.tCut t u) := by
  refine ⟨fun pins s σ H D I h => ?_⟩
  obtain ⟨Mid, hm, hu⟩ := h
  rw [← List.take_append_drop n l, execs_app]
  refine wpAny_bind (thn (h1.run pins s σ H { D with nx := Mid } I hm) fun f s1 q => ?_)
  cases f with
  | next =>
    obtain ⟨σ', H', I', q⟩ := q
    exact h2.run pins s1 σ' H' D I' (hu σ' H' q)
  | ret v => exact wpAny_pure q
  | brk => exact wpAny_pure q
  | cont => exact wpAny_pure q
end Mh
/-! Tasks as data; how deep data are. -/
namespace Mh
open PySem L2
structure Qn where
  q : Int
  due : Int
  twin : Option (Int × Int)
structure Task where
  qs : List Qn
  wt : Int
def twinDt : Option (Int × Int) → PyData
  | none => .none
  | some (y, e) => .tuple [.int y, .int e]
def Qn.dt (r : Qn) : PyData := .tuple [.int r.q, .int r.due, twinDt r.twin]
def Task.dt (t : Task) : PyData := .tuple [.tuple (t.qs.map Qn.dt), .int t.wt]
def dueOk (i : Int) : Prop := -99999999 ≤ i ∧ i ≤ 99999999
def Qn.Ok (r : Qn) : Prop := 0 ≤ r.q ∧ r.q ≤ 9999 ∧ dueOk r.due ∧ ∀ y e, r.twin = some (y, e) → 0 ≤ y ∧ y ≤ 9999 ∧ dueOk e
def Task.Ok (t : Task) : Prop := 1 ≤ t.qs.length ∧ t.qs.length ≤ 16 ∧ (∀ r ∈ t.qs, r.Ok) ∧ (t.qs.map Qn.q).Nodup ∧ 1 ≤ t.wt ∧ t.wt ≤ 9
theorem twin_td (o : Option (Int × Int)) : TD (twinDt o) = true := by
  cases o with
  | none => rfl
  | some p => rfl
theorem qn_td (r : Qn) : TD r.dt = true := by simp [Qn.dt, TD, TDs, twin_td]
theorem tds_map {α : Type} {f : α → PyData} (h : ∀ a, TD (f a) = true) (l : List α) : TDs (l.map f) = true := tds_mem.mpr fun d hd => by
  obtain ⟨r, _, rfl⟩ := List.mem_map.mp hd
  exact h r
theorem task_td (t : Task) : TD t.dt = true := by simp [Task.dt, TD, TDs, tds_map qn_td]
/-- data no deeper than n, no list longer than 1000 -/
def deep : Nat → PyData → Bool
  | _, .none => true
  | _, .bool _ => true
  | _, .int _ => true
  | _, .str _ => true
  | n + 1, .list ds => decide (ds.length ≤ 1000) && ds.all (deep n)
  | n + 1, .tuple ds => decide (ds.length ≤ 1000) && ds.all (deep n)
  | _, _ => false
theorem ty_lst {K : PySem.W.Frag} {H : Hp} {a : Addr} {xs : List V} (h : SqL K H a xs) : TyX K H (.ref a) (.type "list") := by
  rcases h with h | h
  · rcases h with h | ⟨o, h⟩
    · exact .base (.lst h)
    · exact .base (.frz h)
  · obtain ⟨o, its, n, h1, h2, _⟩ := h
    exact .kList h1 h2
/-- all lists and tuples stay -/
theorem same_sql {K : PySem.W.Frag} {H H' : Hp} {a : Addr} {xs : List V} (e : Same H H') (h : SqL K H a xs) : SqL K H' a xs := e.seq h
mutual
theorem dp_same {K : PySem.W.Frag} {H H' : Hp} (e : Same H H') : ∀ (d : PyData) (v : V), Dp K H v d → Dp K H' v d
  | .none, _, h => by cases h; exact .non
  | .bool b, _, h => by cases h; exact .bl b
  | .int i, _, h => by cases h; exact .int i
  | .str x, _, h => by cases h; exact .str x
  | .dict _, _, h => by cases h
  | .list ds, _, h => by
    cases h with
    | lst hs ha => exact .lst (e.seq hs) (dps_same e ds _ ha)
  | .tuple ds, _, h => by
    cases h with
    | tup hs ha => exact .tup (KT.same e _ _ hs) (dps_same e ds _ ha)
theorem dps_same {K : PySem.W.Frag} {H H' : Hp} (e : Same H H') : ∀ (ds : List PyData) (vs : List V), DpAll K H vs ds → DpAll K H' vs ds
  | [], _, h => by cases h; exact .nil
  | d :: ds, _, h => by
    cases h with
    | cons h1 h2 => exact .cons (dp_same e d _ h1) (dps_same e ds _ h2)
end
theorem dps_at {K : PySem.W.Frag} {H : Hp} : ∀ {vs : List V} {ds : List PyData} {i : Nat} {d : PyData}, DpAll K H vs ds → ds[i]? = some d → ∃ v, vs[i]? = some v ∧ Dp K H v d
  | _, _, _, _, .nil, e => by simp at e
  | _, _, 0, _, .cons h _, e => by
    simp at e
    subst e
    exact ⟨_, rfl, h⟩
  | _, _, i + 1, d, .cons _ t, e => by
    obtain ⟨v, h1, h2⟩ := dps_at (i := i) (d := d) t (by simpa using e)
    exact ⟨v, by simpa using h1, h2⟩
/-- what a task's right answers are -/
def Qn.good (m : Mach) (s : Int) (r : Qn) : Bool := decide (tell r.q s m = some r.due)
/-- bounds of what a machine tells -/
theorem tell_bound {q s : Int} : ∀ {m : Mach} {i : Int}, (∀ r ∈ m, r.1.Ok ∧ r.2.Ok) → 0 ≤ q → q ≤ 9999 → tell q s m = some i → dueOk i
  | [], _, _, _, _, h => by cases h
  | (t, a) :: m, i, ho, h0, h1, h => by
    have o1 := (ho _ List.mem_cons_self).2
    unfold tell at h
    split at h
    · cases a with
      | num n =>
        have e : n = i := Option.some.inj h
        subst e
        exact ⟨by have := o1.1; omega, by have := o1.2; omega⟩
      | plus n =>
        have e : q + n = i := Option.some.inj h
        subst e
        exact ⟨by have := o1.1; omega, by have := o1.2; omega⟩
      | times n =>
        have e : q * n = i := Option.some.inj h
        subst e
        have n0 := o1.1
        have n1 := o1.2
        have p1 : q * n ≤ q * 9999 := Int.mul_le_mul_of_nonneg_left n1 h0
        have p2 : q * (-9999) ≤ q * n := Int.mul_le_mul_of_nonneg_left n0 h0
        exact ⟨by omega, by omega⟩
      | rest n =>
        have e : q % n = i := Option.some.inj h
        subst e
        have n0 := o1.1
        have n1 := o1.2
        have p1 := Int.emod_nonneg q (b := n) (by omega)
        have p2 := Int.emod_lt_of_pos q (b := n) (by omega)
        exact ⟨by omega, by omega⟩
      | non => cases h
    · exact tell_bound (fun r hr => ho r (List.mem_cons_of_mem _ hr)) h0 h1 h
end Mh
namespace Mh
open PySem L2
/-- data that may be compared -/
def Sh (n : Nat) (d : PyData) : Prop := d.canLay0 = true ∧ d.depth ≤ n
theorem sh_int {n : Nat} (i : Int) : Sh n (.int i) := ⟨by simp [PyData.canLay0], by simp [PyData.depth]⟩
theorem sh_non {n : Nat} : Sh n .none := ⟨by simp [PyData.canLay0], by simp [PyData.depth]⟩
theorem sh_all {n : Nat} : ∀ {ds : List PyData}, (∀ d ∈ ds, Sh n d) → PyData.canLayAll0 ds = true ∧ PyData.depthAll ds ≤ n
  | [], _ => ⟨by simp [PyData.canLayAll0], by simp [PyData.depthAll]⟩
  | d :: ds, h => by
    obtain ⟨h1, h2⟩ := sh_all (n := n) (ds := ds) fun x hx => h x (List.mem_cons_of_mem _ hx)
    obtain ⟨h3, h4⟩ := h d List.mem_cons_self
    exact ⟨by simp [PyData.canLayAll0, h1, h3], by simp only [PyData.depthAll]; omega⟩
theorem sh_list {n : Nat} {ds : List PyData} (h : ∀ d ∈ ds, Sh n d) : Sh (n + 1) (.list ds) := by
  obtain ⟨h1, h2⟩ := sh_all h
  exact ⟨by simpa [PyData.canLay0] using h1, by simp only [PyData.depth]; omega⟩
theorem sh_tuple {n : Nat} {ds : List PyData} (h : ∀ d ∈ ds, Sh n d) : Sh (n + 1) (.tuple ds) := by
  obtain ⟨h1, h2⟩ := sh_all h
  exact ⟨by simpa [PyData.canLay0] using h1, by simp only [PyData.depth]; omega⟩
theorem Sh.mono {n m : Nat} {d : PyData} (h : Sh n d) (l : n ≤ m) : Sh m d := ⟨h.1, Nat.le_trans h.2 l⟩
theorem Sh.shaped {n : Nat} {d : PyData} (h : Sh n d) (l : n ≤ 64) : SeqAt.shaped d = true := by
  unfold SeqAt.shaped
  rw [h.1, decide_eq_true (Nat.le_trans h.2 l)]
  rfl
theorem eqv_nil {ds : List PyData} : PyData.eqv (.list ds) (.list []) = ds.isEmpty := by
  cases ds <;> simp [PyData.eqv, PyData.eqvAll]
theorem dps_zip {K : PySem.W.Frag} {H : Hp} : ∀ {zs : List (V × PyData)}, (∀ z ∈ zs, Dp K H z.1 z.2) → DpAll K H (zs.map (·.1)) (zs.map (·.2))
  | [], _ => .nil
  | z :: zs, h => .cons (h z List.mem_cons_self) (dps_zip fun y hy => h y (List.mem_cons_of_mem _ hy))
theorem eraseIdx_map {α β : Type} (f : α → β) : ∀ (l : List α) (i : Nat), (l.map f).eraseIdx i = (l.eraseIdx i).map f
  | [], _ => rfl
  | _ :: _, 0 => rfl
  | a :: l, i + 1 => by simp [eraseIdx_map f l i]
theorem perm_erase {α : Type} : ∀ {l : List α} {i : Nat} {a : α}, l[i]? = some a → (a :: l.eraseIdx i).Perm l
  | [], i, a, h => by simp at h
  | b :: l, 0, a, h => by
    simp at h
    subst h
    exact List.Perm.refl _
  | b :: l, i + 1, a, h => by
    have h2 := perm_erase (l := l) (i := i) (a := a) (by simpa using h)
    show (a :: b :: l.eraseIdx i).Perm (b :: l)
    exact (List.Perm.swap b a _).trans (List.Perm.cons b h2)
end Mh
/-! The same rules within a comprehension, where the written part is told by its name. -/
namespace Mh
open PySem L2
section
variable {X : Cx} {K : PySem.W.Frag}
theorem ixK_list (e : X.K = K) : IxR X (rIxL K) := by subst e; exact ix_list
theorem ixK_tup (e : X.K = K) : IxR X (rIxT K) := by subst e; exact ix_tup
theorem ixK_seq (e : X.K = K) : IxR X (rIx K) := by subst e; exact ix_seq
theorem opK_in_seq (e : X.K = K) : OpR X (compareOp .In) (rIn K false) := by subst e; exact op_in_seq
theorem opK_notIn_seq (e : X.K = K) : OpR X (compareOp .NotIn) (rIn K true) := by subst e; exact op_notIn_seq
theorem opK_eqD (e : X.K = K) (hu : X.A.units + 64 < cLine) : OpR X (compareOp .Eq) (rEqD K) := by subst e; exact op_eqD hu
theorem opK_neD (e : X.K = K) (hu : X.A.units + 64 < cLine) : OpR X (compareOp .NotEq) (rNeD K) := by subst e; exact op_neD hu
theorem opK_catA (e : X.K = K) : OpR X (binaryOp .Add) (rCatA K) := by subst e; exact op_catA
def rLenQ (K : PySem.W.Frag) : List V → Hp → VK → Prop := fun xs H Q => ∃ p ys, xs = [.ref p] ∧ (SqL K H p ys ∨ SqT K H p ys) ∧ Q (.int ys.length) H
theorem callK_len_seq (e : X.K = K) : CallR X (.builtin "len") (rLenQ K) := by subst e; exact call_len_seq
theorem crK_sum (e : X.K = K) (hc : X.calm = true) : CallR X (.builtin "sum") (rSum K) := by subst e; exact cr_sum hc
theorem crK_all (e : X.K = K) (hc : X.calm = true) : CallR X (.builtin "all") (rAll K) := by subst e; exact cr_all hc
theorem crK_any (e : X.K = K) (hc : X.calm = true) : CallR X (.builtin "any") (rAny K) := by subst e; exact cr_any hc
def rListQ (K : PySem.W.Frag) : List V → Hp → VK → Prop := fun xs H Q => ∃ p ys, xs = [.ref p] ∧ (SqL K H p ys ∨ SqT K H p ys) ∧ ∀ l, H l = none → Q (.ref l) (upd H l (.lst ys))
theorem callK_list_of (e : X.K = K) : CallR X (.type "list") (rListQ K) := by subst e; exact call_list_of
def rTupleQ (K : PySem.W.Frag) : List V → Hp → VK → Prop := fun xs H Q => ∃ p ys, xs = [.ref p] ∧ ((SqL K H p ys ∧ ∀ l, H l = none → Q (.ref l) (upd H l (.tup ys))) ∨ (SqT K H p ys ∧ Q (.ref p) H))
theorem callK_tuple_of (e : X.K = K) : CallR X (.type "tuple") (rTupleQ K) := by subst e; exact call_tuple_of
theorem slK_list (e : X.K = K) : SlR X (rSlL K) := by subst e; exact sl_list
theorem slK_tup (e : X.K = K) : SlR X (rSlT K) := by subst e; exact sl_tup
end
end Mh
/-! A dict of names compared with one that is empty. -/
namespace Mh
open PySem L2
section
variable {X : Cx}
def rEqD0 : R2 := fun x y H Q => ∃ a b ks, x = .ref a ∧ y = .ref b ∧ H a = some (.dK ks) ∧ H b = some (.dK []) ∧ Q (.bl (ks.length == 0)) H
def rNeD0 : R2 := fun x y H Q => ∃ a b ks, x = .ref a ∧ y = .ref b ∧ Rd H a (.dK ks) ∧ H b = some (.dK []) ∧ Q (.bl (!(ks.length == 0))) H
theorem op_eq_dict0 (hu : X.A.units < cLine) : OpR X (compareOp .Eq) rEqD0 := by
  intro pins s σ H x y v u Q I rx ry h
  obtain ⟨a, b, ks, rfl, rfl, ea, eb, q⟩ := h
  obtain rfl : v = Value.ref a := rx
  obtain rfl : u = Value.ref b := ry
  obtain ⟨_, ya, va, ra, da⟩ := (show ObjOk X.prog X.w H s.heap a (.dK ks) from I.hok a _ ea)
  obtain ⟨_, yb, vb, rb, db⟩ := (show ObjOk X.prog X.w H s.heap b (.dK []) from I.hok b _ eb)
  have hb : vb.length = 0 := by rw [← rb.length]; rfl
  have ha : va.length = ks.length := ra.length.symm
  refine PySem.W.keq_eq (knd := mixKind X.prog X.w) (r := true) ya yb da db hu (fun e => ?_) (fin_bl I q (by rw [ha, hb, Bool.and_true]))
  have k0 : ks = [] := List.length_eq_zero_iff.mp (by omega)
  subst k0
  exact hits_all rb ra (by simp)
theorem op_ne_dict0 (hu : X.A.units < cLine) : OpR X (compareOp .NotEq) rNeD0 := by
  intro pins s σ H x y v u Q I rx ry h
  obtain ⟨a, b, ks, rfl, rfl, ea, eb, q⟩ := h
  obtain rfl : v = Value.ref a := rx
  obtain rfl : u = Value.ref b := ry
  obtain ⟨_, ya, va, ra, da⟩ := (show ObjOk X.prog X.w H s.heap a (.dK ks) from ea.ok I.hok)
  obtain ⟨_, yb, vb, rb, db⟩ := (show ObjOk X.prog X.w H s.heap b (.dK []) from I.hok b _ eb)
  have hb : vb.length = 0 := by rw [← rb.length]; rfl
  have ha : va.length = ks.length := ra.length.symm
  refine PySem.W.keq_ne (knd := mixKind X.prog X.w) (r := true) ya yb da db hu (fun e => ?_) (fin_bl I q (by rw [ha, hb, Bool.and_true]))
  have k0 : ks = [] := List.length_eq_zero_iff.mp (by omega)
  subst k0
  exact hits_all rb ra (by simp)
end
end Mh
/-! Two sorted lists of the same texts are one. -/
namespace Mh
open PySem L2
def leS (a b : Str) : Prop := ¬ b.cps.toList < a.cps.toList
theorem leS_of {a b : Str} (h : PySem.Spec.ltCps b.cps.toList a.cps.toList = false) : leS a b := by
  intro z
  rw [PyProof.Rows.ltCps_eq, decide_eq_false_iff_not] at h
  exact h z
theorem leS_trans {a b c : Str} (h1 : leS a b) (h2 : leS b c) : leS a c := by
  have q : a.cps.toList ≤ c.cps.toList := List.le_trans (show a.cps.toList ≤ b.cps.toList from h1) (show b.cps.toList ≤ c.cps.toList from h2)
  exact q
theorem leS_antisymm {a b : Str} (h1 : leS a b) (h2 : leS b a) : a = b := by
  have q : a.cps.toList = b.cps.toList := List.le_antisymm (show a.cps.toList ≤ b.cps.toList from h1) (show b.cps.toList ≤ a.cps.toList from h2)
  cases a
  cases b
  have q := Array.toList_inj.mp q
  simp at q
  rw [q]
theorem rising_pw : ∀ {p : Str} {l : List Str}, PyProof.Rows.risingS p l = true → (p :: l).Pairwise leS
  | p, [], _ => by simp
  | p, x :: r, h => by
    have h : (!PySem.Spec.ltCps x.cps.toList p.cps.toList && PyProof.Rows.risingS x r) = true := h
    rw [Bool.and_eq_true, Bool.not_eq_true'] at h
    have px := leS_of h.1
    have ih := rising_pw h.2
    refine List.pairwise_cons.mpr ⟨fun y hy => ?_, ih⟩
    rcases List.mem_cons.mp hy with rfl | hy
    · exact px
    · exact leS_trans px ((List.pairwise_cons.mp ih).1 y hy)
theorem sorted_pw {l : List Str} (h : PyProof.Rows.sortedS l = true) : l.Pairwise leS := by
  cases l with
  | nil => exact List.Pairwise.nil
  | cons x r => exact rising_pw h
theorem pw_uniq : ∀ {l m : List Str}, l.Perm m → l.Pairwise leS → m.Pairwise leS → l = m
  | [], m, p, _, _ => (List.nil_perm.mp p).symm
  | a :: l, [], p, _, _ => absurd p.length_eq (by simp)
  | a :: l, b :: m, p, h1, h2 => by
    have e : a = b := by
      rcases List.mem_cons.mp (p.mem_iff.mp (List.mem_cons_self (a := a) (l := l))) with e | e
      · exact e
      · rcases List.mem_cons.mp (p.mem_iff.mpr (List.mem_cons_self (a := b) (l := m))) with q | q
        · exact q.symm
        · exact leS_antisymm ((List.pairwise_cons.mp h1).1 b q) ((List.pairwise_cons.mp h2).1 a e)
    subst e
    rw [pw_uniq (List.Perm.cons_inv p) (List.pairwise_cons.mp h1).2 (List.pairwise_cons.mp h2).2]
theorem sorted_uniq {l m : List Str} (p : l.Perm m) (h1 : PyProof.Rows.sortedS l = true) (h2 : PyProof.Rows.sortedS m = true) : l = m := pw_uniq p (sorted_pw h1) (sorted_pw h2)
/-- the names, sorted -/
instance (a b : Str) : Decidable (leS a b) := inferInstanceAs (Decidable (¬ b.cps.toList < a.cps.toList))
def sortN (l : List Str) : List Str := l.mergeSort fun a b => decide (leS a b)
theorem sortN_perm (l : List Str) : (sortN l).Perm l := List.mergeSort_perm l _
theorem sortN_pw (l : List Str) : (sortN l).Pairwise leS := by
  have h := List.pairwise_mergeSort (le := fun a b => decide (leS a b)) (fun a b c h1 h2 => decide_eq_true (leS_trans (of_decide_eq_true h1) (of_decide_eq_true h2)))
    (fun a b => by
      have t : a.cps.toList ≤ b.cps.toList ∨ b.cps.toList ≤ a.cps.toList := List.le_total _ _
      rcases t with t | t
      · rw [decide_eq_true (show leS a b from t)]
        rfl
      · rw [decide_eq_true (show leS b a from t), Bool.or_true]) l
  exact h.imp fun h => of_decide_eq_true h
theorem sortN_eq {ys l : List Str} (p : ys.Perm l) (h : PyProof.Rows.sortedS ys = true) : ys = sortN l := pw_uniq (p.trans (sortN_perm l).symm) (sorted_pw h) (sortN_pw l)
theorem sortN_len (l : List Str) : (sortN l).length = l.length := (sortN_perm l).length_eq
end Mh
/-! isinstance of data; math.comb. -/
namespace Mh
open PySem L2
theorem ty_tupD {K : PySem.W.Frag} {H : Hp} {a : Addr} {xs : List V} (h : SqT K H a xs) : TyX K H (.ref a) (.type "tuple") := by
  rcases h with h | h
  · rcases h with h | ⟨o, h⟩
    · exact .base (.tup h)
    · exact .fTuple h
  · obtain ⟨o, its, n, h1, h2, _⟩ := h
    exact .kTuple h1 h2
def tyD : PyData → String
  | .none => "NoneType"
  | .bool _ => "bool"
  | .int _ => "int"
  | .str _ => "str"
  | .list _ => "list"
  | .tuple _ => "tuple"
  | .dict _ => "dict"
theorem dp_ty {K : PySem.W.Frag} {H : Hp} {v : V} {d : PyData} (h : Dp K H v d) : TyX K H v (.type (tyD d)) := by
  cases h with
  | non => exact .base .non
  | bl b => exact .base (.bl b)
  | int i => exact .base (.int i)
  | str x => exact .base (.str x)
  | lst h _ => exact ty_lst h
  | tup h _ => exact ty_tupD h
def isTup : PyData → Bool
  | .tuple _ => true
  | _ => false
def isLst : PyData → Bool
  | .list _ => true
  | _ => false
def isStrD : PyData → Bool
  | .str _ => true
  | _ => false
def isBool : PyData → Bool
  | .bool _ => true
  | _ => false
def isIntD : PyData → Bool
  | .int _ => true
  | .bool _ => true
  | _ => false
section
variable {K : PySem.W.Frag}
theorem kit_tup (d : PyData) : PySem.W.kitOne K (.type (tyD d)) (.type "tuple") = some (isTup d) := by
  cases d <;> exact kit_ty (by dsimp only [tyD, isTup, isLst, isStrD, isBool, isIntD]; decide +kernel)
theorem kit_str (d : PyData) : PySem.W.kitOne K (.type (tyD d)) (.type "str") = some (isStrD d) := by
  cases d <;> exact kit_ty (by dsimp only [tyD, isTup, isLst, isStrD, isBool, isIntD]; decide +kernel)
theorem kit_lst (d : PyData) : PySem.W.kitOne K (.type (tyD d)) (.type "list") = some (isLst d) := by
  cases d <;> exact kit_ty (by dsimp only [tyD, isTup, isLst, isStrD, isBool, isIntD]; decide +kernel)
theorem kit_bool (d : PyData) : PySem.W.kitOne K (.type (tyD d)) (.type "bool") = some (isBool d) := by
  cases d <;> exact kit_ty (by dsimp only [tyD, isTup, isLst, isStrD, isBool, isIntD]; decide +kernel)
theorem kit_int (d : PyData) : PySem.W.kitOne K (.type (tyD d)) (.type "int") = some (isIntD d) := by
  cases d <;> exact kit_ty (by dsimp only [tyD, isTup, isLst, isStrD, isBool, isIntD]; decide +kernel)
end
/-- methods of a class of the text -/
structure DfM (K : PySem.W.Frag) (C : Addr) (x q : Str) (st : Stmt) (ps : List Str) (f : Addr) (fd : FuncData) : Prop where
  F : Fun K x q st f fd
  m : Meth K C x f
  b : Binds K fd ps []
/-- in how many ways j are taken of n -/
def binom : Nat → Nat → Nat
  | _, 0 => 1
  | 0, _ + 1 => 0
  | n + 1, k + 1 => binom n k + binom n (k + 1)
theorem comb_step : ∀ n, n < 33 → ∀ k, k < 34 → PySem.W.mcComb ((n + 1 : Nat) : Int) ((k + 1 : Nat) : Int) = PySem.W.mcComb (n : Int) (k : Int) + PySem.W.mcComb (n : Int) ((k + 1 : Nat) : Int) := by decide +kernel
theorem comb_binom : ∀ {n k : Nat}, n ≤ 33 → k ≤ 34 → PySem.W.mcComb (n : Int) (k : Int) = ((binom n k : Nat) : Int)
  | n, 0, _, _ => by
    have e := PySem.W.mcComb_ends (a := (n : Int)) (b := ((0 : Nat) : Int)) (by omega) (by omega) (.inl rfl)
    rw [e]
    cases n <;> rfl
  | 0, k + 1, _, _ => PySem.W.mcComb_above (by omega)
  | n + 1, k + 1, hn, hk => by
    rw [comb_step n (by omega) k (by omega), comb_binom (n := n) (k := k) (by omega) (by omega), comb_binom (n := n) (k := k + 1) (by omega) (by omega)]
    rfl
section
variable {X : Cx}
def rComb : List V → Hp → VK → Prop := fun vs H Q => ∃ a b : Nat, vs = [.int a, .int b] ∧ a ≤ 33 ∧ b ≤ 34 ∧ Q (.int ((binom a b : Nat) : Int)) H
theorem cr_comb : CallR X (.builtin "math.comb") rComb := by
  intro pins s σ H vs us Q I r h
  obtain ⟨a, b, rfl, ha, hb, q⟩ := h
  obtain ⟨t, u, rfl⟩ := Vals.int2 r
  exact PySem.W.mc_comb (by omega) (by omega) (by omega) (.inl (by omega)) fun _ => by
    rw [comb_binom ha hb]
    exact ⟨.int _, H, I.tok _, ⟨_, rfl⟩, q⟩
end
end Mh
/-! {**a, **b} of two dicts. -/
namespace Mh
open PySem L2
section
variable {prog : Program} {w : World} {κ : Type} [DecidableEq κ] {knd : KeyKind prog w κ} {A : Around} {E : Value → Shared → Prop} {s : Shared}
theorem put_at {d : Addr} {kvs : List (κ × Value)} {k : κ} {key v : Value} {Q : Unit → Shared → Prop} (isk : knd.is k key = true) (M : s.heap.DictOf knd d kvs) (few : kvs.length ≤ sizeLine)
    (q : ∀ h', h'.DictOf knd d (stored kvs k v) → Heap.SameBut d s.heap h' → Q () { s with heap := h' }) : wpAny (model prog w) A (dictPut d (knd.hash k) key v) Q E s := by
  obtain ⟨o, es, ep, e1, e2, e3, e4, e5, e6⟩ := M
  have les : es.size ≤ sizeLine := by
    have z := e5.length
    rw [Array.length_toList] at z
    omega
  have at_ : (es.findIdx? fun e => knd.is k e.key) = kvs.findIdx? fun kv => decide (kv.1 = k) := by
    have z := e5.findIdx k
    cases es
    simpa using z
  unfold dictPut
  refine wpAny_bind (wpAny_dictFind_of isk e1 e3 e4 ?_)
  cases hi : es.findIdx? fun e => knd.is k e.key with
  | some i =>
    have there := any_of_findIdx_some (at_.symm.trans hi)
    have li : (es.toList.findIdx? fun e => knd.is k e.key) = some i := by
      cases es
      simpa using hi
    have pm := e5.modify e6 li v
    refine wpAny_updateDict e1 e3 (q _ ⟨_, _, ep, Heap.get?_update_self _ e1 (Obj.isFreed_of_dict (Obj.data_mapDict e3 _)), e2.mapDict _, Obj.data_mapDict e3 _, e4.modify _ _, ?_, ?_⟩ (Heap.SameBut.update ..))
    · unfold stored
      rw [if_pos there]
      cases es
      simpa using pm
    · unfold stored
      rw [if_pos there, keys_map_store]
      exact e6
  | none =>
    have no : k ∉ kvs.map (·.1) := not_mem_of_findIdx_none (at_.symm.trans hi)
    have none_ : ¬ (kvs.any fun kv => decide (kv.1 = k)) = true := fun z => by
      obtain ⟨x, hx, hk⟩ := List.any_eq_true.mp z
      exact no (List.mem_map.mpr ⟨x, hx, of_decide_eq_true hk⟩)
    have pa := e5.append isk (knd.hash k) v
    refine wpAny_updateDictKeys (hz := les) e1 e3 (q _ ⟨_, _, ep + 1, Heap.get?_update_self _ e1 (Obj.isFreed_of_dict (Obj.data_mapDictKeys e3 _)), e2.mapDictKeys _, Obj.data_mapDictKeys e3 _, e4.push isk _, ?_, ?_⟩ (Heap.SameBut.update ..))
    · unfold stored
      rw [if_neg none_]
      cases es
      simpa using pa
    · unfold stored
      rw [if_neg none_, List.map_append, List.nodup_append]
      refine ⟨e6, by simp, fun a ha b hb z => ?_⟩
      have zb : b = k := by simpa using hb
      exact no (by rw [← zb, ← z]; exact ha)
theorem mergeMap_at {d o : Addr} {kvs more : List (κ × Value)} {Q : Unit → Shared → Prop} (noRef : ∀ k v, knd.is k v = true → ∀ a, v ≠ .ref a) (hdo : d ≠ o) (hoS : (o == sysModules) = false)
    (hd : s.heap.DictOf knd d kvs) (ho : s.heap.DictOf knd o more) (few : kvs.length + more.length ≤ sizeLine)
    (q : ∀ h', h'.DictOf knd d (merged kvs more) → Heap.SameBut d s.heap h' → Q () { s with heap := h' }) :
    wpAny (model prog w) A (mergeMapping d (.ref o) false) Q E s := by
  obtain ⟨od, esd, epd, d1, d2, d3, d4, d5, d6⟩ := id hd
  obtain ⟨oo, eso, epo, o1, o2, o3, o4, o5, o6⟩ := id ho
  have len : more.length = eso.size := by
    have z := o5.length
    rw [Array.length_toList] at z
    exact z.symm
  have loop : wpAny (model prog w) A (do
      let size := (← dictEntries o).size
      let epoch ← dictEpoch o
      for i in List.range size do
        let some e := (← dictEntries o)[i]? | unsupported "dict.changed-during-merge"
        holding [e.key, e.val] do
          if false then
            if (← dictFind d e.key e.hash).isSome then rule "dict.merge.duplicate-key"; raiseNew (← newExc (.type "KeyError") [e.key])
          dictPut d e.hash e.key e.val
        if (← dictEpoch o) != epoch then unsupported "dict.changed-during-merge") Q E s := by
    refine wpAny_bind (wpAny_dictEntries o1 o3 ?_)
    refine wpAny_bind (wpAny_dictEpoch o1 o3 ?_)
    refine wpAny_bind (wpAny_forIn_list _ (fun rest _ s' => ∃ h' i, s' = { s with heap := h' } ∧ rest = (List.range eso.size).drop i ∧ i ≤ eso.size ∧ h'.DictOf knd d (merged kvs (more.take i)) ∧ h'.get? o = some oo ∧ Heap.SameBut d s.heap h')
      _ ?_ ?_ _ _ ⟨s.heap, 0, rfl, rfl, Nat.zero_le _, by simpa [merged] using hd, o1, Heap.SameBut.refl _ _⟩)
    · rintro x rest b s' ⟨h', i, rfl, hr, hi, hd', ho', hs'⟩
      have hlt : i < eso.size := by
        rcases Nat.lt_or_ge i eso.size with h | h
        · exact h
        · rw [List.drop_eq_nil_of_le (by simpa using h)] at hr
          cases hr
      rw [List.drop_eq_getElem_cons (by simpa using hlt), List.getElem_range] at hr
      obtain ⟨rfl, rfl⟩ := List.cons.inj hr
      refine wpAny_bind (wpAny_dictEntries ho' o3 ?_)
      rw [Array.getElem?_eq_getElem hlt]
      obtain ⟨⟨k, v⟩, hkv⟩ : ∃ kv, more[x]? = some kv := ⟨more[x]'(by omega), List.getElem?_eq_getElem _⟩
      obtain ⟨hkey, hval⟩ := o5.get? (e := eso[x]) (by simp [hlt]) hkv
      obtain ⟨k', hkey', hhash⟩ := o4 eso[x] (Array.getElem_mem hlt)
      have ek : k' = k := knd.inj _ _ _ hkey' hkey
      subst ek
      show wpAny _ _ (holding [eso[x].key, eso[x].val] _ >>= _) _ _ _
      rw [hhash, hval]
      have l1 := merged_length_le kvs (more.take x)
      have l2 : (more.take x).length ≤ more.length := by
        rw [List.length_take]
        omega
      refine wpAny_bind (wpAny_holding ?_)
      refine put_at hkey hd' (by omega) fun h'' hd'' hs'' => ?_
      have ho'' : h''.get? o = some oo := (hs''.2 o hdo.symm).trans ho'
      refine wpAny_bind (wpAny_dictEpoch ho'' o3 ?_)
      rw [if_neg (by simp)]
      exact wpAny_pure ⟨h'', x + 1, rfl, rfl, hlt, by rw [merged_take_succ kvs more x (k', v) hkv]; exact hd'', ho'', hs'.trans hs''⟩
    · rintro b s' ⟨h', i, rfl, hr, hi, hd', ho', hs'⟩
      have hin : i = eso.size := by
        rcases Nat.lt_or_ge i eso.size with h | h
        · rw [List.drop_eq_getElem_cons (by simpa using h)] at hr
          cases hr
        · omega
      refine wpAny_pure (q h' ?_ hs')
      rw [hin, ← len, List.take_length] at hd'
      exact hd'
  have first : ∀ {R : Unit → Shared → Prop} {m : Sem Unit}, wpAny (model prog w) A m R E s → wpAny (model prog w) A (do
      let es ← dictEntries o
      for e in es do
        if let .ref _ := e.key then
          if (← specialOf e.key "__eq__") != some (.builtin "object.__eq__") then
            if (es.filter (·.hash == e.hash)).size > 1 then unsupported "dict.merge-into-an-empty-dict:keys-of-equal-hash"
      m) R E s := fun {R m} r => by
    refine wpAny_bind (wpAny_dictEntries o1 o3 ?_)
    rw [← Array.forIn_toList]
    refine wpAny_bind (wpAny_forIn_list _ (fun rest _ s' => s' = s ∧ ∀ e ∈ rest, e ∈ eso.toList) _ ?_ ?_ _ _ ⟨rfl, fun _ h => h⟩)
    · rintro e rest b s' ⟨rfl, h⟩
      obtain ⟨k, hk, _⟩ := o4 e (Array.mem_toList_iff.mp (h e List.mem_cons_self))
      have nr := noRef k e.key hk
      have tail : ∀ z ∈ rest, z ∈ eso.toList := fun z hz => h z (List.mem_cons_of_mem _ hz)
      cases hq : e.key with
      | ref a => exact absurd hq (nr a)
      | _ => exact wpAny_pure ⟨rfl, tail⟩
    · rintro b s' ⟨rfl, _⟩
      exact r
  unfold mergeMapping
  refine wpAny_bind (wpAny_isInstance ho.typeIs isSubtype_dict_dict ?_)
  simp only [if_true]
  refine wpAny_bind (wpAny_specialOf ho.typeIs F.slot_dict_iter.lookup ?_)
  simp only [beq_self_eq_true]
  refine wpAny_bind (wpAny_pure ?_)
  simp only [hoS, Bool.false_eq_true, if_false]
  refine wpAny_bind (wpAny_dictEntries d1 d3 ?_)
  cases esd.isEmpty with
  | true =>
    simp only [if_true]
    exact first loop
  | false =>
    simp only [Bool.false_eq_true, if_false]
    exact loop
theorem calm_all {v : Value} {m : Sem Unit} {d : Addr} {Q : Unit → Shared → Prop} {k1 k3 : Value → Sem Unit} {k2 : Value → Sem Unit} (h : wpAny (model prog w) A m Q (fun _ _ => False) s) :
    wpAny (model prog w) A ((tryCatch (m.onRaise k1) k2).onRaise k3) Q E s :=
  wpAny_onRaise (wpAny_tryCatch (wpAny_onRaise (wpAny_mono h (fun _ _ q => q) fun _ _ z => z.elim)))
theorem disp_two {v1 v2 : Sem Value} {Q : Value → Shared → Prop}
    (h : wpAny (model prog w) A v1 (fun m s1 => wpAny (model prog w) A (mergeMapping s.heap.objs.size m false) (fun _ s2 => wpAny (model prog w) A v2 (fun n s3 =>
      wpAny (model prog w) A (mergeMapping s.heap.objs.size n false) (fun _ s4 => Q (.ref s.heap.objs.size) s4) (fun _ _ => False) s3) E s2) (fun _ _ => False) s1) E { s with heap := s.heap.push { cls := .type "dict", data := .dict #[] } }) :
    wpAny (model prog w) A (dictDisplay [(none, v1), (none, v2)]) Q E s := by
  unfold dictDisplay
  simp only [List.forIn_cons, List.forIn_nil]
  refine wpAny_bind (wpAny_bind (wpAny_bind ?_))
  rw [if_pos (by rfl)]
  refine wpAny_pure ?_
  refine wpAny_bind (wpAny_alloc ?_)
  refine wpAny_bind (wpAny_holding (wpAny_mono h (fun m s1 h1 => ?_) fun _ _ z => z))
  refine wpAny_bind (calm_all (v := .none) (d := 0) (wpAny_holding (wpAny_mono h1 (fun _ s2 h2 => ?_) fun _ _ z => z)))
  refine wpAny_pure ?_
  refine wpAny_bind (wpAny_bind ?_)
  rw [if_pos (by rfl)]
  refine wpAny_pure ?_
  refine wpAny_bind (wpAny_pure ?_)
  refine wpAny_bind (wpAny_holding (wpAny_mono h2 (fun n s3 h3 => ?_) fun _ _ z => z))
  refine wpAny_bind (calm_all (v := .none) (d := 0) (wpAny_holding (wpAny_mono h3 (fun _ s4 h4 => ?_) fun _ _ z => z)))
  refine wpAny_pure (wpAny_pure ?_)
  refine wpAny_bind ?_
  rw [if_pos (by rfl)]
  exact wpAny_pure (wpAny_pure h4)
end
section
variable {X : Cx} {a b : Expr} {ta tb : TE} {pos : Pos}
/-- {**a, **b}: the pairs of the first, then of the second -/
def tMerge (ta tb : TE) : TE := fun σ H Q => ∀ p, H p = none → ta σ (upd H p (.dK [])) fun x H1 => ∃ d ks, x = .ref d ∧ d ≠ p ∧ Rd H1 d (.dK ks) ∧ H1 p = some (.dK []) ∧ ks.length ≤ 1000 ∧ tb σ (upd H1 p (.dK (mergeK [] ks))) fun y H2 => ∃ e ls, y = .ref e ∧ e ≠ p ∧ Rd H2 e (.dK ls) ∧
  H2 p = some (.dK (mergeK [] ks)) ∧ ks.length + ls.length ≤ 1000 ∧ Q (.ref p) (upd H2 p (.dK (mergeK (mergeK [] ks) ls)))
theorem no_refs {P : Program} {w : World} : ∀ (k : Key) (v : Value), (mixKind P w).is k v = true → ∀ a, v ≠ .ref a := fun k v h a e => by
  rcases keyIs_shape (show keyIs k v = true from h) with ⟨_, _, _, z⟩ | ⟨_, _, _, z⟩ <;> (rw [e] at z; cases z)
theorem merge_step {pins : List (Addr × Obj)} {σ : St} {H : Hp} {s : Shared} {p d : Addr} {ks ls : List (Key × V)} {Q : Unit → Shared → Prop} (I : Inv X pins σ H s) (ne : d ≠ p) (hp : H p = some (.dK ks)) (hd : Rd H d (.dK ls)) (few : ks.length + ls.length ≤ 2000)
    (q : ∀ s', Inv X pins σ (upd H p (.dK (mergeK ks ls))) s' → Q () s') : wpAny (model X.prog X.w) X.A (mergeMapping p (.ref d) false) Q (fun _ _ => False) s := by
  have sL := sizeLine_eq
  obtain ⟨_, hs1, vs, r1, m1⟩ := dk_of I.hok hp
  obtain ⟨_, hs2, us, r2, m2⟩ := dk_rd I.hok hd
  refine mergeMap_at no_refs ne.symm hs2 m1 m2 (by rw [← r1.length, ← r2.length]; omega) fun h' dd hs => q _ ?_
  have he : ∃ q, h'.get? p = some q := let ⟨q, _, _, hq, _⟩ := dd; ⟨q, hq⟩
  have hz := length_mergeK ls ks
  exact d_write I (by rw [hp]; exact True.intro) hs he (dk_new (by omega) hs1 (r2.merge r1) dd)
theorem pe_merge2 (ha : PE X a ta) (hb : PE X b tb) : PE X (.Dict [none, none] [a, b] pos) (tMerge ta tb) := by
  refine ⟨fun pins s σ H Q I h => ?_⟩
  rw [arm_eval_Dict]
  refine wpAny_bind (wpAny_standAt ?_)
  have hn := I.hok.fresh (Nat.le_refl s.heap.objs.size)
  have I1 := I.laid (a := s.heap.objs.size) (o := .dK []) (h' := s.heap.push { cls := .type "dict", data := .dict #[] }) (t' := s.toks) (fun _ _ q => Heap.get?_push_of_some _ q) (Nat.le_refl _) (dk_empty s.heap I.big)
  refine disp_two ?_
  refine wpAny_bind (thn (ha.run pins _ σ _ _ I1 (h _ hn)) fun u s1 ⟨x, H1, I2, rx, d, ks, ex, ne, hd, hp, few, k1⟩ => ?_)
  subst ex
  obtain rfl : u = Value.ref d := rx
  refine wpAny_bind (wpAny_standAt (wpAny_pure ?_))
  have l1 : (mergeK [] ks).length ≤ 0 + ks.length := length_mergeK ks []
  refine merge_step I2 ne hp hd (by simp; omega) fun s2 I3 => ?_
  refine wpAny_bind (thn (hb.run pins _ σ _ _ I3 k1) fun v s3 ⟨y, H2, I4, ry, e, ls, ey, ne2, he, hp2, few2, k2⟩ => ?_)
  subst ey
  obtain rfl : v = Value.ref e := ry
  refine wpAny_bind (wpAny_standAt (wpAny_pure ?_))
  refine merge_step I4 ne2 hp2 he (by omega) fun s4 I5 => ?_
  exact ⟨.ref s.heap.objs.size, _, I5, rfl, k2⟩
end
end Mh
/-! sorted of rows (number, text, ..) of which no two have the same number and text. -/
namespace Mh
open PySem L2 PyProof.Rows
def ltS (x y : Str) : Bool := decide (x.cps.toList < y.cps.toList)
/-- by the number, then by the text -/
def ltR (p q : Int × Str) : Bool := if p.1 = q.1 then ltS p.2 q.2 else decide (p.1 < q.1)
theorem ltS_irr (x : Str) : ltS x x = false := decide_eq_false (List.lt_irrefl _)
theorem ltS_asym {x y : Str} (h : ltS x y = true) : ltS y x = false := by
  have h := of_decide_eq_true h
  exact decide_eq_false fun z => (List.lt_irrefl x.cps.toList) (List.lt_trans h z)
theorem ltS_no {x y : Str} : ltS x y = false ↔ leS y x := by
  unfold ltS
  rw [decide_eq_false_iff_not]
  exact Iff.rfl
theorem ltR_swo {α : Type} (k : α → Int × Str) : SrtO.Swo fun v u => ltR (k v) (k u) := by
  refine ⟨fun x y h => ?_, fun x y z h1 h2 => ?_⟩
  · unfold ltR at h ⊢
    split at h
    · rename_i e
      rw [if_pos e.symm]
      exact ltS_asym h
    · rename_i e
      rw [if_neg fun z => e z.symm]
      have h := of_decide_eq_true h
      exact decide_eq_false (by omega)
  · unfold ltR at h1 h2 ⊢
    split at h1
    · rename_i e1
      split at h2
      · rename_i e2
        rw [if_pos (e2.trans e1)]
        rw [ltS_no] at h1 h2 ⊢
        exact leS_trans h1 h2
      · rename_i e2
        rw [if_neg fun z => e2 (z.trans e1.symm)]
        have h2 := of_decide_eq_false h2
        exact decide_eq_false (by omega)
    · rename_i e1
      have h1 := of_decide_eq_false h1
      split at h2
      · rename_i e2
        rw [if_neg fun z => e1 (e2.symm.trans z)]
        exact decide_eq_false (by omega)
      · rename_i e2
        have h2 := of_decide_eq_false h2
        rw [if_neg (by omega)]
        exact decide_eq_false (by omega)
/-- a row at an address -/
def IsRow (h : Heap) (v : Value) (k : Int × Str) : Prop := ∃ a o t u rest n, v = .ref a ∧ h.get? a = some o ∧ o.cls = .type "tuple" ∧ o.data = .seq (Value.int k.1 t :: Value.str k.2 u :: rest).toArray n
theorem IsRow.keeps {h h' : Heap} {v : Value} {k : Int × Str} (p : IsRow h v k) (q : ∀ b o, h.get? b = some o → o.cls = .type "tuple" → h'.get? b = some o) : IsRow h' v k := by
  obtain ⟨a, o, t, u, rest, n, e, ho, hc, hd⟩ := p
  exact ⟨a, o, t, u, rest, n, e, q a o ho hc, hc, hd⟩
section
variable {prog : Program} {w : World} {A : Around} {E : Value → Shared → Prop} {s : Shared}
theorem lex_same {b fin : Bool} {Q : Bool → Shared → Prop} (q : Q fin s) : ∀ (l : List Value) (i : Nat), PySem.W.KatLex prog w A b fin Q (l.zip l) i s
  | [], _ => PySem.W.kat_nil q
  | x :: l, i => by
    show PySem.W.KatLex prog w A b fin Q ((x, x) :: l.zip l) i s
    refine PySem.W.kat_cons (SeqAt.EqAt.same x prog w _ _ ?_)
    exact PySem.W.kat_yes (lex_same q l (i + 1))
theorem row_cmp {vs : List Value} {k : Value → Int × Str} (hp : ∀ v ∈ vs, IsRow s.heap v (k v)) (one : ∀ v ∈ vs, ∀ u ∈ vs, k v = k u → v = u) :
    SrtO.Cmp prog w A s (tuples' true) (fun p => p.1 ∈ vs) (SrtO.lt2 fun v u => ltR (k v) (k u)) := by
  intro p q hm hm'
  show wpAny (model prog w) A (keyLt' (tuples' true) p.1 q.1) (fun r s' => s' = s ∧ r = ltR (k p.1) (k q.1)) (fun _ _ => False) s
  by_cases e : p.1 = q.1
  · rw [← e]
    obtain ⟨a, o, t, u, rest, n, e1, ho, hc, hd⟩ := hp _ hm
    have er : ltR (k p.1) (k p.1) = false := (ltR_swo k).refl p.1
    rw [er, e1]
    refine PySem.W.kat_lt ho hd ho hd (lex_same ⟨rfl, ?_⟩ _ _)
    simp
  · have ne : ¬ k p.1 = k q.1 := fun z => e (one _ hm _ hm' z)
    obtain ⟨a, o, t, u, rest, n, e1, ho, hc, hd⟩ := hp _ hm
    obtain ⟨a', o', t', u', rest', n', e2, ho', hc', hd'⟩ := hp _ hm'
    generalize k p.1 = x at ne hd ⊢
    generalize k q.1 = y at ne hd' ⊢
    rw [e1, e2]
    refine PySem.W.kat_lt ho hd ho' hd' ?_
    show PySem.W.KatLex prog w A true _ _ ((Value.int x.1 t, Value.int y.1 t') :: (Value.str x.2 u, Value.str y.2 u') :: rest.zip rest') 0 s
    refine PySem.W.kat_cons (SeqAt.EqAt.int_int x.1 t y.1 t' prog w _ _ ?_)
    refine PySem.W.kat_go (fun q1 => ?_) (fun q1 => ?_)
    · have q1 : x.1 = y.1 := by simpa using q1
      refine PySem.W.kat_yes (PySem.W.kat_cons (SeqAt.EqAt.str_str x.2 u y.2 u' prog w _ _ ?_))
      refine PySem.W.kat_go (fun q2 => ?_) (fun q2 => ?_)
      · have q2 : x.2 = y.2 := by simpa using q2
        exact absurd (Prod.ext q1 q2) ne
      · refine PySem.W.kat_no (oneLt_any_str ⟨rfl, ?_⟩)
        unfold ltR
        rw [if_pos q1]
        rfl
    · have q1 : ¬ x.1 = y.1 := by simpa using q1
      refine PySem.W.kat_no (oneLt_any_int ⟨rfl, ?_⟩)
      unfold ltR
      rw [if_neg q1]
theorem row_firsts {h : Heap} {k : Value → Int × Str} : ∀ {vs : List Value}, (∀ v ∈ vs, IsRow h v (k v)) → ∃ fs, PySem.W.KatTups h vs fs ∧ fs.length = vs.length ∧ ∀ f ∈ fs, ∃ x t, f = Value.int x t
  | [], _ => ⟨[], PySem.W.KatTups.nil, rfl, fun f hf => by cases hf⟩
  | v :: vs, hp => by
    obtain ⟨fs, h1, h2, h3⟩ := row_firsts (vs := vs) fun u hu => hp u (List.mem_cons_of_mem _ hu)
    obtain ⟨a, o, t, u, rest, n, e, ho, hc, hd⟩ := hp v List.mem_cons_self
    subst e
    refine ⟨Value.int (k (.ref a)).1 t :: fs, PySem.W.KatTups.cons ho hc hd (by simp) h1, by rw [List.length_cons, List.length_cons, h2], fun f hf => ?_⟩
    rcases List.mem_cons.mp hf with z | z
    · exact ⟨_, _, z⟩
    · exact h3 f z
theorem sorted_rows {l : Addr} {vs : List Value} {k : Value → Int × Str} {Q : Value → Shared → Prop} (hl : s.heap.IsList l vs.toArray) (hz : vs.length ≤ sizeLine) (hp : ∀ v ∈ vs, IsRow s.heap v (k v)) (one : ∀ v ∈ vs, ∀ u ∈ vs, k v = k u → v = u)
    (h : ∀ (h' : Heap) (d : Addr) (out : List Value), SrtO.Srtd (fun v u => ltR (k v) (k u)) out → out.Perm vs → (∀ b o, s.heap.get? b = some o → h'.get? b = some o) → s.heap.objs.size ≤ d → (∃ n, h'.get? d = some (seqObj "list" out.toArray n)) → Q (.ref d) { s with heap := h' }) :
    wpAny (model prog w) A (call (.builtin "sorted") [.ref l]) Q E s := by
  refine SrtO.sorted_ord (ltR_swo k) hl hz (fun h2 h₁ a ha kk h' keep => ?_) fun out hs hb => ?_
  · have hp' : ∀ v ∈ vs, IsRow h' v (k v) := fun v hm => (hp v hm).keeps fun b o e c => keep b o (fun z => by
      have e2 := ha
      rw [← z, (kk b o e).2] at e2
      cases e2
      exact absurd (Value.type.inj c) (by decide)) ((kk b o e).2)
    obtain ⟨fs, f1, f2, f3⟩ := row_firsts hp'
    refine ⟨tuples' true, fun Q' E' hq => ?_, row_cmp (s := { s with heap := h' }) hp' one⟩
    refine PySem.W.kat_kind (s := { s with heap := h' }) (T := .type "int") f1 (by omega) (fun f hf => ?_) (by rfl) ?_
    · obtain ⟨x, t, rfl⟩ := f3 f hf
      exact PySem.W.Looks.now
    · have e : (Value.type "int" != Value.type "tuple") = true := by decide
      rw [e]
      exact hq
  · exact h _ _ out hs hb.perm (fun b o e => sortedAll_old e) (Nat.le_succ _) (sortedAll_at s.heap vs out.toArray)
end
section
variable {X : Cx}
/-- sorted of such rows: k says what stands first in each -/
def rSortedRow (K : PySem.W.Frag) : List V → Hp → VK → Prop := fun vs H Q => ∃ (a : Addr) (xs : List V) (k : V → Int × Str), vs = [V.ref a] ∧ SqL K H a xs ∧ (∀ x ∈ xs, ∃ t r, x = V.ref t ∧ SqT K H t (.int (k x).1 :: .str (k x).2 :: r)) ∧ (∀ x ∈ xs, ∀ y ∈ xs, k x = k y → x = y) ∧
  ∀ ys p, ys.Pairwise (fun x y => ltR (k y) (k x) = false) → ys.Perm xs → H p = none → Q (.ref p) (upd H p (.lst ys))
theorem cr_sortedRow : CallR X (.builtin "sorted") (rSortedRow X.K) := by
  intro pins s σ H vs us Q I r h
  obtain ⟨a, xs, k, rfl, hs, hx, one, q⟩ := h
  obtain ⟨its, rv, hl, hz⟩ := I.list hs
  obtain ⟨u, rfl, ru⟩ := vals1 r
  obtain rfl : u = Value.ref a := ru
  obtain ⟨e1, e2⟩ := refs_back rv fun x m => by
    obtain ⟨t, _, e, _⟩ := hx x m
    exact ⟨t, e⟩
  refine sorted_rows (k := fun u => k (backV u)) hl.isList (by rw [← rv.length]; exact hz) (fun v hv => ?_) (fun v hv u hu e => ?_) fun h' d out h1 h2 kp hd hn => ?_
  · obtain ⟨t, rfl⟩ := e2 v hv
    have hm : V.ref t ∈ xs := by rw [e1]; exact List.mem_map.mpr ⟨_, hv, rfl⟩
    obtain ⟨t', r', e, ht⟩ := hx _ hm
    cases e
    obtain ⟨its2, r2, ⟨o, ho, hc, n, hd⟩, _⟩ := I.tuple ht
    cases r2 with
    | cons q1 r2 =>
      cases r2 with
      | cons q2 r2 =>
        obtain ⟨t1, rfl⟩ := q1
        obtain ⟨t2, rfl⟩ := q2
        exact ⟨t, o, t1, t2, _, n, rfl, ho, hc, hd⟩
  · obtain ⟨t, rfl⟩ := e2 v hv
    obtain ⟨t', rfl⟩ := e2 u hu
    have hm : V.ref t ∈ xs := by rw [e1]; exact List.mem_map.mpr ⟨_, hv, rfl⟩
    have hm' : V.ref t' ∈ xs := by rw [e1]; exact List.mem_map.mpr ⟨_, hu, rfl⟩
    have z := one _ hm _ hm' e
    injection z with z
    rw [z]
  · have h3 : ∀ u ∈ out, ∃ a, u = Value.ref a := fun u hu => e2 u (h2.mem_iff.mp hu)
    obtain ⟨n, hn⟩ := hn
    have hb : (out.map backV).Perm xs := by
      rw [e1]
      exact h2.map backV
    refine ⟨.ref d, upd H d (.lst (out.map backV)), I.laid (t' := s.toks) kp hd ⟨?_, out, n, vals_back h3, hn⟩, rfl, q _ d (List.pairwise_map.mpr h1) hb (I.hok.fresh hd)⟩
    rw [hb.length_eq]
    exact hz
end
end Mh
/-! Dict comprehensions over any walk; as a statement. -/
namespace Mh
open PySem L2
section
variable {J : It} {n : Nat} {G : Hp → Prop} {Y : Nat → Hp → V → Hp → Prop}
/-- a dict comprehension over a walk: Pv by the turn and the heap -/
theorem dc_it (w : Walk J n G Y) {g : TG} {tt : TT} {tk tv : TE} {vs : List Nat} {σ : St} {H1 : Hp} {D : Addr} {Qd : Hp → Prop} (Pv : Nat → Hp → Prop)
    (h0 : Pv 0 (upd H1 D (.dK []))) (hG : ∀ i H, i ≤ n → Pv i H → G H)
    (hs : ∀ i x H H', i < n → Pv i H → Y i H x H' → g x (wipe σ vs) H' fun σ2 H2 => wipe σ2 vs = wipe σ vs ∧ tt σ2 H2 fun b H3 => if b = true then tk σ2 H3 fun y H4 => tv σ2 H4 fun z H5 =>
      ∃ kvs k, y = kV k ∧ H5 D = some (.dK kvs) ∧ kvs.length < sizeLine ∧ Pv (i + 1) (upd H5 D (.dK (putK kvs k z))) else Pv (i + 1) H3)
    (hd : ∀ H, Pv n H → Qd H) :
    ∃ W : Nat → Nat → Hp → Prop, (∃ m, W 0 m (upd H1 D (.dK []))) ∧ ∀ i m H, W i m H → (J.stop i H ∧ Qd H) ∨ (J.go i H ∧ ∃ Nx : Hp → Prop, (∀ H', Nx H' → ∃ m', m' < m ∧ W (i + 1) m' H') ∧
      ∀ x H', J.yld i H x H' → g x (wipe σ vs) H' fun σ2 H2 => wipe σ2 vs = wipe σ vs ∧ tt σ2 H2 fun b H3 => if b = true then tk σ2 H3 fun y H4 => tv σ2 H4 fun z H5 =>
        ∃ kvs k, y = kV k ∧ H5 D = some (.dK kvs) ∧ kvs.length < sizeLine ∧ Nx (upd H5 D (.dK (putK kvs k z))) else Nx H3) := by
  refine ⟨fun i m H => m = n - i ∧ i ≤ n ∧ Pv i H, ⟨n, rfl, Nat.zero_le _, h0⟩, fun i m H ⟨em, hi, p⟩ => ?_⟩
  subst em
  rcases Nat.lt_or_ge i n with c | c
  · exact .inr ⟨w.goes i H c (hG i H hi p), Pv (i + 1), fun H' p' => ⟨n - (i + 1), by omega, rfl, c, p'⟩, fun x H' y => hs i x H H' c p (w.yields i H x H' c (hG i H hi p) y)⟩
  · have e : i = n := by omega
    subst e
    exact .inl ⟨w.stops H (hG i H hi p), hd H p⟩
end
section
variable {X : Cx}
theorem swD_true {kx vx : Expr} {gs : List Comprehension} {scope : Scope} {pos py : Pos} {y : Str} {l : Nat} {env : Env} (hk : env.scope.kind = .function) (hy : env.scope.names.lookup y = some .local) (hl : (py.line == pos.line) = true)
    (ha : (scope.names.any fun (n, k) => n == y && (k == .local || k == .cell)) = false) : swapsWith (.DictComp kx vx gs scope pos) (some (.Name y py)) l env = pure true := by
  have k1 : env.kindOf y = some .local := hy
  have k2 : env.blockKind = .function := by
    unfold Env.blockKind
    rw [hk]
    rfl
  unfold swapsWith
  simp only [k2, k1, ha, Expr.pos, hl]
  rfl
/-- y = {k: v for ..} of one row -/
theorem ps_setDc {i : Nat} {y : Str} {py : Pos} {kx vx tg iter : Expr} {ifs : List Expr} {scope : Scope} {own : List (Str × Nat)} {pos spos : Pos} {wi : TI} {g : TG} {tt : TT} {tk tv : TE} (hc : X.calm = true) (hN : X.N.Nodup) (hy : X.N[i]? = some y) (hyl : X.env.scope.names.lookup y = some .local)
    (hsw : swapsWith (.DictComp kx vx [⟨tg, iter, ifs, 0⟩] scope pos) (some (.Name y py)) spos.line X.env = pure true) (hi : PI X tg iter wi) (ok : BlkOk X.N X.env.scope scope own)
    (hg : ∀ (s : Shared) (H : Hp) (C : Addr) (cl : List (Str × Addr)) (fp : List Addr), PG (X.blk s H scope (compEnvC scope cl C X.env) fp) tg g)
    (ht : ∀ (s : Shared) (H : Hp) (C : Addr) (cl : List (Str × Addr)) (fp : List Addr), PTs (X.blk s H scope (compEnvC scope cl C X.env) fp) ifs tt)
    (hk : ∀ (s : Shared) (H : Hp) (C : Addr) (cl : List (Str × Addr)) (fp : List Addr), PE (X.blk s H scope (compEnvC scope cl C X.env) fp) kx tk)
    (he : ∀ (s : Shared) (H : Hp) (C : Addr) (cl : List (Str × Addr)) (fp : List Addr), PE (X.blk s H scope (compEnvC scope cl C X.env) fp) vx tv) (hs : ∀ x, foldedSetIterable iter X.env x = pure x := by intro _; rfl) :
    PS X (.Assign [.Name y py] (.DictComp kx vx [⟨tg, iter, ifs, 0⟩] scope pos) spos) (tAsg (tDc wi g tt tk tv (own.map (·.2))) (gName i)) := by
  refine ⟨fun pins s σ H D I h => ?_⟩
  rw [exec_Assign_Name_used _ _ _ _ hsw]
  refine wpAny_bind (wpAny_standAt (wpAny_bind ?_))
  have h : tDc wi g tt tk tv (own.map (·.2)) σ H (fun x H1 => gName i x σ H1 D.nx) := h
  refine wpAny_bind (thn (dc_core (use := some (assign (.Name y py) X.env)) (pos' := firstIterPos [⟨tg, iter, ifs, 0⟩] pos) (Qf := fun _ s' => SP X pins D .next s') hc hN I hi ok hg ht hk he hs h fun L C s' m H' I' q hn f => ?_) fun _ s' hq => wpAny_pure (wpAny_pure hq))
  obtain ⟨f0, f1, f2, f3, f4, f5⟩ := f
  show wpAny _ _ (assign (.Name y py) X.env (.ref L)) _ _ _
  refine wpAny_assign_Name (store_ok2 (v := V.ref L) I' hN hy (.inl hyl) rfl (fun s2 I2 ⟨a, sb, ha⟩ => ?_) (.inr hyl))
  have ne : C ≠ a := fun e => by
    rcases ha with z | z
    · exact f1 (e.trans z)
    · exact f4 y a z e.symm
  exact ⟨m, hn.sameBut sb ne, fun h3 sb3 => ⟨_, H', I2.turned (t' := s2.toks) (fun b o hb e => (sb3.2 b hb).trans e) f0 f1 f3 f4 f5, q⟩⟩
end
end Mh
namespace Mh
open PySem L2
section
variable {J : It} {n : Nat} {G : Hp → Prop} {Y : Nat → Hp → V → Hp → Prop}
/-- the same, the names of the block told as they stand when they are wiped -/
theorem lc_w (w : Walk J n G Y) {g : TG} {tt : TT} {te : TE} {vs : List Nat} {σ : St} {H1 : Hp} {D : Addr} {Qd : Hp → Prop} (τ : St) (Pv : Nat → Hp → Prop) (h0 : Pv 0 (upd H1 D (.lst []))) (hG : ∀ i H, i ≤ n → Pv i H → G H)
    (hs : ∀ i x H H', i < n → Pv i H → Y i H x H' → g x τ H' fun σ2 H2 => wipe σ2 vs = τ ∧ tt σ2 H2 fun b H3 =>
      if b = true then te σ2 H3 fun y H4 => ∃ acc, H4 D = some (.lst acc) ∧ acc.length < sizeLine ∧ Pv (i + 1) (upd H4 D (.lst (acc ++ [y]))) else Pv (i + 1) H3) (hd : ∀ H, Pv n H → Qd H) (e : wipe σ vs = τ := by rfl) :
    ∃ W : Nat → Nat → Hp → Prop, (∃ m, W 0 m (upd H1 D (.lst []))) ∧ ∀ i m H, W i m H →
      (J.stop i H ∧ Qd H) ∨ (J.go i H ∧ ∃ Nx : Hp → Prop, (∀ H', Nx H' → ∃ m', m' < m ∧ W (i + 1) m' H') ∧ ∀ x H', J.yld i H x H' → g x (wipe σ vs) H' fun σ2 H2 => wipe σ2 vs = wipe σ vs ∧ tt σ2 H2 fun b H3 =>
        if b = true then te σ2 H3 fun y H4 => ∃ acc, H4 D = some (.lst acc) ∧ acc.length < sizeLine ∧ Nx (upd H4 D (.lst (acc ++ [y]))) else Nx H3) := by
  subst e
  exact lc_it w Pv h0 hG hs hd
theorem dc_w (w : Walk J n G Y) {g : TG} {tt : TT} {tk tv : TE} {vs : List Nat} {σ : St} {H1 : Hp} {D : Addr} {Qd : Hp → Prop} (τ : St) (Pv : Nat → Hp → Prop)
    (h0 : Pv 0 (upd H1 D (.dK []))) (hG : ∀ i H, i ≤ n → Pv i H → G H)
    (hs : ∀ i x H H', i < n → Pv i H → Y i H x H' → g x τ H' fun σ2 H2 => wipe σ2 vs = τ ∧ tt σ2 H2 fun b H3 => if b = true then tk σ2 H3 fun y H4 => tv σ2 H4 fun z H5 =>
      ∃ kvs k, y = kV k ∧ H5 D = some (.dK kvs) ∧ kvs.length < sizeLine ∧ Pv (i + 1) (upd H5 D (.dK (putK kvs k z))) else Pv (i + 1) H3)
    (hd : ∀ H, Pv n H → Qd H) (e : wipe σ vs = τ := by rfl) :
    ∃ W : Nat → Nat → Hp → Prop, (∃ m, W 0 m (upd H1 D (.dK []))) ∧ ∀ i m H, W i m H → (J.stop i H ∧ Qd H) ∨ (J.go i H ∧ ∃ Nx : Hp → Prop, (∀ H', Nx H' → ∃ m', m' < m ∧ W (i + 1) m' H') ∧
      ∀ x H', J.yld i H x H' → g x (wipe σ vs) H' fun σ2 H2 => wipe σ2 vs = wipe σ vs ∧ tt σ2 H2 fun b H3 => if b = true then tk σ2 H3 fun y H4 => tv σ2 H4 fun z H5 =>
        ∃ kvs k, y = kV k ∧ H5 D = some (.dK kvs) ∧ kvs.length < sizeLine ∧ Nx (upd H5 D (.dK (putK kvs k z))) else Nx H3) := by
  subst e
  exact dc_it w Pv h0 hG hs hd
end
end Mh
/-! Heaps that keep all tuples and lists. -/
namespace Mh
open PySem L2
section
variable {K : PySem.W.Frag} {H H' H1 H2 : Hp}
theorem kt_unlock {d : Addr} {kv : List (Key × V)} {od : Obj} (hd : H d = some (.frz od (.dK kv))) : KT K H (upd H d (.dK kv)) := fun b xs z => by
  rcases z with z | z
  · rcases z with z | ⟨o, z⟩
    · refine .inl (.inl ((upd_ne fun q => ?_).trans z))
      rw [q, hd] at z
      cases z
    · refine .inl (.inr ⟨o, (upd_ne fun q => ?_).trans z⟩)
      rw [q, hd] at z
      cases z
  · exact .inr z
/-- the heap without what stands at one place -/
def del (H : Hp) (d : Addr) : Hp := fun b => if b = d then none else H b
theorem del_ne {b d : Addr} (h : b ≠ d) : del H d b = H b := if_neg h
theorem del_same (H : Hp) (d : Addr) : Same (del H d) H := fun b o e => by
  unfold del at e
  split at e
  · cases e
  · exact e
theorem del_upd {d : Addr} {o : HO} : del (upd H d o) d = del H d := by
  funext b
  unfold del
  split
  · rfl
  · rename_i q
    exact upd_ne q
theorem del_mono {d : Addr} (s : Same H H') : Same (del H d) (del H' d) := fun b o e => by
  unfold del at e ⊢
  split
  · rename_i q
    rw [if_pos q] at e
    cases e
  · rename_i q
    rw [if_neg q] at e
    exact s b o e
theorem del_kt {d : Addr} {xs : List V} (h : H d = some (.lst xs)) : KT K H (del H d) := fun b ys z => by
  rcases z with z | z
  · rcases z with z | ⟨o, z⟩
    · refine .inl (.inl ((del_ne fun q => ?_).trans z))
      rw [q, h] at z
      cases z
    · refine .inl (.inr ⟨o, (del_ne fun q => ?_).trans z⟩)
      rw [q, h] at z
      cases z
  · exact .inr z
/-- all tuples and all lists stay -/
structure KTL (K : PySem.W.Frag) (H H' : Hp) : Prop where
  t : KT K H H'
  l : ∀ a xs, SqL K H a xs → SqL K H' a xs
theorem KTL.same (s : Same H H') : KTL K H H' := ⟨KT.same s, fun a xs h => s.seq h⟩
theorem KTL.trans (h : KTL K H H1) (g : KTL K H1 H2) : KTL K H H2 := ⟨h.t.trans g.t, fun a xs q => g.l a xs (h.l a xs q)⟩
/-- an object that is no list and no tuple changes into another such, or goes -/
theorem KTL.of {d : Addr} (e : ∀ b, b ≠ d → H b = H' b) (n : ∀ u, H d = some u → (∀ xs, u ≠ .lst xs) ∧ (∀ xs, u ≠ .tup xs) ∧ (∀ o xs, u ≠ .frz o (.lst xs)) ∧ ∀ o xs, u ≠ .frz o (.tup xs)) : KTL K H H' := by
  refine ⟨fun b ys z => ?_, fun b ys z => ?_⟩
  · rcases z with z | z
    · rcases z with z | ⟨o, z⟩
      · refine .inl (.inl ((e b fun q => ?_).symm.trans z))
        rw [q] at z
        exact (n _ z).2.1 _ rfl
      · refine .inl (.inr ⟨o, (e b fun q => ?_).symm.trans z⟩)
        rw [q] at z
        exact (n _ z).2.2.2 _ _ rfl
    · exact .inr z
  · rcases z with z | z
    · rcases z with z | ⟨o, z⟩
      · refine .inl (.inl ((e b fun q => ?_).symm.trans z))
        rw [q] at z
        exact (n _ z).1 _ rfl
      · refine .inl (.inr ⟨o, (e b fun q => ?_).symm.trans z⟩)
        rw [q] at z
        exact (n _ z).2.2.1 _ _ rfl
    · exact .inr z
theorem KTL.lock {d : Addr} {kv : List (Key × V)} {od : Obj} (hd : H d = some (.dK kv)) : KTL K H (upd H d (.frz od (.dK kv))) := .of (d := d) (fun b hb => (upd_ne hb).symm) fun u q => by
  rw [hd] at q
  cases q
  exact ⟨fun _ z => (by cases z), fun _ z => (by cases z), fun _ _ z => (by cases z), fun _ _ z => (by cases z)⟩
theorem KTL.unlock {d : Addr} {kv kv2 : List (Key × V)} {od : Obj} (hd : H d = some (.frz od (.dK kv))) : KTL K H (upd H d (.dK kv2)) := .of (d := d) (fun b hb => (upd_ne hb).symm) fun u q => by
  rw [hd] at q
  cases q
  exact ⟨fun _ z => (by cases z), fun _ z => (by cases z), fun _ _ z => (by cases z), fun _ _ z => (by cases z)⟩
theorem KTL.put {d : Addr} {kv kv2 : List (Key × V)} (hd : H d = some (.dK kv)) : KTL K H (upd H d (.dK kv2)) := .of (d := d) (fun b hb => (upd_ne hb).symm) fun u q => by
  rw [hd] at q
  cases q
  exact ⟨fun _ z => (by cases z), fun _ z => (by cases z), fun _ _ z => (by cases z), fun _ _ z => (by cases z)⟩
theorem KTL.del {d : Addr} {kv : List (Key × V)} (hd : H d = some (.dK kv)) : KTL K H (Mh.del H d) := .of (d := d) (fun b hb => (del_ne hb).symm) fun u q => by
  rw [hd] at q
  cases q
  exact ⟨fun _ z => (by cases z), fun _ z => (by cases z), fun _ _ z => (by cases z), fun _ _ z => (by cases z)⟩
theorem KTL.putI {d : Addr} {C dx : Addr} {fs fs2 : List (Str × V)} (hd : H d = some (.ins C dx fs)) : KTL K H (upd H d (.ins C dx fs2)) := .of (d := d) (fun b hb => (upd_ne hb).symm) fun u q => by
  rw [hd] at q
  cases q
  exact ⟨fun _ z => (by cases z), fun _ z => (by cases z), fun _ _ z => (by cases z), fun _ _ z => (by cases z)⟩
mutual
theorem dp_ktl (k : KTL K H H') : ∀ (d : PyData) (v : V), Dp K H v d → Dp K H' v d
  | .none, _, h => by cases h; exact .non
  | .bool b, _, h => by cases h; exact .bl b
  | .int i, _, h => by cases h; exact .int i
  | .str x, _, h => by cases h; exact .str x
  | .dict _, _, h => by cases h
  | .list ds, _, h => by
    cases h with
    | lst hs ha => exact .lst (k.l _ _ hs) (dps_ktl k ds _ ha)
  | .tuple ds, _, h => by
    cases h with
    | tup hs ha => exact .tup (k.t _ _ hs) (dps_ktl k ds _ ha)
theorem dps_ktl (k : KTL K H H') : ∀ (ds : List PyData) (vs : List V), DpAll K H vs ds → DpAll K H' vs ds
  | [], _, h => by cases h; exact .nil
  | d :: ds, _, h => by
    cases h with
    | cons h1 h2 => exact .cons (dp_ktl k d _ h1) (dps_ktl k ds _ h2)
end
end
/-! keys of dicts -/
theorem val_out {kv : List (Key × V)} {k : Key} (h : k ∉ kv.map (·.1)) : valV kv k = none := by
  cases e : valV kv k with
  | none => rfl
  | some v => exact absurd (valV_in e) h
theorem val_at {kv : List (Key × V)} {i : Nat} {k : Key} {v : V} (hn : (kv.map (·.1)).Nodup) (h : kv[i]? = some (k, v)) : valV kv k = some v := by
  induction kv generalizing i with
  | nil => simp at h
  | cons p r ih =>
    rw [List.map_cons, List.nodup_cons] at hn
    cases i with
    | zero =>
      have e : p = (k, v) := by simpa using h
      subst e
      exact valV_pos rfl
    | succ i =>
      have h : r[i]? = some (k, v) := by simpa using h
      have m : k ∈ r.map (·.1) := List.mem_map.mpr ⟨(k, v), List.mem_of_getElem? h, rfl⟩
      rw [valV_neg fun z => hn.1 (by rw [z]; exact m)]
      exact ih hn.2 h
/-- a dict with these names and values -/
def kvL {α : Type} (f : α → V) (l : List (Str × α)) : List (Key × V) := l.map fun x => (Sum.inr x.1, f x.2)
theorem kvL_keys {α : Type} (f : α → V) (l : List (Str × α)) : (kvL f l).map (·.1) = (l.map (·.1)).map Sum.inr := by
  unfold kvL
  rw [List.map_map, List.map_map]
  rfl
theorem nd_inr {l : List Str} (h : l.Nodup) : (l.map (Sum.inr : Str → Key)).Nodup := List.nodup_iff_pairwise_ne.mpr (List.pairwise_map.mpr ((List.nodup_iff_pairwise_ne.mp h).imp fun h e => h (by injection e)))
theorem not_inr {l : List Str} {n : Str} (h : n ∉ l) : (Sum.inr n : Key) ∉ l.map Sum.inr := fun z => by
  obtain ⟨m, hm, e⟩ := List.mem_map.mp z
  injection e with e
  rw [e] at hm
  exact h hm
theorem nd_at {α : Type} {l : List α} {i : Nat} {x : α} (h : l.Nodup) (e : l[i]? = some x) : x ∉ l.take i := fun z => by
  rw [← List.take_append_drop i l, List.nodup_append] at h
  have d : x ∈ l.drop i := by
    obtain ⟨h1, h2⟩ := List.getElem?_eq_some_iff.mp e
    rw [List.drop_eq_getElem_cons h1, h2]
    exact List.mem_cons_self
  exact h.2.2 x z x d rfl
end Mh
/-! Rows sorted: one list only. -/
namespace Mh
open PySem L2
theorem paired_perm {α β : Type} {F : α → β → Prop} {xs zs : List α} (p : zs.Perm xs) : ∀ {ys : List β}, Paired F xs ys → ∃ ws : List β, ws.Perm ys ∧ Paired F zs ws := by
  induction p with
  | nil =>
    intro ys h
    exact ⟨ys, List.Perm.refl _, h⟩
  | cons x _ ih =>
    intro ys h
    cases h with
    | cons h1 h2 =>
      obtain ⟨ws, w1, w2⟩ := ih h2
      exact ⟨_, List.Perm.cons _ w1, .cons h1 w2⟩
  | swap x y l =>
    intro ys h
    cases h with
    | cons h1 h2 =>
      cases h2 with
      | cons h2 h3 => exact ⟨_, List.Perm.swap _ _ _, .cons h2 (.cons h1 h3)⟩
  | trans _ _ ih1 ih2 =>
    intro ys h
    obtain ⟨ws, w1, w2⟩ := ih2 h
    obtain ⟨us, u1, u2⟩ := ih1 w2
    exact ⟨us, u1.trans w1, u2⟩
theorem paired_map {α β γ : Type} {F : α → β → Prop} {f : α → γ} {g : β → γ} (h : ∀ x y, F x y → f x = g y) : ∀ {xs : List α} {ys : List β}, Paired F xs ys → xs.map f = ys.map g
  | _, _, .nil => rfl
  | _, _, .cons a t => by
    rw [List.map_cons, List.map_cons, h _ _ a, paired_map h t]
theorem paired_snoc {α β : Type} {F : α → β → Prop} {x : α} {y : β} : ∀ {xs : List α} {ys : List β}, Paired F xs ys → F x y → Paired F (xs ++ [x]) (ys ++ [y])
  | _, _, .nil, h => .cons h .nil
  | _, _, .cons a t, h => .cons a (paired_snoc t h)
theorem paired_imp {α β : Type} {F G : α → β → Prop} (h : ∀ x y, F x y → G x y) : ∀ {xs : List α} {ys : List β}, Paired F xs ys → Paired G xs ys
  | _, _, .nil => .nil
  | _, _, .cons a t => .cons (h _ _ a) (paired_imp h t)
theorem paired_len {α β : Type} {F : α → β → Prop} : ∀ {xs : List α} {ys : List β}, Paired F xs ys → xs.length = ys.length
  | _, _, .nil => rfl
  | _, _, .cons _ t => by rw [List.length_cons, List.length_cons, paired_len t]
theorem paired_mem {α β : Type} {F : α → β → Prop} {x : α} : ∀ {xs : List α} {ys : List β}, Paired F xs ys → x ∈ xs → ∃ y ∈ ys, F x y
  | _, _, .nil, h => by cases h
  | _, _, .cons a t, h => by
    rcases List.mem_cons.mp h with e | h
    · subst e
      exact ⟨_, List.mem_cons_self, a⟩
    · obtain ⟨y, h1, h2⟩ := paired_mem t h
      exact ⟨y, List.mem_cons_of_mem _ h1, h2⟩
theorem ltR_anti {p q : Int × Str} (h1 : ltR p q = false) (h2 : ltR q p = false) : p = q := by
  unfold ltR at h1 h2
  by_cases e : p.1 = q.1
  · rw [if_pos e] at h1
    rw [if_pos e.symm] at h2
    exact Prod.ext e (leS_antisymm (ltS_no.mp h2) (ltS_no.mp h1))
  · rw [if_neg e] at h1
    rw [if_neg fun z => e z.symm] at h2
    have := of_decide_eq_false h1
    have := of_decide_eq_false h2
    omega
theorem rows_uniq {α : Type} (k : α → Int × Str) : ∀ {l m : List α}, l.Perm m → (∀ x ∈ l, ∀ y ∈ l, k x = k y → x = y) → l.Pairwise (fun x y => ltR (k y) (k x) = false) → m.Pairwise (fun x y => ltR (k y) (k x) = false) → l = m
  | [], m, p, _, _, _ => (List.nil_perm.mp p).symm
  | a :: l, [], p, _, _, _ => absurd p.length_eq (by simp)
  | a :: l, b :: m, p, i, h1, h2 => by
    have ma : a ∈ b :: m := p.mem_iff.mp List.mem_cons_self
    have mb : b ∈ a :: l := p.mem_iff.mpr List.mem_cons_self
    have e : a = b := by
      rcases List.mem_cons.mp ma with e | ha
      · exact e
      · rcases List.mem_cons.mp mb with e | hb
        · exact e.symm
        · exact i a List.mem_cons_self b mb (ltR_anti ((List.pairwise_cons.mp h2).1 a ha) ((List.pairwise_cons.mp h1).1 b hb))
    subst e
    rw [rows_uniq k (List.Perm.cons_inv p) (fun x hx y hy => i x (List.mem_cons_of_mem _ hx) y (List.mem_cons_of_mem _ hy)) (List.pairwise_cons.mp h1).2 (List.pairwise_cons.mp h2).2]
/-- a row: rank, name, sixty times the mean -/
abbrev RRow := Int × Str × Int
def rkey (r : RRow) : Int × Str := (r.1, r.2.1)
def sortR (l : List RRow) : List RRow := l.mergeSort fun a b => !ltR (rkey b) (rkey a)
theorem sortR_perm (l : List RRow) : (sortR l).Perm l := List.mergeSort_perm l _
theorem sortR_pw (l : List RRow) : (sortR l).Pairwise fun x y => ltR (rkey y) (rkey x) = false := by
  have O := ltR_swo rkey
  have h := List.pairwise_mergeSort (le := fun a b => !ltR (rkey b) (rkey a)) (fun a b c h1 h2 => by
    rw [Bool.not_eq_true'] at h1 h2 ⊢
    exact O.tr a b c h1 h2) (fun a b => by
      cases e : ltR (rkey b) (rkey a) with
      | false => simp
      | true =>
        have z := O.asym b a e
        rw [z]
        simp) l
  exact h.imp fun h => by
    rw [Bool.not_eq_true'] at h
    exact h
def meanDt (m : Int) : PyData := .tuple [.int ((m.toNat / Nat.gcd m.toNat 60 : Nat) : Int), .int ((60 / Nat.gcd m.toNat 60 : Nat) : Int)]
def rrDt (r : RRow) : PyData := .tuple [.int r.1, .str r.2.1, meanDt r.2.2]
theorem rr_td (r : RRow) : TD (rrDt r) = true := by simp [rrDt, meanDt, TD, TDs]
/-- a row at a place, laid by itself -/
def RowAt (K : PySem.W.Frag) (H : Hp) (x : V) (r : RRow) : Prop := ∃ t m, x = .ref t ∧ H t = some (.tup [.int r.1, .str r.2.1, .ref m]) ∧ SqT K H m [.int ((r.2.2.toNat / Nat.gcd r.2.2.toNat 60 : Nat) : Int), .int ((60 / Nat.gcd r.2.2.toNat 60 : Nat) : Int)]
theorem RowAt.same {K : PySem.W.Frag} {H H' : Hp} {x : V} {r : RRow} (h : RowAt K H x r) (s : Same H H') : RowAt K H' x r := by
  obtain ⟨t, m, e, h1, h2⟩ := h
  exact ⟨t, m, e, s _ _ h1, KT.same s _ _ h2⟩
theorem RowAt.dp {K : PySem.W.Frag} {H : Hp} {x : V} {r : RRow} (h : RowAt K H x r) : Dp K H x (rrDt r) := by
  obtain ⟨t, m, e, h1, h2⟩ := h
  subst e
  exact .tup (SqT.of h1) (.cons (.int _) (.cons (.str _) (.cons (.tup h2 (.cons (.int _) (.cons (.int _) .nil))) .nil)))
theorem rows_dps {K : PySem.W.Frag} {H : Hp} : ∀ {us : List V} {l : List RRow}, Paired (RowAt K H) us l → DpAll K H us (l.map rrDt)
  | _, _, .nil => .nil
  | _, _, .cons a t => .cons a.dp (rows_dps t)
/-- a row's key, read off the heap -/
def kH (H : Hp) (x : V) : Int × Str := match x with
  | .ref t => match H t with
    | some (.tup (.int i :: .str s :: _)) => (i, s)
    | _ => (0, Str.empty)
  | _ => (0, Str.empty)
theorem kH_row {K : PySem.W.Frag} {H : Hp} {x : V} {r : RRow} (h : RowAt K H x r) : kH H x = rkey r := by
  obtain ⟨t, m, e, h1, h2⟩ := h
  subst e
  unfold kH
  dsimp only
  rw [h1]
  rfl
/-- sorted rows -/
theorem sort_rows {K : PySem.W.Frag} {H H' : Hp} {us ys : List V} {l : List RRow} (h : Paired (RowAt K H) us l) (i : ∀ x ∈ l, ∀ y ∈ l, rkey x = rkey y → x = y) (pm : ys.Perm us) (pw : ys.Pairwise fun x y => ltR (kH H y) (kH H x) = false) (s : Same H H') :
    Paired (RowAt K H') ys (sortR l) := by
  obtain ⟨ws, w1, w2⟩ := paired_perm pm h
  have e := paired_map (fun x y q => kH_row q) w2
  have p2 : ws.Pairwise fun x y => ltR (rkey y) (rkey x) = false := by
    have q : (ys.map (kH H)).Pairwise fun x y => ltR y x = false := List.pairwise_map.mpr pw
    rw [e] at q
    exact List.pairwise_map.mp q
  have ew : ws = sortR l := rows_uniq rkey (w1.trans (sortR_perm l).symm) (fun x hx y hy => i x (w1.mem_iff.mp hx) y (w1.mem_iff.mp hy)) p2 (sortR_pw l)
  rw [← ew]
  exact paired_imp (fun x y q => q.same s) w2
/-- what a sort of rows asks -/
theorem rows_sorts {K : PySem.W.Frag} {H : Hp} {us : List V} {l : List RRow} (h : Paired (RowAt K H) us l) (nd : (l.map rkey).Nodup) :
    (∀ x ∈ us, ∃ t r, x = V.ref t ∧ SqT K H t (.int (kH H x).1 :: .str (kH H x).2 :: r)) ∧ ∀ x ∈ us, ∀ y ∈ us, kH H x = kH H y → x = y := by
  refine ⟨fun x hx => ?_, ?_⟩
  · obtain ⟨r, _, q⟩ := paired_mem h hx
    have e := kH_row q
    obtain ⟨t, m, ex, h1, h2⟩ := q
    refine ⟨t, [.ref m], ex, ?_⟩
    rw [e]
    exact SqT.of h1
  · have e := paired_map (fun x y q => kH_row q) h
    have nk : (us.map (kH H)).Nodup := by
      rw [e]
      exact nd
    clear e nd h
    induction us with
    | nil => intro x hx; cases hx
    | cons u us ih =>
      rw [List.map_cons, List.nodup_cons] at nk
      intro x hx y hy q
      rcases List.mem_cons.mp hx with ex | hx
      · rcases List.mem_cons.mp hy with ey | hy
        · rw [ex, ey]
        · exact absurd (List.mem_map.mpr ⟨y, hy, by rw [← q, ex]⟩) nk.1
      · rcases List.mem_cons.mp hy with ey | hy
        · exact absurd (List.mem_map.mpr ⟨x, hx, by rw [q, ey]⟩) nk.1
        · exact ih nk.2 x hx y hy q
end Mh
namespace Mh
open PySem L2
/-- a try that nothing leaves by an error: its body, then what stands under finally -/
def tThenF (tb tf : TS) : TS := fun D σ H => tb { nx := fun σ1 H1 => tf D σ1 H1, rt := fun _ _ => False } σ H
section
variable {X : Cx} {body : List Stmt} {f₀ : Stmt} {fs : List Stmt} {pos : Pos} {tb tf : TS}
theorem ps_thenF (hb : PSs X.nox body tb) (hfin : PSs X.nox (f₀ :: fs) tf) : PS X (.Try body [] [] (f₀ :: fs) pos) (tThenF tb tf) := by
  refine ⟨fun pins s σ H D I h => ?_⟩
  refine wpAny_Try_finally ?_
  have q := hb.run pins s σ H { nx := fun σ1 H1 => tf D σ1 H1, rt := fun _ _ => False } (I.wish _) h
  refine wpAny_mono q (fun g s1 z => ?_) fun _ _ e => False.elim e
  have z := z.unwish
  cases g with
  | ret u =>
    obtain ⟨_, _, _, _, _, e⟩ := z
    exact False.elim e
  | brk =>
    obtain ⟨_, _, _, e⟩ := z
    exact False.elim e
  | cont =>
    obtain ⟨_, _, _, e⟩ := z
    exact False.elim e
  | next =>
    obtain ⟨σ1, H1, J1, q1⟩ := z
    refine wpAny_execs_nil ?_
    refine wpAny_mono (hfin.run pins s1 σ1 H1 D (J1.wish _) q1) (fun g2 s2 q2 => ?_) fun _ _ e => False.elim e
    have q3 : SP X pins D g2 s2 := q2.unwish
    cases g2 <;> exact q3
end
end Mh
/-! sets of texts that can be walked: set(a list of texts), sorted of it -/
namespace Mh
open PySem PySem.Spec PyProof.Rows L2
def txtV : Value → Str
  | .str k _ => k
  | _ => Str.empty
def txtOf (e : Int × Value) : Str := txtV e.2
def GoodT (P : Program) (w : World) (e : Int × Value) : Prop := ∃ k tk, e.2 = Value.str k tk ∧ e.1 = (PySem.strKind P w).hash k
/-- the set of texts at a: S its members, n their number -/
def SetT (P : Program) (w : World) (h : Heap) (a : Addr) (S : Str → Bool) (n : Nat) : Prop :=
  ∃ o es ep t, (h.get? a = some o ∧ o.ExactSet ∧ o.data = .set es ep t) ∧ (∀ e ∈ es.toList, GoodT P w e) ∧ (es.toList.map txtOf).Nodup ∧ (∀ k, S k = true ↔ k ∈ es.toList.map txtOf) ∧
    (es.size < scanBound ∧ t.fits es.size = true ∧ es.size = n) ∧ Ris t.place.toList ∧ (w.params.followText "set-order" = true ∨ t.led = true)
section
variable {P : Program} {w : World} {h h' : Heap} {a : Addr} {S : Str → Bool} {n : Nat}
theorem SetT.keep (R : SetT P w h a S n) (k : ∀ o, h.get? a = some o → h'.get? a = some o) : SetT P w h' a S n := by
  obtain ⟨o, es, ep, t, ⟨ho, r⟩, z⟩ := R
  exact ⟨o, es, ep, t, ⟨k o ho, r⟩, z⟩
theorem SetT.same {S' : Str → Bool} (R : SetT P w h a S n) (e : ∀ k, S' k = S k) : SetT P w h a S' n := by
  rw [funext e]
  exact R
theorem goodT_is {e : Int × Value} (g : GoodT P w e) (k : Str) : (PySem.strKind P w).is k e.2 = true ↔ txtOf e = k := by
  obtain ⟨k0, tk, h1, _⟩ := g
  unfold txtOf
  rw [h1]
  show ((k0 == k) = true) ↔ k0 = k
  exact beq_iff_eq
theorem goodT_elems {l : List (Int × Value)} (g : ∀ e ∈ l, GoodT P w e) : ElemsOf (PySem.strKind P w) l := fun e he => by
  obtain ⟨k, tk, h1, h2⟩ := g e he
  exact ⟨⟨k, by rw [h1]; exact strKind_is P w k tk, h2⟩, by rw [h1] <;> rfl⟩
theorem goodT_mem {l : List (Int × Value)} (g : ∀ e ∈ l, GoodT P w e) (k : Str) : k ∈ l.map txtOf ↔ ∃ e ∈ l, (PySem.strKind P w).is k e.2 = true := by
  rw [List.mem_map]
  exact ⟨fun ⟨e, he, q⟩ => ⟨e, he, (goodT_is (g e he) k).2 q⟩, fun ⟨e, he, q⟩ => ⟨e, he, (goodT_is (g e he) k).1 q⟩⟩
end
section
variable {P : Program} {w : World} {A : Around} {E : Value → Shared → Prop} {s : Shared} {a : Addr} {S : Str → Bool} {n : Nat}
/-- a new entry laid: the table stored, and laid anew where it is full -/
theorem textLaid {g : Bool → Sem Unit} (hg : ∀ (b : Bool) (s₁ : Shared) (Q' : Unit → Shared → Prop), Q' () s₁ → wpAny (model P w) A (g b) Q' E s₁)
    {o : Obj} {es : Array (Int × Value)} {ep : Nat} {t : SetTable} (ho : s.heap.get? a = some o) (hex : o.ExactSet) (hd : o.data = .set es ep t)
    {es1 : Array (Int × Value)} {t2 : SetTable} {S' : Str → Bool} (g1 : ∀ e ∈ es1.toList, GoodT P w e) (nd1 : (es1.toList.map txtOf).Nodup) (m1 : ∀ k, S' k = true ↔ k ∈ es1.toList.map txtOf)
    (hb1 : es1.size < scanBound) (hf2 : t2.fits es1.size = true) (hr : Ris t2.place.toList) (hl : w.params.followText "set-order" = true ∨ t2.led = true) {wasDummy : Bool} {R : Option Bool → Shared → Prop}
    (hR : ∀ h', Heap.SameBut a s.heap h' → SetT P w h' a S' es1.size → R (some true) { s with heap := h' }) :
    wpAny (model P w) A (do
        storeSet a es1 t2
        if (!wasDummy && t2.tooFull) = true then do
            g (relayAll t2 es1 (SetTable.grown es1.size)).2.2
            storeSet a (relayAll t2 es1 (SetTable.grown es1.size)).1 (relayAll t2 es1 (SetTable.grown es1.size)).2.1
            pure (some true)
          else pure (some true)) R E s := by
  refine wpAny_bind (wpAny_storeSet_of ho hd ?_ (fits_of_scanBound hb1))
  have ho1 := store_at (es' := es1) (t' := t2) ho hd
  have sb1 := Heap.SameBut.update s.heap a (Obj.putSet es1 t2)
  split
  · have pm := relayAll_perm t2 es1 (SetTable.grown es1.size)
    have hf3 := relayAll_fits t2 es1 (SetTable.grown es1.size)
    have hr3 := relayAll_ris t2 es1 (SetTable.grown es1.size)
    have hl3 := relayAll_led t2 es1 (SetTable.grown es1.size)
    generalize relayAll t2 es1 (SetTable.grown es1.size) = Z at pm hf3 hr3 hl3 ⊢
    obtain ⟨es2, t3, gave⟩ := Z
    dsimp only at pm hf3 hr3 hl3 ⊢
    have hsz : es2.size = es1.size := by rw [← Array.length_toList, pm.length_eq, Array.length_toList]
    have hb2 : es2.size < scanBound := by rw [hsz]; exact hb1
    refine wpAny_bind (hg _ _ _ ?_)
    refine wpAny_bind (wpAny_storeSet_of ho1 rfl ?_ (fits_of_scanBound hb2))
    have ho2 := store_at (es' := es2) (t' := t3) ho1 rfl
    refine wpAny_pure (hR _ (sb1.trans (Heap.SameBut.update _ a _)) ?_)
    exact ⟨_, es2, _, t3, ⟨ho2, hex, rfl⟩, fun e he => g1 e (pm.mem_iff.mp he), (pm.map txtOf).nodup_iff.mpr nd1, fun k => (m1 k).trans (pm.map txtOf).mem_iff.symm, ⟨hb2, hf3, hsz⟩, hr3, hl.imp id fun z => by rw [hl3]; exact z⟩
  · exact wpAny_pure (hR _ sb1 ⟨_, es1, _, t2, ⟨ho1, hex, rfl⟩, g1, nd1, m1, ⟨hb1, hf2, rfl⟩, hr, hl⟩)
theorem textAdded {k : Str} {tk : Tok} {Q : Bool → Shared → Prop} (R : SetT P w s.heap a S n) (room : n + 1 < scanBound)
    (hQ : ∀ h', Heap.SameBut a s.heap h' → SetT P w h' a (fun j => S j || decide (j = k)) (if S k = true then n else n + 1) → Q (!S k) { s with heap := h' }) :
    wpAny (model P w) A (setAddHashed a (.str k tk) ((PySem.strKind P w).hash k)) Q E s := by
  obtain ⟨o, es, ep, t, ⟨ho, hex, hd⟩, g, nd, hm, ⟨hb, hf, hn⟩, hr, hl⟩ := R
  have hkey : (PySem.strKind P w).is k (.str k tk) = true := strKind_is P w k tk
  have hsc : (Value.str k tk).scannable = true := rfl
  have hel : ElemsOf (PySem.strKind P w) es.toList := goodT_elems g
  unfold setAddHashed setAddHashedIn
  refine wpAny_holding (wpAny_bind (wpAny_setState_of ho hd hf ?_))
  dsimp only
  rw [byScan_of hsc hb hel]
  simp only [↓reduceIte]
  unfold setAddByScan
  refine wpAny_bind ?_
  refine wpAny_bind (wpAny_rule ?_)
  refine wpAny_bind (wpAny_setScan_of hkey ho hd hf hel ?_)
  cases hfi : List.findIdx? (fun e => (PySem.strKind P w).is k e.2) es.toList with
  | some j =>
    dsimp only
    obtain ⟨hj, pj, _⟩ := List.findIdx?_eq_some_iff_getElem.mp hfi
    have hSk : S k = true := (hm k).2 ((goodT_mem g k).2 ⟨es.toList[j], List.getElem_mem hj, pj⟩)
    refine wpAny_pure (wpAny_pure ?_)
    have q := hQ s.heap (Heap.SameBut.refl a s.heap) ⟨o, es, ep, t, ⟨ho, hex, hd⟩, g, nd, fun i => by
      rw [Bool.or_eq_true, decide_eq_true_eq, ← hm i]
      exact ⟨fun z => z.elim id (fun e => e ▸ hSk), .inl⟩, ⟨hb, hf, by rw [if_pos hSk]; exact hn⟩, hr, hl⟩
    rw [hSk] at q
    exact q
  | none =>
    dsimp only
    have hnk : k ∉ es.toList.map txtOf := fun z => by
      obtain ⟨e, he, q⟩ := (goodT_mem g k).1 z
      have c := List.findIdx?_eq_none_iff.mp hfi e he
      rw [q] at c
      cases c
    have hSk : S k = false := by
      cases q : S k with
      | false => rfl
      | true => exact absurd ((hm k).1 q) hnk
    have hgw : ∀ (b : Bool) {s₁ : Shared} {Q' : Unit → Shared → Prop}, Q' () s₁ → wpAny (model P w) A (match b with | true => rule "set.scan.the-table-gave-way" | false => pure ()) Q' E s₁ :=
      fun b s₁ Q' q => by cases b <;> first | exact wpAny_pure q | exact wpAny_rule q
    have pm := layNew_perm t es ((PySem.strKind P w).hash k) (.str k tk)
    have hf1 := layNew_fits t es ((PySem.strKind P w).hash k) (.str k tk)
    have hr1 := layNew_ris t es ((PySem.strKind P w).hash k) (.str k tk) hr
    have hl1 := layNew_led t es ((PySem.strKind P w).hash k) (.str k tk)
    generalize layNew t es ((PySem.strKind P w).hash k) (.str k tk) = Z at pm hf1 hr1 hl1 ⊢
    obtain ⟨es1, t1, wasDummy, gave⟩ := Z
    dsimp only at pm hf1 hr1 hl1 ⊢
    rw [Array.toList_push] at pm
    have pc : es1.toList.Perm (((PySem.strKind P w).hash k, Value.str k tk) :: es.toList) := pm.trans (List.perm_append_singleton _ _)
    have pk : (es1.toList.map txtOf).Perm (k :: es.toList.map txtOf) := pc.map txtOf
    have g1 : ∀ e ∈ es1.toList, GoodT P w e := fun e he => by
      rcases List.mem_cons.mp (pc.mem_iff.mp he) with z | z
      · rw [z]; exact ⟨k, tk, rfl, rfl⟩
      · exact g e z
    have nd1 : (es1.toList.map txtOf).Nodup := pk.nodup_iff.mpr (List.nodup_cons.mpr ⟨hnk, nd⟩)
    have m1 : ∀ i, (S i || decide (i = k)) = true ↔ i ∈ es1.toList.map txtOf := fun i => by
      rw [Bool.or_eq_true, decide_eq_true_eq, hm i, pk.mem_iff, List.mem_cons]
      exact Or.comm
    have hsz : es1.size = n + 1 := by rw [← Array.length_toList, pc.length_eq, List.length_cons, Array.length_toList, hn]
    have hb1 : es1.size < scanBound := by rw [hsz]; exact room
    have hled : w.params.followText "set-order" = true ∨ t1.led = true := hl.imp id fun z => by rw [hl1]; exact z
    have fin : ∀ h', Heap.SameBut a s.heap h' → SetT P w h' a (fun j => S j || decide (j = k)) es1.size → Q true { s with heap := h' } := fun h' sb r => by
      have q := hQ h' sb
      rw [hSk] at q
      rw [hsz] at r
      exact q r
    refine wpAny_bind (hgw _ ?_)
    split
    · refine wpAny_bind ?_
      rw [hashByValue_scannable 8 hsc]
      refine wpAny_pure ?_
      refine textLaid ?_ ho hex hd g1 nd1 m1 hb1 ?_ ?_ ?_ ?_
      · intro b s₁ Q' q; cases b <;> first | exact wpAny_pure q | exact wpAny_rule q
      · first | (split <;> first | exact hf1 | exact SetTable.fits_plain_off hf1) | exact hf1
      · first | (split <;> exact hr1) | exact hr1
      · first | (split <;> exact hled) | exact hled
      · intro h' sb r; dsimp only; exact wpAny_pure (fin h' sb r)
    · refine wpAny_bind (wpAny_pure ?_)
      simp only [↓reduceIte]
      refine textLaid ?_ ho hex hd g1 nd1 m1 hb1 hf1 hr1 hled ?_
      · intro b s₁ Q' q; cases b <;> first | exact wpAny_pure q | exact wpAny_rule q
      · intro h' sb r; dsimp only; exact wpAny_pure (fin h' sb r)
theorem textNew {ns : List Str} (ho : s.heap.get? a = some (freshSet w)) : SetT P w s.heap a (fun j => decide (j ∈ ns.take 0)) 0 :=
  ⟨_, #[], 0, _, ⟨ho, ⟨rfl, rfl, rfl⟩, rfl⟩, (fun e he => by simp at he), (by simp), (fun k => by simp), ⟨(by decide), (by rfl), rfl⟩, List.Pairwise.nil, by
    show _ ∨ (!w.params.followText "set-order") = true
    cases w.params.followText "set-order"
    · exact .inr rfl
    · exact .inl rfl⟩
/-- the loop that adds texts one by one -/
theorem textLoop {I : Addr} {fp wr : List Addr} {G : Array GenState → Array GenState → Prop} {n : Nat} {Pv : Nat → Value → Prop} {St : Nat → Shared → Prop} {R : Result → Shared → Prop}
    (W : WalksS P w A.in1 I fp wr G n Pv St) (S : Addr) (hSf : S ∉ fp) (ns : List Str) (hn : n = ns.length) (hb : ns.length + 1 < scanBound) (hval : ∀ i v, Pv i v → ∃ k t, ns[i]? = some k ∧ v = .str k t) :
    ∀ (k i : Nat) (s : Shared), n - i = k → i ≤ n → St i s → (∃ c, c ≤ i ∧ SetT P w s.heap S (fun j => decide (j ∈ ns.take i)) c) →
      (∀ s' c, Moved (S :: wr) G s s' → c ≤ n → SetT P w s'.heap S (fun j => decide (j ∈ ns)) c → R (.ok (.ret .none)) s') →
      codeAny (model P w) A (.builtin "set.update.loop" ⟨[.ref S, .ref I], []⟩) R s := by
  have hSw : S ∉ wr := fun h => hSf (W.sub _ h)
  have hsub : ∀ b ∈ wr, b ∈ S :: wr := fun b hb => List.mem_cons_of_mem _ hb
  intro k
  induction k with
  | zero =>
    intro i s hk' hi hst ⟨c, hc, hS⟩ hR
    have hin : i = n := by omega
    subst hin
    refine codeAny_builtin F.entry_set_update_loop ?_
    rw [Around.under_plainId F.plain_set_update_loop _]
    show wpAny _ A.in1 (pyNext (.ref I) >>= _) _ _ s
    refine wpAny_bind (W.done s _ _ hst fun s' hm => ?_)
    show wpAny _ A.in1 (ret Value.none) _ _ s'
    have e : ns.take i = ns := List.take_of_length_le (by omega)
    rw [e] at hS
    exact wpAny_pure (hR s' c (hm.mono hsub) hc (hS.keep fun o e => hm.heap S o hSw e))
  | succ k ih =>
    intro i s hk' hi hst ⟨c, hc, hS⟩ hR
    have hlt : i < n := by omega
    refine codeAny_builtin F.entry_set_update_loop ?_
    rw [Around.under_plainId F.plain_set_update_loop _]
    show wpAny _ A.in1 (pyNext (.ref I) >>= _) _ _ s
    refine wpAny_bind (W.item i s _ _ hlt hst fun v s' hP hst' hm => ?_)
    obtain ⟨z, t, hz, rfl⟩ := hval i v hP
    have hS' : SetT P w s'.heap S (fun j => decide (j ∈ ns.take i)) c := hS.keep fun o e => hm.heap S o hSw e
    show wpAny _ A.in1 (holding [Value.str z t] (setAdd S (.str z t)) >>= _) _ _ s'
    refine wpAny_bind (wpAny_holding ?_)
    unfold setAdd
    refine wpAny_holding ?_
    refine wpAny_bind ((PySem.strKind P w).pyHash (k := z) (strKind_is _ _ _ _) ?_)
    refine textAdded (s := { s' with toks := s'.toks + 1 }) hS' (by omega) fun h' hsb hS2 => ?_
    have hS3 : SetT P w h' S (fun j => decide (j ∈ ns.take (i + 1))) (if decide (z ∈ ns.take i) = true then c else c + 1) := hS2.same fun j => by
      rw [List.take_add_one, hz]
      simp [List.mem_append]
    have hc3 : (if decide (z ∈ ns.take i) = true then c else c + 1) ≤ i + 1 := by
      split <;> omega
    refine wpAny_pure ⟨plainId_quiet F.plain_set_update_loop _, ih (i + 1) _ (by omega) hlt (W.frame _ s' _ _ hst' (Nat.le_succ _) fun b hb o e => ?_) ⟨_, hc3, hS3⟩ fun s'' c2 hm'' hc'' hS'' => ?_⟩
    · rw [hsb.2 b (fun h : b = S => hSf (by rw [← h]; exact hb))]; exact e
    · refine hR s'' c2 (Moved.trans W.gtrans ((hm.mono hsub).then_heap (Nat.le_succ _) fun b o hb e => ?_) hm'') hc'' hS''
      rw [hsb.2 b (fun h : b = S => hb (by rw [h]; exact List.mem_cons_self))]; exact e
end
section
variable {P : Program} {w : World} {A : Around} {E : Value → Shared → Prop} {s : Shared}
/-- set(xs), xs a list of texts -/
theorem callSetT {a : Addr} {its : Array Value} (ns : List Str) {Q : Value → Shared → Prop} (calm : A.handled = none) (isL : s.heap.IsList a its) (allInt : StrsAre its.toList ns) (few : ns.length + 1 < scanBound)
    (k : ∀ (h' : Heap) (tk c : Nat), SetT P w h' s.heap.objs.size (fun j => decide (j ∈ ns)) c → c ≤ ns.length → (∀ b o, s.heap.get? b = some o → h'.get? b = some o) → Q (.ref s.heap.objs.size) { s with heap := h', toks := tk }) :
    wpAny (model P w) A (call (.type "set") [.ref a]) Q E s := by
  have size0 : its.size = ns.length := by
    have z := StrsAre.length allInt
    rwa [Array.length_toList] at z
  obtain ⟨cc, tl, mro⟩ := F.called_set.mro
  have made := F.called_set.made
  have below := F.called_set.sub
  refine wpAny_call (codeAny_of_tree ?_)
  show wpAny (model P w) _ (callAny (.type "set") _) _ _ s
  refine wpAny_pure ⟨Code.quiet_builtin _ (by decide +kernel), codeAny_builtin F.entry_type_call ?_⟩
  rw [Around.under_plain (weight_type_call_type "set" [.ref a] []) rfl]
  have p1 := F.called_set.notType
  have p2 := F.called_set.canCreate
  have p3 := F.typeCall_set_1 (.ref a)
  repeat (any_goals (first | assumption | wp_step))
  refine codeAny_mono (code_set_led1 (.ref a) (E := E)
    (Q₁ := fun obj s₁ => obj = .ref s.heap.objs.size ∧ s₁ = { s with heap := s.heap.push (freshSet w) }) ⟨rfl, rfl⟩) fun r s₁ hr => ?_
  rcases r with e | fl
  · exact hr
  rcases fl with _ | _ | _ | obj
  · exact hr.elim
  · exact hr.elim
  · exact hr.elim
  obtain ⟨rfl, rfl⟩ := hr
  have at0 : (s.heap.push (freshSet w)).get? s.heap.objs.size = some (freshSet w) := Heap.get?_push_size _ rfl
  have ty0 : Shared.TypeIs { s with heap := s.heap.push (freshSet w) } (.ref s.heap.objs.size) "set" := ⟨_, at0, rfl⟩
  have p4 := F.called_set.init.lookup
  have p5 := F.called_set.init.bind (.ref s.heap.objs.size)
  repeat (any_goals (first | assumption | wp_step))
  refine codeAny_mono (codeAny_call_builtin (R := wants (fun r s₂ => r = .none ∧ ∃ h' tk c, s₂ = { s with heap := h', toks := tk } ∧ SetT P w h' s.heap.objs.size (fun j => decide (j ∈ ns)) c ∧ c ≤ ns.length ∧
    (∀ b o, s.heap.get? b = some o → h'.get? b = some o)) E) F.called_set.init.plain F.entry_set_init (check_set_init_1 ty0 ?_)) fun r₂ s₂ hr₂ => ?_
  · obtain ⟨⟨c0, d0, dt0, sl0⟩, got, cls0, cnt0, data0⟩ := isL
    simp only at cls0 data0
    subst cls0 data0
    have got1 : (s.heap.push (freshSet w)).get? a = some { cls := .type "list", dict := d0, data := .seq its cnt0, slots := sl0 } := Heap.get?_push_of_some _ got
    have q1 := F.sub_list_set
    have q2 := F.sub_list_frozenset
    have q3 : (Value.type "list" == Value.type "dict") = false := by decide
    have isL1 : (s.heap.push (freshSet w)).IsList a its := ⟨_, got1, rfl, cnt0, rfl⟩
    unfold Builtin.«set.__init__» noKeywords Builtin.Frozenset.updateFrom
    generalize frozen : pyIter = walkIt
    wp_walk
    subst frozen
    refine wpAny_pyIter_list isL1 (wpAny_bind (wpAny_runValue ?_))
    have below0 : a < s.heap.objs.size := Heap.lt_size got
    have calm3 : A.in1.in1.in1.handled = none := by simp [calm]
    have apart : a ≠ (s.heap.push (freshSet w)).objs.size := by
      rw [Heap.size_push]
      exact Nat.ne_of_lt (Nat.lt_succ_of_lt below0)
    have apart2 : s.heap.objs.size ∉ [(s.heap.push (freshSet w)).objs.size, a] := by
      rw [Heap.size_push]
      simp only [List.mem_cons, List.not_mem_nil, or_false, not_or]
      exact ⟨Nat.ne_of_lt (Nat.lt_succ_self _), Nat.ne_of_gt below0⟩
    have vals : ∀ (i : Nat) (v : Value), its[i]? = some v → ∃ z t, ns[i]? = some z ∧ v = .str z t := fun i v hv => by
      have hi : i < ns.length := by
        rw [← size0]
        exact (Array.getElem?_eq_some_iff.mp hv).1
      obtain ⟨t, e⟩ := SS.strs_at allInt i v (by rw [Array.getElem?_toList]; exact hv)
      exact ⟨ns[i], t, List.getElem?_eq_getElem hi, by rw [e, List.getD_eq_getElem?_getD, List.getElem?_eq_getElem hi]; rfl⟩
    refine textLoop ((Walks.list calm3 _ a apart its).toS) s.heap.objs.size apart2 ns size0 few vals (its.size - 0) 0 _ (by omega) (Nat.zero_le _) ⟨⟨_, Heap.get?_push_size _ rfl, rfl, rfl⟩, isL1.push _⟩
      ⟨0, Nat.le_refl 0, textNew (Heap.get?_push_of_some _ at0)⟩ ?_
    intro s3 c3 mv hc3 hS3
    obtain ⟨h3, g3, d3, tk3, os3⟩ := s3
    have e1 : g3 = s.gens := mv.gens
    have e2 : d3 = s.drawn := mv.drawn
    have e3 : os3 = s.os := mv.os
    subst e1 e2 e3
    show wpAny (model P w) _ _ _ _ _
    refine wpAny_pure ?_
    show wpAny (model P w) _ (ret Value.none) _ _ _
    rw [size0] at hc3
    refine wpAny_pure ⟨rfl, h3, tk3, c3, rfl, hS3, hc3, fun b o e => ?_⟩
    have hb0 : b < s.heap.objs.size := Heap.lt_size e
    refine mv.heap b o ?_ (Heap.get?_push_of_some _ (Heap.get?_push_of_some _ e))
    simp only [List.mem_cons, List.not_mem_nil, or_false, not_or]
    refine ⟨Nat.ne_of_lt hb0, ?_⟩
    rw [Heap.size_push]
    exact Nat.ne_of_lt (Nat.lt_succ_of_lt hb0)
  · rcases r₂ with e | fl
    · exact hr₂
    rcases fl with _ | _ | _ | r
    · exact hr₂.elim
    · exact hr₂.elim
    · exact hr₂.elim
    obtain ⟨rfl, h', tk, c', rfl, hS', hc', hk'⟩ := hr₂
    repeat (any_goals (first | assumption | wp_step))
    exact k _ _ _ hS' hc' hk'
end
section
/-- the set of texts, as an object of the heap -/
def SetTO (P : Program) (w : World) (a : Addr) (S : Str → Bool) (n : Nat) : HO := .ext fun h => SetT P w h a S n
theorem setTO_new {w : World} {P : Program} {H : Hp} {h : Heap} {a : Addr} {S : Str → Bool} {n : Nat} (R : SetT P w h a S n) : ObjOk P w H h a (SetTO P w a S n) := by
  have ⟨o, _, _, _, ⟨ho, _⟩, _⟩ := R
  exact ⟨R, ⟨o, ho⟩, fun h1 h2 p k => SetT.keep p k⟩
/-- set(xs) by values, xs a list of texts -/
def rSetT (K : PySem.W.Frag) (P : Program) (w : World) : List V → Hp → VK → Prop := fun vs H Q => ∃ (a : Addr) (ns : List Str), vs = [V.ref a] ∧ SqL K H a (ns.map V.str) ∧ ns.length ≤ 1000 ∧
  ∀ (p : Addr) (c : Nat), H p = none → c ≤ ns.length → Q (.ref p) (upd H p (SetTO P w p (fun j => decide (j ∈ ns)) c))
theorem cr_setT {X : Cx} (hc : X.calm = true) : CallR X (.type "set") (rSetT X.K X.prog X.w) := by
  intro pins s σ H vs us Q I r h
  obtain ⟨a, ns, rfl, hq, few, k⟩ := h
  obtain ⟨its, rv, p, hz⟩ := I.list hq
  rw [Vals.ref1 r]
  refine callSetT ns (I.ok.hd hc) p.isList (strsAre_of rv) (by unfold scanBound; omega) fun h' tk c hS hcl hk => ?_
  refine ⟨.ref s.heap.objs.size, upd H s.heap.objs.size (SetTO X.prog X.w s.heap.objs.size (fun j => decide (j ∈ ns)) c), I.laid (t' := tk) hk (Nat.le_refl _) (setTO_new hS), rfl, k _ c (I.hok.fresh (Nat.le_refl _)) hcl⟩
theorem texts_are : ∀ (us : List Value), (∀ u ∈ us, ∃ k tk, u = Value.str k tk) → StrsAre us (us.map txtV)
  | [], _ => .nil
  | u :: us, h => by
    obtain ⟨k, tk, rfl⟩ := h u List.mem_cons_self
    exact .cons k tk (texts_are us fun v hv => h v (List.mem_cons_of_mem _ hv))
/-- sorted(s), s a set of fewer than 64 texts -/
def rSortedT (P : Program) (w : World) : List V → Hp → VK → Prop := fun vs H Q => ∃ (a : Addr) (S : Str → Bool) (n : Nat), vs = [V.ref a] ∧ H a = some (SetTO P w a S n) ∧ n < 64 ∧
  ∀ (ys : List Str) (p : Addr), PyProof.Rows.sortedS ys = true → ys.Nodup → (∀ k : Str, k ∈ ys ↔ S k = true) → H p = none → Q (.ref p) (upd H p (.lst (ys.map V.str)))
theorem cr_sortedT {X : Cx} (hc : X.calm = true) : CallR X (.builtin "sorted") (rSortedT X.prog X.w) := by
  intro pins s σ H vs us Q I r h
  obtain ⟨a, S, n, rfl, ha, h64, q⟩ := h
  have R : SetT X.prog X.w s.heap a S n := (I.hok a _ ha).1
  rw [Vals.ref1 r]
  obtain ⟨o, es, ep, t, ⟨ho, hex, hd⟩, g, nd, hm, ⟨hb, hf, hn⟩, hr, hl⟩ := R
  refine Calls.call_function_entry PyProof.Rows.kind_sorted PyProof.Rows.plain_sorted PyProof.Rows.entry_sorted (PyProof.Rows.args_sorted1 _) ?_
  unfold Builtin.«sorted»
  refine wpAny_bind (m := checkCount "sorted" 1 1 _) (wpAny_pure ?_)
  refine wpAny_bind (collect_set (A := X.A.in1) (I.ok.hd hc) ⟨o, ho, hex.1, hd⟩ hf hb hr hl fun s1 out k1 hz g1 o1 pm => ?_)
  have hal : out.length = n := by rw [pm.length_eq, List.length_map, Array.length_toList]; exact hn
  have hS : StrsAre out (out.map txtV) := texts_are out fun v hv => by
    obtain ⟨e, he, z⟩ := List.mem_map.mp (pm.mem_iff.mp hv)
    obtain ⟨k, tk, h1, _⟩ := g e he
    exact ⟨k, tk, by rw [← z]; exact h1⟩
  have pk : (out.map txtV).Perm (es.toList.map txtOf) := by
    have z := pm.map txtV
    rw [List.map_map] at z
    exact z
  obtain ⟨h', gg, dd, tk, oo⟩ := s1
  have e1 : gg = s.gens := g1
  have e2 : oo = s.os := o1
  subst e1 e2
  refine wpAny_bind (wpAny_newList ?_ (by rw [hal, sizeLine_eq]; omega))
  have hoL : (h'.push (seqObj "list" out.toArray 0)).get? h'.objs.size = some (seqObj "list" out.toArray 0) := Heap.get?_push_size _ rfl
  refine wpAny_bind (wpAny_holding (wpAny_call_entry PyProof.Rows.slot_list_sort ⟨_, hoL, rfl⟩ PyProof.Rows.entry_list_sort
    (list_sort_treeK strKind_oneLt hoL hS.keysOf (fun v₁ v₂ rest e => keyKind_strs (by rw [← e]; exact hS)) (by rw [hal]; exact h64) fun st' hp hs => ⟨_, rfl, ?_⟩)
    (PyProof.Rows.args_list_sort _)))
  obtain ⟨ys, y1, y2, y3⟩ := sorted_out_str hS hp hs
  obtain ⟨e', he'⟩ := PyProof.Rows.sortedHeap_at (vs := out) (out := (arrOf st').map (·.2)) hoL
  have pn := y2.trans pk
  have hlen : (ys.map V.str).length ≤ sizeLine := by
    rw [List.length_map, y2.length_eq, List.length_map, hal, sizeLine_eq]
    omega
  have hlt : s.heap.objs.size ≤ h'.objs.size := hz
  have hn0 : H h'.objs.size = none := I.hok.fresh hlt
  have kk : ∀ b u, s.heap.get? b = some u → (sortedHeap (h'.push (seqObj "list" out.toArray 0)) h'.objs.size out ((arrOf st').map (·.2))).get? b = some u := fun b u e => by
    have z := k1 b u e
    have hb' : b < h'.objs.size := Heap.lt_size z
    rw [PyProof.Rows.sortedHeap_old (Nat.ne_of_lt hb') (by rw [size_push']; exact Nat.lt_succ_of_lt hb')]
    exact Heap.get?_push_of_some _ z
  have J : Inv X pins σ (upd H h'.objs.size (.lst (ys.map V.str))) { s with heap := sortedHeap (h'.push (seqObj "list" out.toArray 0)) h'.objs.size out ((arrOf st').map (·.2)), drawn := dd, toks := tk } :=
    I.call (ch := []) (Un.laid kk hlt hn0) (I.hok.laid kk hlt ⟨hlen, ((arrOf st').map (·.2)).toList, e', vals_of_strs y1, by rw [Array.toArray_toList]; exact he'⟩) I.bare (fun _ z => nomatch z)
  exact wpAny_pure ⟨_, rfl, .ref h'.objs.size, _, J, rfl, q ys _ y3 ((pn.nodup_iff).mpr nd) (fun k => by rw [pn.mem_iff, ← hm k]) hn0⟩
end
end Mh
/-! xs[i] op= e on lists: the item that stands there, read -/
namespace Mh
open PySem PySem.Spec PyProof.Rows L2
/-- xs[i], by values, for the library's ps_augS -/
theorem get_list {X : Cx} : PGet X (rIxL X.K) := by
  intro pins s σ H o i ov iv Q I ro ri h
  obtain ⟨p, xs, k, z, rfl, rfl, hq, he, q⟩ := h
  cases ro
  obtain ⟨t, rfl⟩ := ri
  obtain ⟨its, r, pl, hz⟩ := I.list hq
  obtain ⟨j, h1, h2, h3, h4, h5⟩ := atI_get he
  obtain ⟨w, ew, rw'⟩ := r.get h2
  have hl := r.length
  have hn := line63
  have fin : EP X pins σ Q w s := ⟨z, H, I, rw', q⟩
  by_cases h0 : 0 ≤ k
  · have hj : k.toNat = j := by
      rw [seqIndex_of h0 h5] at h1
      exact Option.some.inj h1
    exact wpAny_getItem_list pl.isList h0 (by omega) (by rw [hj]; simpa using ew) fin
  · have hj : (k + (its.toArray.size : Int)).toNat = j := by
      rw [seqIndex_neg (by omega) h4] at h1
      rw [List.size_toArray, ← hl]
      exact Option.some.inj h1
    exact wpAny_getItem_list_neg pl.isList (by omega) (by rw [List.size_toArray] <;> omega) (by omega) (by rw [hj]; simpa using ew) fin
end Mh
/-! sorted(a set of ints), any number of them -/
namespace Mh
open PySem L2 PyProof.Rows
section
variable {P : Program} {w : World} {A : Around} {E : Value → Shared → Prop} {s : Shared}
theorem sorted_setW {a : Addr} {S : Int → Bool} {n : Nat} {Q : Value → Shared → Prop} (R : SetR w s.heap a S n) (hh : A.handled = none) (hz0 : n ≤ sizeLine)
    (hQ : ∀ s' p (out : Array Value) (c : Nat) (ns : List Int), (∀ b o, s.heap.get? b = some o → s'.heap.get? b = some o) → s'.gens = s.gens → s'.os = s.os → s.heap.objs.size ≤ p →
      s'.heap.get? p = some (seqObj "list" out c) → IntsAre out.toList ns → ns.Pairwise (· < ·) → (∀ k, k ∈ ns ↔ S k = true) → ns.length = n → Q (.ref p) s') :
    wpAny (model P w) A (call (.builtin "sorted") [.ref a]) Q E s := by
  obtain ⟨o, es, ep, t, ho, hex, hd, g, nd, hm, hb, hf, hn, hr, hl⟩ := R
  refine Calls.call_function_entry kind_sorted plain_sorted entry_sorted (args_sorted1 _) ?_
  unfold Builtin.«sorted»
  refine wpAny_bind (m := checkCount "sorted" 1 1 _) (wpAny_pure ?_)
  refine wpAny_bind (collect_set (A := A.in1) hh ⟨o, ho, hex.1, hd⟩ hf hb hr hl fun s1 vs k1 hz g1 o1 pm => ?_)
  have hvl : vs.length = n := by rw [pm.length_eq, List.length_map, Array.length_toList]; exact hn
  have hI : IntsAre vs (vs.map Builtin.Re.reRawOf) := ints_of vs fun v hv => by
    obtain ⟨e, he, q⟩ := List.mem_map.mp (pm.mem_iff.mp hv)
    obtain ⟨k, tk, h1, _⟩ := g e he
    exact ⟨k, tk, by rw [← q]; exact h1⟩
  have pk : (vs.map Builtin.Re.reRawOf).Perm (es.toList.map keyOf) := by
    have q := pm.map Builtin.Re.reRawOf
    rw [List.map_map] at q
    exact q
  refine wpAny_bind (wpAny_newList ?_ (by rw [hvl]; exact hz0))
  have hoL : (s1.heap.push (seqObj "list" vs.toArray 0)).get? s1.heap.objs.size = some (seqObj "list" vs.toArray 0) := Heap.get?_push_size _ rfl
  refine wpAny_bind (wpAny_holding (wpAny_call_entry slot_list_sort ⟨_, hoL, rfl⟩ entry_list_sort (SrtO.list_sort_ord SrtO.swo_int hoL (by rw [hvl]; exact hz0) (fun h2 => SrtO.ints_sortable hI h2) fun out h1 h2 => ⟨_, rfl, ?_⟩) (args_list_sort _)))
  obtain ⟨a1, a2, a3⟩ := SrtO.ints_out hI h1 h2
  obtain ⟨c, hc⟩ := sortedHeap_at (vs := vs) (out := out.toArray) hoL
  have pn : (out.map SrtO.iv).Perm (es.toList.map keyOf) := a2.trans pk
  refine wpAny_pure ⟨_, rfl, hQ _ s1.heap.objs.size out.toArray c (out.map SrtO.iv) (fun b u e => ?_) g1 o1 hz hc a1 (lt_of_le_nodup _ a3 (pn.nodup_iff.mpr nd)) (fun k => by rw [pn.mem_iff, ← hm k]) ?_⟩
  · have q := k1 b u e
    have hlt := Heap.lt_size q
    show (sortedHeap (s1.heap.push (seqObj "list" vs.toArray 0)) s1.heap.objs.size vs out.toArray).get? b = some u
    rw [sortedHeap_old (Nat.ne_of_lt hlt) (by rw [size_push']; exact Nat.lt_succ_of_lt hlt)]
    exact Heap.get?_push_of_some _ q
  · rw [pn.length_eq, List.length_map, Array.length_toList]; exact hn
end
/-- sorted(found), any number of members -/
def rSortedSetW (w : World) : List V → Hp → VK → Prop := fun vs H Q => ∃ (a : Addr) (S : Int → Bool) (n : Nat), vs = [V.ref a] ∧ H a = some (SetO w a S n) ∧ n ≤ sizeLine ∧
  ∀ (ns : List Int) (p : Addr), ns.Pairwise (· < ·) → (∀ k : Int, k ∈ ns ↔ S k = true) → ns.length = n → H p = none → Q (.ref p) (upd H p (.lst (ns.map V.int)))
theorem cr_sortedSetW {X : Cx} (hc : X.calm = true) : CallR X (.builtin "sorted") (rSortedSetW X.w) := by
  intro pins s σ H vs us Q I r h
  obtain ⟨a, S, n, rfl, ha, hn, q⟩ := h
  have R := setO_get I ha
  rw [Vals.ref1 r]
  refine sorted_setW R (I.ok.hd hc) hn fun s' p out c ns k g o hp hg hi hs hm hl => ?_
  have hlen : (ns.map V.int).length ≤ sizeLine := by rw [List.length_map, hl]; exact hn
  have hn : H p = none := I.hok.fresh hp
  have J : Inv X pins σ (upd H p (.lst (ns.map V.int))) { s with heap := s'.heap, gens := s'.gens, drawn := s'.drawn, toks := s'.toks } :=
    I.call (ch := []) (Un.laid k hp hn) (I.hok.laid k hp ⟨hlen, out.toList, c, vals_of_ints hi, hg⟩) (by rw [g]; exact I.bare) (fun _ z => nomatch z)
  have e : s' = { s with heap := s'.heap, gens := s'.gens, drawn := s'.drawn, toks := s'.toks } := by
    cases s'
    cases s
    cases o
    rfl
  rw [e]
  exact ⟨.ref p, _, J, rfl, q ns p hs hm hl hn⟩
section
variable {X : Cx} {K : PySem.W.Frag}
theorem mtK_lcount (e : X.K = K) : MtR X "list.count" (rCntI K) := by subst e; exact mt_lcount
variable {o e : Expr} {es : List Expr} {to : TE} {t : TA} {name : Str} {apos cpos : Pos} {T id : String} {r : V → List V → Hp → VK → Prop}
/-- pe_bm within a comprehension -/
theorem peK_bm (eK : X.K = K) (pa : PlainAttrs T) (slot : Slot T name id) (hty : typeOf (.builtin id) = pure (.type "method_descriptor")) (hm : MtR X id r) (ho : PE X o to) (ha : PA X (e :: es) t)
    (hbase : attributeBase o name X.env (eval o X.env) = eval o X.env := by rfl)
    (hfew : ((backTo cpos (starEach (e :: es) X.env)).all (fun x => !x.1) && (backToKw cpos (keywordEach [] X.env)).all (fun x => x.1.isSome)
      && decide ((e :: es).length + ([] : List Keyword).length + (if ([] : List Keyword).isEmpty then 0 else 1) < 30)) = true := by rfl)
    (hline : (apos.endLine == cpos.line) = true := by rfl) (hs : starEach (e :: es) X.env = (false, eval e X.env) :: starEach es X.env := by rfl) (hplain : (backTo cpos (starEach es X.env)).any (·.1) = false := by rfl) :
    PE X (.Call (.Attribute o name apos) (e :: es) [] cpos) (tBM K T r to t) := by
  subst eK
  exact pe_bm pa slot hty hm ho ha hbase hfew hline hs hplain
end
end Mh
/-! t[::-1] of a tuple -/
namespace Mh
open PySem PyProof.Rows L2 HT
section
variable {prog : Program} {w : World} {A : Around} {E : Value → Shared → Prop} {s : Shared}
theorem adjust_back (n : Nat) : Builtin.Slice.sliceAdjust none none (-1) (n : Int) = ((n : Int) - 1, -1) := by
  unfold Builtin.Slice.sliceAdjust
  rfl
theorem places_back (n : Nat) : Builtin.Slice.slicePlaces ((n : Int) - 1) (-1) (-1) = n := by
  unfold Builtin.Slice.slicePlaces
  have h1 : ¬ ((-1 : Int) > 0) := by omega
  simp only [h1, if_false]
  split
  · simp
  · omega
theorem sliceApplied_back {sl : Addr} {vs : Value} {n : Nat} {Q : Int × Int × Nat → Shared → Prop} (hs : s.heap.IsSliceOf sl .none .none vs) (ps : IsPart vs (some (-1)))
    (h : Q ((n : Int) - 1, -1, n) s) : wpAny (model prog w) A (Builtin.Slice.sliceApplied (.ref sl) (pure (n : Int))) Q E s := by
  obtain ⟨os, hos, hcs, hds⟩ := id hs
  unfold Builtin.Slice.sliceApplied Builtin.Slice.sliceFields
  refine wpAny_bind (wpAny_bind (wpAny_field hos hds (x := .none) rfl (wpAny_bind (wpAny_field hos hds (x := .none) rfl (wpAny_bind (wpAny_field hos hds (x := vs) rfl (wpAny_pure ?_)))))))
  refine wpAny_bind (slicePart_ ps ?_)
  show wpAny _ _ (if ((-1 : Int) == 0) = true then _ else _) _ _ s
  rw [if_neg (by decide)]
  refine wpAny_bind (slicePart_ .none (wpAny_bind (slicePart_ .none (wpAny_bind (wpAny_pure ?_)))))
  show wpAny _ _ (match Builtin.Slice.sliceAdjust none none (-1) (n : Int) with | (lo, hi) => pure (lo, (-1 : Int), Builtin.Slice.slicePlaces lo hi (-1))) _ _ s
  rw [adjust_back n]
  show wpAny _ _ (pure ((n : Int) - 1, (-1 : Int), Builtin.Slice.slicePlaces ((n : Int) - 1) (-1) (-1))) _ _ s
  rw [places_back]
  exact wpAny_pure h
theorem pick_back (xs : Array Value) : ((List.range xs.size).filterMap fun (m : Nat) => xs[((xs.size : Int) - 1 + (m : Int) * -1).toNat]?).toArray = xs.toList.reverse.toArray := by
  have q := PySem.W.krv_pick xs
  rw [← q]
  unfold PySem.slicePick
  rw [PySem.W.krv_bounds]
  show _ = ((sliceRange ((xs.size : Int) - 1) (-1) (-1)).filterMap (xs[·]?)).toArray
  rw [PySem.W.krv_sliceRange, List.filterMap_map]
  have e : ∀ l : List Nat, (∀ m ∈ l, m < xs.size) → (l.filterMap fun (m : Nat) => xs[((xs.size : Int) - 1 + (m : Int) * -1).toNat]?) = l.filterMap ((fun x => xs[x]?) ∘ fun k => xs.size - 1 - k) := by
    intro l
    induction l with
    | nil => intro _; rfl
    | cons m l ih =>
      intro h
      have hm := h m List.mem_cons_self
      have e : ((xs.size : Int) - 1 + (m : Int) * -1).toNat = xs.size - 1 - m := by omega
      rw [List.filterMap_cons, List.filterMap_cons, ih fun k hk => h k (List.mem_cons_of_mem _ hk), e]
      rfl
  rw [e _ fun m hm => List.mem_range.mp hm]
theorem getItem_tuple_back {t sl : Addr} {items : Array Value} {vs : Value} {Q : Value → Shared → Prop} (ht : IsTup s.heap t items) (hs : s.heap.IsSliceOf sl .none .none vs) (ps : IsPart vs (some (-1)))
    (h : Q (.ref s.heap.objs.size) { s with heap := s.heap.push { cls := .type "tuple", data := .seq items.toList.reverse.toArray } })
    (hsz : items.size ≤ sizeLine) : wpAny (model prog w) A (getItem (.ref t) (.ref sl)) Q E s := by
  have htake : sizeOk (.seq items.toList.reverse.toArray) := by
    show items.toList.reverse.toArray.size ≤ sizeLine
    rw [List.size_toArray, List.length_reverse, Array.length_toList]
    exact hsz
  obtain ⟨os, hos, hcs, hds⟩ := id hs
  have hTs : s.TypeIs (.ref sl) "slice" := ⟨os, hos, hcs⟩
  unfold getItem
  try with_reducible refine wpAny_holding ?_
  first | refine wpAny_bind (wpAny_pure ?_) | skip
  refine wpAny_bind (wpAny_sequenceKey ht.typeIs (by decide) ?_)
  refine wpAny_bind (wpAny_callSpecial?_slot (name := Str.ofString "__getitem__") ht.typeIs PyProof.Rows.slot_tuple_getitem
    (wpAny_call_entry PyProof.Rows.slot_tuple_getitem ht.typeIs entry_tuple_getitem ?_ (args_tuple_getitem _ _)))
  show wpAny _ _ (Builtin.Tuple.tupleItemsOf (.ref t) >>= _) _ _ s
  refine wpAny_bind (tupleItemsOf_ ht ?_)
  refine wpAny_bind (wpAny_typeOf hTs ?_)
  rw [if_pos (by decide)]
  refine wpAny_bind (sliceApplied_back hs ps ?_)
  have hno : ¬ (((((items.size : Int) - 1) == 0 && (-1 : Int) == 1 && items.size == items.size)) = true) := by
    intro q
    rw [Bool.and_eq_true, Bool.and_eq_true] at q
    exact absurd q.1.2 (by decide)
  show wpAny _ _ (if (((items.size : Int) - 1) == 0 && (-1 : Int) == 1 && items.size == items.size) = true then _ else _) _ _ s
  rw [if_neg hno, pick_back]
  first
    | exact wpAny_bind (m := Builtin.Tuple.tupleExact _) (wpAny_newObj_type (wpAny_pure ⟨_, rfl, wpAny_pure h⟩) htake)
    | exact wpAny_bind (m := Builtin.Tuple.tupleExact _) (wpAny_newObj_type (wpAny_bind (wpAny_pure (wpAny_pure ⟨_, rfl, wpAny_pure h⟩))) htake)
    | exact wpAny_bind (wpAny_bind (m := Builtin.Tuple.tupleExact _) (wpAny_newObj_type (wpAny_pure (wpAny_pure ⟨_, rfl, wpAny_pure h⟩)) htake))
    | exact wpAny_bind (wpAny_bind (m := Builtin.Tuple.tupleExact _) (wpAny_newObj_type (wpAny_pure ⟨_, rfl, wpAny_pure h⟩) htake))
end
section
variable {X : Cx}
def tRevT (K : PySem.W.Frag) (te : TE) : TE := fun σ H Q => te σ H fun x H1 => ∃ a xs, x = .ref a ∧ SqT K H1 a xs ∧ ∀ p, H1 p = none → Q (.ref p) (upd H1 p (.tup xs.reverse))
theorem pe_revT {e : Expr} {te : TE} {k : Nat} {p1 p2 p3 pos : Pos} (he : PE X e te) : PE X (.Subscript e (.Slice none none (some (.UnaryOp .USub (.Constant (.int 1) k p1) p2)) p3) pos) (tRevT X.K te) := by
  refine ⟨fun pins s σ H Q I h => ?_⟩
  refine Subscript_ (thn (he.run pins s σ H _ I h) fun v s1 ⟨x, H1, I1, r1, q1⟩ => ?_)
  obtain ⟨a, xs, ex, hx, q⟩ := q1
  subst ex
  cases r1
  have hst : PO X (some (.UnaryOp .USub (.Constant (.int 1) k p1) p2)) (tPart (tUn (rU fun i => .int (-i)) (tC (.int 1)))) := po_some (pe_un un_neg pe_int)
  refine wpAny_Slice (thn (po_none.run pins s1 σ H1 (fun o H2 => o = none ∧ H2 = H1) I1 ⟨rfl, rfl⟩) fun vl s2 ⟨l, H2, I2, pl, el, e2⟩ => ?_)
  subst el e2
  refine thn (po_none.run pins s2 σ H2 (fun o H3 => o = none ∧ H3 = H2) I2 ⟨rfl, rfl⟩) fun vu s3 ⟨u, H3, I3, pu, eu, e3⟩ => ?_
  subst eu e3
  refine thn (hst.run pins s3 σ H3 (fun o H4 => o = some (-1) ∧ H4 = H3) I3 ⟨1, rfl, -1, rfl, rfl, rfl⟩) fun vs s4 ⟨o, H4, I4, ps, eo, e4⟩ => ?_
  subst eo e4
  cases pl
  cases pu
  have I5 : Inv X pins σ H4 { s4 with heap := s4.heap.push { cls := .type "slice", data := .fields #[.none, .none, vs] } } := I4.kept (t' := s4.toks) fun b ob q => Heap.get?_push_of_some _ q
  obtain ⟨its, r, ht, hz⟩ := I5.tuple hx
  have hlen := r.length
  show wpAny (model X.prog X.w) X.A (subscriptTail e (.Slice none none (some (.UnaryOp .USub (.Constant (.int 1) k p1) p2)) p3) (.ref a) (.ref s4.heap.objs.size)) (EP X pins σ Q) X.xe { s4 with heap := s4.heap.push { cls := .type "slice", data := .fields #[.none, .none, vs] } }
  refine tail_any (ops := [.ref a, .ref s4.heap.objs.size]) ht.typeIs (PyProof.Rows.slot_tuple_getitem.lookup) ?_ (by with_unfolding_all rfl)
  refine getItem_tuple_back ht (Heap.IsSliceOf.new _ .none .none vs) ps ?_ (by rw [List.size_toArray]; omega)
  refine ⟨.ref _, _, I5.laid (t' := s4.toks) (o := .tup xs.reverse) (fun b ob q => Heap.get?_push_of_some _ q) (Nat.le_refl _) ?_, rfl, q _ (I5.hok.fresh (Nat.le_refl _))⟩
  exact ⟨by rw [List.length_reverse]; exact hz, _, r.reverse, IsTup.new _ _⟩
end
end Mh
/-! A walk over a new dict, which stays locked. -/
namespace Mh
open PySem PyProof.Rows L2
def iKeysL (td : TE) : TI := fun σ H R => td σ H fun x H1 => ∃ d kvs, x = .ref d ∧ H1 d = some (.dK kvs) ∧ ∀ o, R (Itk d o kvs) (upd H1 d (.frz o (.dK kvs)))
section
variable {X : Cx} {tg e : Expr} {td : TE}
theorem pi_keysL (he : PE X e td) : PI X tg e (iKeysL td) := by
  refine ⟨fun pins s σ H R I h => ?_⟩
  refine thn (he.run pins s σ H _ I h) fun u s1 ⟨x, H1, I1, rx, d, kvs, ex, hd0, q⟩ => ?_
  subst ex
  obtain rfl : u = Value.ref d := rx
  obtain ⟨o, I2⟩ := I1.lock hd0 trivial
  have q := q o
  have hd : upd H1 d (.frz o (.dK kvs)) d = some (.frz o (.dK kvs)) := upd_same
  obtain ⟨hs, hgd, hx, es, ep, vs, hdt, hsz, kv, hm⟩ := I2.frzK hd
  refine iter_keys hs hgd hx hdt (pi_one (tk := s1.toks) I2 _ (turn_keys _ hdt) ⟨_, Heap.get?_push_size _ rfl, rfl, ?_⟩ q)
  rw [hsz] <;> rfl
end
end Mh
/-! dict(zip(xs, ys)), two lists of one length, the keys whole numbers or texts. -/
namespace Mh
open PySem PySem.Spec PyProof.Rows L2
def tZipD (K : PySem.W.Frag) (ta : TA) : TE := fun σ H Q => ta σ H fun vs H1 => ∃ (a b : Addr) (ks : List Key) (ys : List V), vs = [.ref a, .ref b] ∧ SqL K H1 a (ks.map kV) ∧ SqL K H1 b ys ∧
  ∀ p, H1 p = none → Q (.ref p) (upd H1 p (.dK (mergeK [] (ks.zip ys))))
theorem kv_zip : ∀ {ks : List Key} {ys : List V} {us : List Value}, Vals ys us → KV (ks.zip ys) (ks.zip us)
  | [], ys, us, r => by rw [List.zip_nil_left, List.zip_nil_left]; exact .nil
  | k :: ks, [], _, .nil => by rw [List.zip_nil_right, List.zip_nil_right]; exact .nil
  | k :: ks, y :: ys, u :: us, .cons h t => .cons ⟨rfl, h⟩ (kv_zip t)
section
variable {X : Cx} {e e2 : Expr} {ta : TA} {p0 p pos pos0 : Pos}
theorem pe_dictzip (hcalm : X.calm = true) (hg1 : Gl X "dict") (hm1 : X.mg "dict" = none) (hg : Gl X "zip") (hm : X.mg "zip" = none) (ha : PA X [e, e2] ta)
    (hs : starEach [e, e2] X.env = (false, eval e X.env) :: starEach [e2] X.env := by rfl) (hpl : (backTo pos (starEach [e2] X.env)).any (·.1) = false := by rfl) :
    PE X (.Call (.Name "dict" p0) [.Call (.Name "zip" p) [e, e2] [] pos] [] pos0) (tZipD X.K ta) := by
  refine ⟨fun pins s σ H Q I h => ?_⟩
  refine wpAny_Call_Name_kw (ld_blt I hg1 hm1 (u := .type "dict") (by rfl) ?_)
  refine PyProof.Rows.callWith_type1 ?_ rfl rfl
  show wpAny _ _ (spliced ((false, eval (.Call (.Name "zip" p) [e, e2] [] pos) X.env) :: backTo pos0 (starEach [] X.env))) _ _ s
  refine Calls.spliced_cons ?_
  refine Call_ (ld_blt I hg hm PyProof.Rows.boot_zip (PyProof.Rows.callWith_type1 (thn (ha.run pos pins s σ H _ I h) fun us s1 ⟨vs, H1, I1, r1, q1⟩ => ?_) hs hpl))
  obtain ⟨a, b, ks, ys, ex, hqx, hqy, q⟩ := q1
  subst ex
  cases r1 with
  | cons r rr =>
    cases rr with
    | cons r' rr =>
      cases rr
      cases r
      cases r'
      obtain ⟨its, rv, p1, hz1⟩ := I1.list hqx
      obtain ⟨its2, rv2, p2, _⟩ := I1.list hqy
      have la : a < s1.heap.objs.size := p1.lt
      have lb : b < s1.heap.objs.size := p2.lt
      have l1 : ks.length = its.length := by
        have e := rv.length
        rwa [List.length_map] at e
      have l2 : ys.length = its2.length := rv2.length
      refine call_zip_2 p1.isList p2.isList fun h' hz hTI hTO h1 h2 hsz hk => ?_
      have I2 : Inv X pins σ H1 { s1 with heap := h' } := I1.kept (t' := s1.toks) hk
      refine Calls.spliced_nil ?_
      have P := PairArg.zip (prog := X.prog) (w := X.w) (s1.heap.objs.size + 4) (s1.heap.objs.size + 2) (s1.heap.objs.size + 3) s1.heap.objs.size (s1.heap.objs.size + 1) a b (PySem.W.ktu_apart s1.heap.objs.size a b la lb) its.toArray its2.toArray
      have le5 : s1.heap.objs.size ≤ h'.objs.size := by rw [hsz]; exact Nat.le_add_right _ _
      have hm0 : (h'.objs.size == sysModules) = false := beq_eq_false_iff_ne.mpr (Nat.ne_of_gt (Nat.lt_of_lt_of_le I1.big le5))
      have mn : min its.toArray.size its2.toArray.size = (ks.zip its2).length := by
        rw [List.size_toArray, List.size_toArray, List.length_zip]
        omega
      rw [mn] at P
      refine PySem.call_dict_pairs (knd := mixKind X.prog X.w) (kvs := ks.zip its2) P (I2.ok.hd hcalm) ⟨hz, hTI, ⟨_, _, hTO⟩, h1, h2, p1.isList.at fun o e => hk _ o e, p2.isList.at fun o e => hk _ o e⟩ ⟨?_, ?_⟩ ?_ fun h'' tk hd' k => ?_
      · rfl
      · rintro i key v ⟨e1, e2⟩
        have e1 : its[i]? = some key := by simpa using e1
        have e2 : its2[i]? = some v := by simpa using e2
        have lt : i < ks.length := by
          have := (List.getElem?_eq_some_iff.mp e1).1
          omega
        have ek : ks[i]? = some ks[i] := List.getElem?_eq_getElem lt
        obtain ⟨u, hu, ru⟩ := rv.get (i := i) (x := kV ks[i]) (by rw [List.getElem?_map, ek]; rfl)
        rw [e1] at hu
        have hu := Option.some.inj hu
        subst hu
        refine ⟨ks[i], ?_, kV_is ru⟩
        rw [List.getElem?_zip_eq_some]
        exact ⟨ek, e2⟩
      · rw [List.length_map] at hz1
        rw [List.length_zip]
        omega
      · have kz : KV (ks.zip ys) (ks.zip its2) := kv_zip rv2
        have hlen : (mergeK [] (ks.zip ys)).length ≤ sizeLine := by
          refine Nat.le_trans (length_mergeK (ks.zip ys) []) ?_
          rw [List.length_nil, Nat.zero_add, List.length_zip]
          rw [List.length_map] at hz1
          omega
        have ka : ∀ b o, s1.heap.get? b = some o → h''.get? b = some o := fun c o e => by
          have lt := Heap.lt_size e
          refine k c o (fun z => ?_) (hk c o e)
          simp only [List.mem_cons, List.not_mem_nil, or_false] at z
          rcases z with e | e | e | e <;> rw [e] at lt <;> exact absurd lt (Nat.not_lt.mpr (by first | exact Nat.le_refl _ | exact Nat.le_add_right _ _))
        exact ⟨.ref h'.objs.size, upd H1 h'.objs.size (.dK (mergeK [] (ks.zip ys))), I1.laid (t' := tk) ka le5 (show ObjOk X.prog X.w _ _ _ (.dK (mergeK [] (ks.zip ys))) from ⟨hlen, hm0, merged [] (ks.zip its2), KV.merge kz .nil, hd'⟩), rfl, q _ (I1.hok.fresh le5)⟩
end
end Mh
/-! sorted of tuples (text, ..) of which no two have the same text. -/
namespace Mh
open PySem L2 PyProof.Rows
theorem ltS_swo {α : Type} (k : α → Str) : SrtO.Swo fun v u => ltS (k v) (k u) := by
  refine ⟨fun x y h => ltS_asym h, fun x y z h1 h2 => ?_⟩
  rw [ltS_no] at h1 h2 ⊢
  exact leS_trans h1 h2
/-- such a tuple at an address -/
def IsTx (h : Heap) (v : Value) (k : Str) : Prop := ∃ a o u rest n, v = .ref a ∧ h.get? a = some o ∧ o.cls = .type "tuple" ∧ o.data = .seq (Value.str k u :: rest).toArray n
theorem IsTx.keeps {h h' : Heap} {v : Value} {k : Str} (p : IsTx h v k) (q : ∀ b o, h.get? b = some o → o.cls = .type "tuple" → h'.get? b = some o) : IsTx h' v k := by
  obtain ⟨a, o, u, rest, n, e, ho, hc, hd⟩ := p
  exact ⟨a, o, u, rest, n, e, q a o ho hc, hc, hd⟩
section
variable {prog : Program} {w : World} {A : Around} {E : Value → Shared → Prop} {s : Shared}
theorem tx_cmp {vs : List Value} {k : Value → Str} (hp : ∀ v ∈ vs, IsTx s.heap v (k v)) (one : ∀ v ∈ vs, ∀ u ∈ vs, k v = k u → v = u) :
    SrtO.Cmp prog w A s (tuples' true) (fun p => p.1 ∈ vs) (SrtO.lt2 fun v u => ltS (k v) (k u)) := by
  intro p q hm hm'
  show wpAny (model prog w) A (keyLt' (tuples' true) p.1 q.1) (fun r s' => s' = s ∧ r = ltS (k p.1) (k q.1)) (fun _ _ => False) s
  by_cases e : p.1 = q.1
  · rw [← e]
    obtain ⟨a, o, u, rest, n, e1, ho, hc, hd⟩ := hp _ hm
    have er : ltS (k p.1) (k p.1) = false := ltS_irr _
    rw [er, e1]
    refine PySem.W.kat_lt ho hd ho hd (lex_same ⟨rfl, ?_⟩ _ _)
    simp
  · have ne : ¬ k p.1 = k q.1 := fun z => e (one _ hm _ hm' z)
    obtain ⟨a, o, u, rest, n, e1, ho, hc, hd⟩ := hp _ hm
    obtain ⟨a', o', u', rest', n', e2, ho', hc', hd'⟩ := hp _ hm'
    generalize k p.1 = x at ne hd ⊢
    generalize k q.1 = y at ne hd' ⊢
    rw [e1, e2]
    refine PySem.W.kat_lt ho hd ho' hd' ?_
    show PySem.W.KatLex prog w A true _ _ ((Value.str x u, Value.str y u') :: rest.zip rest') 0 s
    refine PySem.W.kat_cons (SeqAt.EqAt.str_str x u y u' prog w _ _ ?_)
    refine PySem.W.kat_go (fun q2 => ?_) (fun q2 => ?_)
    · have q2 : x = y := by simpa using q2
      exact absurd q2 ne
    · exact PySem.W.kat_no (oneLt_any_str ⟨rfl, rfl⟩)
theorem tx_firsts {h : Heap} {k : Value → Str} : ∀ {vs : List Value}, (∀ v ∈ vs, IsTx h v (k v)) → ∃ fs, PySem.W.KatTups h vs fs ∧ fs.length = vs.length ∧ ∀ f ∈ fs, ∃ x t, f = Value.str x t
  | [], _ => ⟨[], PySem.W.KatTups.nil, rfl, fun f hf => by cases hf⟩
  | v :: vs, hp => by
    obtain ⟨fs, h1, h2, h3⟩ := tx_firsts (vs := vs) fun u hu => hp u (List.mem_cons_of_mem _ hu)
    obtain ⟨a, o, u, rest, n, e, ho, hc, hd⟩ := hp v List.mem_cons_self
    subst e
    refine ⟨Value.str (k (.ref a)) u :: fs, PySem.W.KatTups.cons ho hc hd (by simp) h1, by rw [List.length_cons, List.length_cons, h2], fun f hf => ?_⟩
    rcases List.mem_cons.mp hf with z | z
    · exact ⟨_, _, z⟩
    · exact h3 f z
theorem sorted_txs {l : Addr} {vs : List Value} {k : Value → Str} {Q : Value → Shared → Prop} (hl : s.heap.IsList l vs.toArray) (hz : vs.length ≤ sizeLine) (hp : ∀ v ∈ vs, IsTx s.heap v (k v)) (one : ∀ v ∈ vs, ∀ u ∈ vs, k v = k u → v = u)
    (h : ∀ (h' : Heap) (d : Addr) (out : List Value), SrtO.Srtd (fun v u => ltS (k v) (k u)) out → out.Perm vs → (∀ b o, s.heap.get? b = some o → h'.get? b = some o) → s.heap.objs.size ≤ d → (∃ n, h'.get? d = some (seqObj "list" out.toArray n)) → Q (.ref d) { s with heap := h' }) :
    wpAny (model prog w) A (call (.builtin "sorted") [.ref l]) Q E s := by
  refine SrtO.sorted_ord (ltS_swo k) hl hz (fun h2 h₁ a ha kk h' keep => ?_) fun out hs hb => ?_
  · have hp' : ∀ v ∈ vs, IsTx h' v (k v) := fun v hm => (hp v hm).keeps fun b o e c => keep b o (fun z => by
      have e2 := ha
      rw [← z, (kk b o e).2] at e2
      cases e2
      exact absurd (Value.type.inj c) (by decide)) ((kk b o e).2)
    obtain ⟨fs, f1, f2, f3⟩ := tx_firsts hp'
    refine ⟨tuples' true, fun Q' E' hq => ?_, tx_cmp (s := { s with heap := h' }) hp' one⟩
    refine PySem.W.kat_kind (s := { s with heap := h' }) (T := .type "str") f1 (by omega) (fun f hf => ?_) (by rfl) ?_
    · obtain ⟨x, t, rfl⟩ := f3 f hf
      exact PySem.W.Looks.now
    · have e : (Value.type "str" != Value.type "tuple") = true := by decide
      rw [e]
      exact hq
  · exact h _ _ out hs hb.perm (fun b o e => sortedAll_old e) (Nat.le_succ _) (sortedAll_at s.heap vs out.toArray)
end
section
variable {X : Cx}
def rSortedTx (K : PySem.W.Frag) : List V → Hp → VK → Prop := fun vs H Q => ∃ (a : Addr) (xs : List V) (k : V → Str), vs = [V.ref a] ∧ SqL K H a xs ∧ (∀ x ∈ xs, ∃ t r, x = V.ref t ∧ SqT K H t (.str (k x) :: r)) ∧ (∀ x ∈ xs, ∀ y ∈ xs, k x = k y → x = y) ∧
  ∀ ys p, ys.Pairwise (fun x y => ltS (k y) (k x) = false) → ys.Perm xs → H p = none → Q (.ref p) (upd H p (.lst ys))
theorem cr_sortedTx : CallR X (.builtin "sorted") (rSortedTx X.K) := by
  intro pins s σ H vs us Q I r h
  obtain ⟨a, xs, k, rfl, hs, hx, one, q⟩ := h
  obtain ⟨its, rv, hl, hz⟩ := I.list hs
  obtain ⟨u, rfl, ru⟩ := vals1 r
  obtain rfl : u = Value.ref a := ru
  obtain ⟨e1, e2⟩ := refs_back rv fun x m => by
    obtain ⟨t, _, e, _⟩ := hx x m
    exact ⟨t, e⟩
  refine sorted_txs (k := fun u => k (backV u)) hl.isList (by rw [← rv.length]; exact hz) (fun v hv => ?_) (fun v hv u hu e => ?_) fun h' d out h1 h2 kp hd hn => ?_
  · obtain ⟨t, rfl⟩ := e2 v hv
    have hm : V.ref t ∈ xs := by rw [e1]; exact List.mem_map.mpr ⟨_, hv, rfl⟩
    obtain ⟨t', r', e, ht⟩ := hx _ hm
    cases e
    obtain ⟨its2, r2, ⟨o, ho, hc, n, hd⟩, _⟩ := I.tuple ht
    cases r2 with
    | cons q1 r2 =>
      obtain ⟨t1, rfl⟩ := q1
      exact ⟨t, o, t1, _, n, rfl, ho, hc, hd⟩
  · obtain ⟨t, rfl⟩ := e2 v hv
    obtain ⟨t', rfl⟩ := e2 u hu
    have hm : V.ref t ∈ xs := by rw [e1]; exact List.mem_map.mpr ⟨_, hv, rfl⟩
    have hm' : V.ref t' ∈ xs := by rw [e1]; exact List.mem_map.mpr ⟨_, hu, rfl⟩
    have z := one _ hm _ hm' e
    injection z with z
    rw [z]
  · have h3 : ∀ u ∈ out, ∃ a, u = Value.ref a := fun u hu => e2 u (h2.mem_iff.mp hu)
    obtain ⟨n, hn⟩ := hn
    have hb : (out.map backV).Perm xs := by
      rw [e1]
      exact h2.map backV
    refine ⟨.ref d, upd H d (.lst (out.map backV)), I.laid (t' := s.toks) kp hd ⟨?_, out, n, vals_back h3, hn⟩, rfl, q _ d (List.pairwise_map.mpr h1) hb (I.hok.fresh hd)⟩
    rw [hb.length_eq]
    exact hz
end
/-! pairs (name, place), sorted by name -/
theorem txs_uniq {α : Type} (k : α → Str) : ∀ {l m : List α}, l.Perm m → (∀ x ∈ l, ∀ y ∈ l, k x = k y → x = y) → l.Pairwise (fun x y => ltS (k y) (k x) = false) → m.Pairwise (fun x y => ltS (k y) (k x) = false) → l = m
  | [], m, p, _, _, _ => (List.nil_perm.mp p).symm
  | a :: l, [], p, _, _, _ => absurd p.length_eq (by simp)
  | a :: l, b :: m, p, i, h1, h2 => by
    have ma : a ∈ b :: m := p.mem_iff.mp List.mem_cons_self
    have mb : b ∈ a :: l := p.mem_iff.mpr List.mem_cons_self
    have e : a = b := by
      rcases List.mem_cons.mp ma with e | ha
      · exact e
      · rcases List.mem_cons.mp mb with e | hb
        · exact e.symm
        · exact i a List.mem_cons_self b mb (leS_antisymm (ltS_no.mp ((List.pairwise_cons.mp h1).1 b hb)) (ltS_no.mp ((List.pairwise_cons.mp h2).1 a ha)))
    subst e
    rw [txs_uniq k (List.Perm.cons_inv p) (fun x hx y hy => i x (List.mem_cons_of_mem _ hx) y (List.mem_cons_of_mem _ hy)) (List.pairwise_cons.mp h1).2 (List.pairwise_cons.mp h2).2]
/-- a pair (text, number), laid by itself -/
def TxAt (H : Hp) (x : V) (r : Str × Nat) : Prop := ∃ t, x = .ref t ∧ H t = some (.tup [.str r.1, .int (r.2 : Int)])
theorem TxAt.same {H H' : Hp} {x : V} {r : Str × Nat} (h : TxAt H x r) (s : Same H H') : TxAt H' x r := by
  obtain ⟨t, e, h1⟩ := h
  exact ⟨t, e, s _ _ h1⟩
/-- a pair's text, read off the heap -/
def kT (H : Hp) (x : V) : Str := match x with
  | .ref t => match H t with
    | some (.tup (.str s :: _)) => s
    | _ => Str.empty
  | _ => Str.empty
theorem kT_at {H : Hp} {x : V} {r : Str × Nat} (h : TxAt H x r) : kT H x = r.1 := by
  obtain ⟨t, e, h1⟩ := h
  subst e
  unfold kT
  dsimp only
  rw [h1]
/-- what such a sort asks -/
theorem txs_sorts {K : PySem.W.Frag} {H : Hp} {us : List V} {l : List (Str × Nat)} (h : Paired (TxAt H) us l) (nd : (l.map (·.1)).Nodup) :
    (∀ x ∈ us, ∃ t r, x = V.ref t ∧ SqT K H t (.str (kT H x) :: r)) ∧ ∀ x ∈ us, ∀ y ∈ us, kT H x = kT H y → x = y := by
  refine ⟨fun x hx => ?_, ?_⟩
  · obtain ⟨r, _, q⟩ := paired_mem h hx
    have e := kT_at q
    obtain ⟨t, ex, h1⟩ := q
    refine ⟨t, [.int (r.2 : Int)], ex, ?_⟩
    rw [e]
    exact SqT.of h1
  · have e := paired_map (fun x y q => kT_at q) h
    have nk : (us.map (kT H)).Nodup := by
      rw [e]
      exact nd
    clear e nd h
    induction us with
    | nil => intro x hx; cases hx
    | cons u us ih =>
      rw [List.map_cons, List.nodup_cons] at nk
      intro x hx y hy q
      rcases List.mem_cons.mp hx with ex | hx
      · rcases List.mem_cons.mp hy with ey | hy
        · rw [ex, ey]
        · exact absurd (List.mem_map.mpr ⟨y, hy, by rw [← q, ex]⟩) nk.1
      · rcases List.mem_cons.mp hy with ey | hy
        · exact absurd (List.mem_map.mpr ⟨x, hx, by rw [q, ey]⟩) nk.1
        · exact ih nk.2 x hx y hy q
/-- sorted pairs -/
theorem sort_txs {H H' : Hp} {us ys : List V} {l m : List (Str × Nat)} (h : Paired (TxAt H) us l) (i : ∀ x ∈ l, ∀ y ∈ l, x.1 = y.1 → x = y) (pm : ys.Perm us) (pw : ys.Pairwise fun x y => ltS (kT H y) (kT H x) = false) (s : Same H H') (lm : l.Perm m) (mw : m.Pairwise fun x y => ltS y.1 x.1 = false) :
    Paired (TxAt H') ys m := by
  obtain ⟨ws, w1, w2⟩ := paired_perm pm h
  have e := paired_map (fun x y q => kT_at q) w2
  have p2 : ws.Pairwise fun x y => ltS y.1 x.1 = false := by
    have q : (ys.map (kT H)).Pairwise fun x y => ltS y x = false := List.pairwise_map.mpr pw
    rw [e] at q
    exact List.pairwise_map.mp q
  have ew : ws = m := txs_uniq (fun x : Str × Nat => x.1) (w1.trans lm) (fun x hx y hy => i x (w1.mem_iff.mp hx) y (w1.mem_iff.mp hy)) p2 mw
  rw [← ew]
  exact paired_imp (fun x y q => q.same s) w2
end Mh
/-! Lambdas that stand on the heap, to be called later. -/
namespace Mh
open PySem PySem.Spec PyProof.Rows L2 LamX
/-- a lambda: at most one parameter, which has a number as default -/
structure Lm where
  params : Arguments
  body : Expr
  scope : Scope
  dflt : Option (Str × Int)
abbrev lq (X : Cx) : Str := X.env.qual ++ "<lambda>"
/-- a lambda at f, its defaults dV, its code object at c -/
def LamO (q : Str) (m : Lm) (cells : List (Str × Addr)) (dV : Value) (f c : Addr) : HO :=
  .ext fun h => ∃ pm ct doc : Value, h.get? f = some (PySem.W.kdv_obj "<lambda>" q m.params (.expr m.body) m.scope (cloFrom cells m.scope.names []) dV doc pm c ct)
def DvAt (H : Hp) (dV : Value) : Option (Str × Int) → Prop
  | none => dV = .none
  | some (_, n) => ∃ t, dV = .ref t ∧ H t = some (.tup [.int n])
def IsLm (X : Cx) (m : Lm) (H : Hp) (f : Addr) : Prop := ∃ c dV, H f = some (LamO (lq X) m X.env.cells dV f c) ∧ H c = some (CodeO c (lq X)) ∧ DvAt H dV m.dflt
theorem lamO_ok {P : Program} {w : World} {H : Hp} {h : Heap} {q : Str} {m : Lm} {cells : List (Str × Addr)} {dV doc : Value} {f c : Addr} {pm ct : Value} (e : h.get? f = some (PySem.W.kdv_obj "<lambda>" q m.params (.expr m.body) m.scope (cloFrom cells m.scope.names []) dV doc pm c ct)) :
    ObjOk P w H h f (LamO q m cells dV f c) := ⟨⟨pm, ct, doc, e⟩, ⟨_, e⟩, fun h1 h2 ⟨pm, ct, doc, z⟩ st => ⟨pm, ct, doc, st _ z⟩⟩
theorem lamO_ne {q : Str} {m : Lm} {cells : List (Str × Addr)} {dV : Value} {f c : Addr} (ps : Array Value) : LamO q m cells dV f c ≠ .tbl ps := fun z => by
  unfold LamO at z
  cases z
theorem DvAt.ext {H H' : Hp} {dV : Value} {o : Option (Str × Int)} (h : DvAt H dV o) (e : ExtN H H') : DvAt H' dV o := by
  cases o with
  | none => exact h
  | some p =>
    obtain ⟨t, h1, h2⟩ := h
    exact ⟨t, h1, e _ _ h2 fun ps z => by cases z⟩
theorem IsLm.ext {X : Cx} {m : Lm} {H H' : Hp} {f : Addr} (h : IsLm X m H f) (e : ExtN H H') : IsLm X m H' f := by
  obtain ⟨c, dV, h1, h2, h3⟩ := h
  exact ⟨c, dV, e _ _ h1 lamO_ne, e _ _ h2 codeO_ne, h3.ext e⟩
theorem IsLm.same {X : Cx} {m : Lm} {H H' : Hp} {f : Addr} (h : IsLm X m H f) (e : ∀ b o, H b = some o → H' b = some o) : IsLm X m H' f := h.ext (ExtN.of e)
section
variable {X : Cx} {pins : List (Addr × Obj)} {σ : L2.St} {H : Hp} {s : Shared}
/-- the function object is made, its defaults known -/
theorem lm_tail {T : List (Addr × Str)} {c P : Addr} {m : Lm} {pos : Pos} {dV : Value} {Q : VK} (I : Inv X pins σ H s) (TB : TabB X.base X.mg c P) (hcode : X.env.code = .ref c)
    (hm : (P, lq X) ∈ T) (hu : ∀ p ∈ T, p.1 = P → p.2 = lq X) (hT : Tabs T H) (hdv : DvAt H dV m.dflt) (hfree : ∀ y ∈ m.scope.names, y.2 = .free → ∃ c, X.env.cells.lookup y.1 = some c)
    (h : ∀ (f : Addr) (H1 : Hp), H f = none → Bt [P] H H1 → Tabs T H1 → IsLm X m H1 f → Q (.ref f) H1) :
    wpAny (model X.prog X.w) X.A (makeTail "<lambda>" (lq X) m.params (.expr m.body) m.scope X.env dV .none none pos pos.line) (EP X pins σ Q) X.xe s := by
  obtain ⟨ps, tabH, trip, among⟩ := hT _ hm
  have tab : s.heap.get? P = some { cls := .none, data := .fields ps } := I.hok P _ tabH
  have bi : s.heap.BuiltinsAt X.mg P := TB.bm.keeps I.bk
  cases found : codeAmong pos ps.toList with
  | none =>
    refine PySem.W.kdv_makeTail (mg := X.mg) (closure_ok hfree) I.ok.glob (I.mod.glob.keeps I.bk) hcode (TB.code.keeps I.bk) tab trip found TB.gP bi fun c' ctv doc h' tk ext ge lt rec tb => ?_
    obtain ⟨c2, oc, vs, t, e2, isC, dat, nam⟩ := rec
    cases e2
    have nC : H c' = none := I.hok.fresh ge
    have I1 := inv_table (t' := tk) (more := #[rawInt pos.line, rawInt pos.col, .ref c']) (h' := h') I tabH (fun b o hb e => ext b o hb e) tb ge ⟨oc, vs, t, isC, dat, nam⟩
    have nF : upd (upd H P (.tbl (ps ++ #[rawInt pos.line, rawInt pos.col, .ref c']))) c' (CodeO c' (lq X)) h'.objs.size = none := I1.hok.fresh (Nat.le_refl _)
    have hE : ExtN H (upd (upd H P (.tbl (ps ++ #[rawInt pos.line, rawInt pos.col, .ref c']))) c' (CodeO c' (lq X))) := fun b o e n => by
      have n1 : b ≠ c' := ne_of_none e nC
      have n2 : b ≠ P := fun z => by
        rw [z, tabH] at e
        exact n ps (Option.some.inj e).symm
      rw [upd_ne n1, upd_ne n2]
      exact e
    have up : (ps ++ #[rawInt pos.line, rawInt pos.col, .ref c']).toList = ps.toList ++ [rawInt pos.line, rawInt pos.col, .ref c'] := by simp
    have T1 : Tabs T (upd (upd H P (.tbl (ps ++ #[rawInt pos.line, rawInt pos.col, .ref c']))) c' (CodeO c' (lq X))) := fun p hp => by
      by_cases hb : p.1 = P
      · rw [hu p hp hb, hb]
        refine ⟨_, by rw [upd_ne (ne_of_none tabH nC), upd_same], by rw [up]; exact PySem.TriplesOk_snoc _ _ _ _ trip, fun q cv found => ?_⟩
        rw [up] at found
        rcases among_app _ trip found with z | z
        · obtain ⟨c0, e1, e2⟩ := among q cv z
          exact ⟨c0, e1, hE _ _ e2 codeO_ne⟩
        · exact ⟨c', z, upd_same⟩
      · obtain ⟨qs, a1, a2, a3⟩ := hT p hp
        refine ⟨qs, by rw [upd_ne (ne_of_none a1 nC), upd_ne hb]; exact a1, a2, fun q cv found => ?_⟩
        obtain ⟨c0, e1, e2⟩ := a3 q cv found
        exact ⟨c0, e1, hE _ _ e2 codeO_ne⟩
    have I2 := I1.laid (h' := h'.push (PySem.W.kdv_obj "<lambda>" (lq X) m.params (.expr m.body) m.scope (cloFrom X.env.cells m.scope.names []) dV doc ((X.mg "__name__").getD .none) c' ctv)) (t' := tk) (fun b u e => Heap.get?_push_of_some _ e) (Nat.le_refl h'.objs.size) (lamO_ok (q := lq X) (m := m) (cells := X.env.cells) (c := c') (Heap.get?_push_size _ rfl))
    have nH : H h'.objs.size = none := I.hok.fresh (Nat.le_trans ge (Nat.le_of_lt lt))
    have hB : Bt [P] H (upd (upd (upd H P (.tbl (ps ++ #[rawInt pos.line, rawInt pos.col, .ref c']))) c' (CodeO c' (lq X))) h'.objs.size (LamO (lq X) m X.env.cells dV h'.objs.size c')) := fun b o n e => by
      have n1 : b ≠ c' := ne_of_none e nC
      have n2 : b ≠ P := fun z => n (by rw [z]; exact List.mem_singleton.mpr rfl)
      have n3 : b ≠ h'.objs.size := ne_of_none e nH
      rw [upd_ne n3, upd_ne n1, upd_ne n2]
      exact e
    have hE2 : ExtN H (upd (upd (upd H P (.tbl (ps ++ #[rawInt pos.line, rawInt pos.col, .ref c']))) c' (CodeO c' (lq X))) h'.objs.size (LamO (lq X) m X.env.cells dV h'.objs.size c')) := hE.trans (ExtN.of fun b o e => (upd_ne (ne_of_none e nF)).trans e)
    refine ⟨.ref h'.objs.size, _, I2, rfl, h _ _ nH hB (T1.ext fun b o e => (upd_ne (ne_of_none e nF)).trans e) ⟨c', dV, upd_same, ?_, hdv.ext hE2⟩⟩
    exact (upd_ne (ne_of_none upd_same nF)).trans upd_same
  | some cv =>
    obtain ⟨c', e, isC⟩ := among pos cv found
    subst e
    refine PySem.W.kdv_makeTailHit (mg := X.mg) (closure_ok hfree) I.ok.glob (I.mod.glob.keeps I.bk) hcode (TB.code.keeps I.bk) tab trip found bi fun ctv doc h' tk ext sz => ?_
    have nF : H h'.objs.size = none := I.hok.fresh sz
    have I1 := I.laid (h' := h'.push (PySem.W.kdv_obj "<lambda>" (lq X) m.params (.expr m.body) m.scope (cloFrom X.env.cells m.scope.names []) dV doc ((X.mg "__name__").getD .none) c' ctv)) (t' := tk) (fun b u e => Heap.get?_push_of_some _ (ext _ _ e)) sz (lamO_ok (q := lq X) (m := m) (cells := X.env.cells) (c := c') (Heap.get?_push_size _ rfl))
    have hE : ∀ b o, H b = some o → upd H h'.objs.size (LamO (lq X) m X.env.cells dV h'.objs.size c') b = some o := fun b o e => (upd_ne (ne_of_none e nF)).trans e
    exact ⟨.ref h'.objs.size, _, I1, rfl, h _ _ nF (fun b o _ e => hE b o e) (hT.ext hE) ⟨c', dV, upd_same, hE _ _ isC, hdv.ext (ExtN.of hE)⟩⟩
end
def tLm (X : Cx) (P : Addr) (m : Lm) : TE := fun _ H Q => TabS H P (lq X) ∧ ∀ f H1, H f = none → Bt [P] H H1 → TabS H1 P (lq X) → IsLm X m H1 f → Q (.ref f) H1
/-- a lambda's names: what it catches, what is its own; its own ones are no slots of the maker -/
structure LamT (N : List Str) (sc scope : Scope) : Prop where
  kind : scope.kind = .function
  co : scope.isCoroutine = false
  gen : scope.isGenerator = false
  cell : ∀ y ∈ scope.names, y.2 ≠ .cell
  own : ∀ y ∈ scope.names, y.2 = .local → y.1 ∉ N
  free : ∀ y ∈ scope.names, y.2 = .free → sc.names.lookup y.1 = some .cell ∨ sc.names.lookup y.1 = some .free
def lamTB (N : List Str) (sc scope : Scope) : Bool :=
  decide (scope.kind = .function) && !scope.isCoroutine && !scope.isGenerator && scope.names.all fun y => !decide (y.2 = .cell) && (!decide (y.2 = .local) || !N.contains y.1) && (!decide (y.2 = .free) || decide (sc.names.lookup y.1 = some .cell) || decide (sc.names.lookup y.1 = some .free))
theorem lamT_by {N : List Str} {sc scope : Scope} (h : lamTB N sc scope = true) : LamT N sc scope := by
  unfold lamTB at h
  simp only [Bool.and_eq_true, Bool.or_eq_true, Bool.not_eq_true', decide_eq_true_eq, decide_eq_false_iff_not, List.all_eq_true] at h
  obtain ⟨⟨⟨h1, h2⟩, h3⟩, h4⟩ := h
  refine ⟨h1, h2, h3, fun y hy => (h4 y hy).1.1, fun y hy e => ?_, fun y hy e => ?_⟩
  · rcases (h4 y hy).1.2 with z | z
    · exact absurd e z
    · exact fun q => by
        rw [List.contains_iff_mem.mpr q] at z
        cases z
  · rcases (h4 y hy).2 with (z | z) | z
    · exact absurd e z
    · exact .inl z
    · exact .inr z
theorem LamT.has {X : Cx} {scope : Scope} {N : List Str} (L : LamT N X.env.scope scope) (ok : X.Ok) : ∀ y ∈ scope.names, y.2 = .free → ∃ c, X.env.cells.lookup y.1 = some c := fun y hy e => by
  rcases L.free y hy e with k | k
  · exact ok.has _ (.inl k)
  · exact ok.has _ (.inr k)
/-- lambda: body -/
theorem pe_lm {X : Cx} {c P : Addr} {params : Arguments} {body : Expr} {scope : Scope} {pos : Pos} (TB : TabB X.base X.mg c P) (hcode : X.env.code = .ref c) (L : LamT X.N X.env.scope scope) (hd : params.defaults = []) (hk : params.kw_defaults = []) :
    PE X (.Lambda params body scope pos) (tLm X P ⟨params, body, scope, none⟩) := by
  refine ⟨fun pins s σ H Q I ⟨hT, h⟩ => ?_⟩
  refine PySem.W.kla_eval (by rw [defaultsOf_eq, hd, hk]; rfl) ?_
  rw [makeFunction_eq]
  simp only [List.zip_nil_right, List.filterMap_nil, List.isEmpty_nil, if_true, pure_bind]
  exact lm_tail (T := [(P, lq X)]) (m := ⟨params, body, scope, none⟩) I TB hcode (List.mem_singleton.mpr rfl) (fun p hp _ => by rw [List.mem_singleton.mp hp]) (fun p hp => by rw [List.mem_singleton.mp hp]; exact hT) rfl (L.has I.ok)
    fun f H1 n b t i => h f H1 n b (t _ (List.mem_singleton.mpr rfl)) i
/-- lambda a=n: body -/
theorem pe_lmD {X : Cx} {c P : Addr} {params : Arguments} {body : Expr} {scope : Scope} {pos p2 : Pos} {a : Str} {n : Int} {j : Nat} (TB : TabB X.base X.mg c P) (hcode : X.env.code = .ref c) (L : LamT X.N X.env.scope scope) (hd : params.defaults = [.Constant (.int n) j p2]) (hk : params.kw_defaults = []) :
    PE X (.Lambda params body scope pos) (tLm X P ⟨params, body, scope, some (a, n)⟩) := by
  refine ⟨fun pins s σ H Q I ⟨hT, h⟩ => ?_⟩
  refine PySem.W.kdv_lam (by rw [hd]; rfl) hk ?_
  rw [hd]
  refine PySem.W.kdv_all1 (thn ((pe_int (X := X) (i := n) (j := j) (pos := p2)).run pins s σ H (fun v H1 => v = .int n ∧ H1 = H) I ⟨rfl, rfl⟩) fun u s1 ⟨v, H1, I1, r, ev, eH⟩ => PySem.W.kdv_all0 ?_)
  subst ev
  rw [eH] at I1
  rw [makeFunction_eq]
  simp only [List.zip_nil_right, List.filterMap_nil, List.isEmpty_nil, List.isEmpty_cons, Bool.false_eq_true, if_true, if_false, pure_bind]
  refine wpAny_bind (wpAny_newTextTuple ?_)
  have nt : H s1.heap.objs.size = none := I1.hok.fresh (Nat.le_refl _)
  have hE : ∀ b o, H b = some o → upd H s1.heap.objs.size (.tup [.int n]) b = some o := fun b o e => (upd_ne (ne_of_none e nt)).trans e
  have I2 := I1.laid (t' := s1.toks) (fun b u e => Heap.get?_push_of_some _ e) (Nat.le_refl s1.heap.objs.size) (show ObjOk X.prog X.w (upd H s1.heap.objs.size (.tup [.int n])) (s1.heap.push { cls := .type "tuple", data := .seq [u].toArray }) s1.heap.objs.size (.tup [.int n]) from
    ⟨by show 1 ≤ sizeLine; decide, [u], .cons r .nil, ⟨_, Heap.get?_push_size _ rfl, rfl, _, rfl⟩⟩)
  refine lm_tail (T := [(P, lq X)]) (m := ⟨params, body, scope, some (a, n)⟩) I2 TB hcode (List.mem_singleton.mpr rfl) (fun p hp _ => by rw [List.mem_singleton.mp hp]) (fun p hp => by rw [List.mem_singleton.mp hp]; exact hT.ext hE) ⟨_, rfl, upd_same⟩ (L.has I.ok)
    fun f H1 nf b t i => h f H1 ?_ (fun x o nx e => b x o nx (hE x o e)) (t _ (List.mem_singleton.mpr rfl)) i
  by_cases c : f = s1.heap.objs.size
  · rw [c]
    exact nt
  · rw [upd_ne c] at nf
    exact nf
/-! ### what stands at f may be called -/
/-- calling f over this base does tl -/
def Acts (P : Program) (w : World) (K : PySem.W.Frag) (mg : Str → Option Value) (base : Heap) (k : Nat) (f : Addr) (tl : XK → Hp → VK → Prop) : Prop :=
  ∀ (A : Around) (outer : List Env) (s1 : Shared) (HZ : Hp) (Q : VK) (E : XK), Room k A → Env0 P w K mg base A outer s1 HZ → tl E HZ Q →
    (∃ fd : FuncData, ∃ o, s1.heap.get? f = some { cls := .type "function", dict := o, data := .func fd }) ∧ codeAny (model P w) A (.call (.ref f) ⟨[], []⟩) (CR (L2.CX P w) outer P w HZ s1 Q E) s1
theorem Acts.mono {P : Program} {w : World} {K : PySem.W.Frag} {mg : Str → Option Value} {base : Heap} {j k : Nat} {f : Addr} {tl : XK → Hp → VK → Prop} (h : Acts P w K mg base j f tl) (l : j ≤ k) : Acts P w K mg base k f tl :=
  fun A outer s1 HZ Q E r e t => h A outer s1 HZ Q E (r.mono l) e t
/-- all that stands untracked at a state, but for the frames: a base for those who are called from it -/
def above_ (X : Cx) (s : Shared) (H : Hp) : Heap := hidT s.heap fun b => if b ∈ frs X.stack then some (.own 0) else H b
theorem above_get {X : Cx} {s : Shared} {H : Hp} {b : Addr} {o : Obj} (e : s.heap.get? b = some o) (n : H b = none) (nf : b ∉ frs X.stack) : (above_ X s H).get? b = some o := hidT_get e (by rw [if_neg nf]; exact n)
theorem above_of {X : Cx} {s : Shared} {H : Hp} {b : Addr} {o : Obj} (e : (above_ X s H).get? b = some o) : s.heap.get? b = some o ∧ H b = none ∧ b ∉ frs X.stack := by
  obtain ⟨h1, h2⟩ := of_hidT e
  by_cases c : b ∈ frs X.stack
  · rw [if_pos c] at h2
    cases h2
  · rw [if_neg c] at h2
    exact ⟨h1, h2, c⟩
theorem frames_at {h b1 b2 : Heap} : ∀ {l : List Env}, h.FunFrames b1 l → (∀ b ∈ frs l, b2.get? b = none) → h.FunFrames b2 l
  | [], _, _ => trivial
  | env :: l, ⟨k, ⟨L, o, e1, _, e3, e4⟩, r⟩, n => by
    have m : frs (env :: l) = L :: frs l := by
      unfold frs
      rw [List.filterMap_cons, e1]
    rw [m] at n
    exact ⟨k, ⟨L, o, e1, n L List.mem_cons_self, e3, e4⟩, frames_at r fun b hb => n b (List.mem_cons_of_mem _ hb)⟩
section
variable {X : Cx} {pins : List (Addr × Obj)} {σ : L2.St} {H : Hp} {s : Shared}
theorem above_base (I : Inv X pins σ H s) : ∀ b o, X.base.get? b = some o → (above_ X s H).get? b = some o := fun b o e => by
  obtain ⟨h1, h2⟩ := I.bs b o e
  refine above_get h1 h2 fun z => ?_
  have q := (I.stack.mem z).1
  rw [e] at q
  cases q
/-- from a body: what a callee over the base above wants -/
theorem above_env (I : Inv X pins σ H s) : Env0 X.prog X.w X.K X.mg (above_ X s H) X.A X.stack s H := by
  have k := above_base I
  obtain ⟨mb, h1, h2⟩ := I.mod.blt
  refine ⟨I.ok.frames, ⟨I.mod.kin.keeps k, I.mod.glob.keeps k, ⟨mb, h1.keeps k, h2⟩, I.mod.nolimit.keeps k⟩, fun b o e => ⟨(above_of e).1, (above_of e).2.1⟩, Nat.le_of_eq (hidT_size _ _), frames_at I.stack fun b hb => ?_, I.stkFree, I.hok, I.bare⟩
  cases e : (above_ X s H).get? b with
  | none => rfl
  | some o => exact absurd hb (above_of e).2.2
/-- and back to ours -/
theorem env_down {A : Around} {outer : List Env} {s1 : Shared} {HZ : Hp} (I : Inv X pins σ H s) (e : Env0 X.prog X.w X.K X.mg (above_ X s H) A outer s1 HZ) : Env0 X.prog X.w X.K X.mg X.base A outer s1 HZ := by
  have k := above_base I
  refine ⟨e.frames, I.mod, fun b o q => e.bs b o (k b o q), Nat.le_trans (Nat.le_trans I.ok.bsz I.sz) (Nat.le_trans (Nat.le_of_eq (hidT_size _ _).symm) e.bsz), frames_at e.funs fun b hb => ?_, e.frf, e.hok, e.bare⟩
  cases q : X.base.get? b with
  | none => rfl
  | some o =>
    have z := (e.funs.mem hb).1
    rw [k b o q] at z
    cases z
/-- the cells of a def's own frame are there -/
theorem above_cell {y : Str} {c : Addr} {o : Obj} (I : Inv X pins σ H s) (own : ∀ y, X.fn y = true) (hc : X.env.cells.lookup y = some c) (e : s.heap.get? c = some o) : (above_ X s H).get? c = some o := by
  refine above_get e (I.freeC y c hc) fun z => ?_
  rcases List.mem_cons.mp (I.stkSub _ z) with q | q
  · obtain ⟨v, o1, h1, h2⟩ := I.cell y c hc
    obtain ⟨m, ⟨o2, es, ep, h3, h4, _⟩, _⟩ := I.loc
    rw [q] at h1
    rw [h1] at h3
    cases h3
    rw [h4] at h2
    cases h2
  · obtain ⟨_, o1, h1, _⟩ := I.ok.funs.mem q
    exact absurd (Heap.lt_size h1) (Nat.not_lt.mpr (I.ok.cab y c (own y) hc))
end
section
variable {X : Cx} {pins : List (Addr × Obj)} {σ : L2.St} {H HZ : Hp} {s s1 : Shared}
/-- the frame of a lambda's body -/
theorem lm_start {A : Around} {outer : List Env} {E : XK} {scope : Scope} {f c' : Addr} {h₁ : Heap} {tk : Nat} {bs : List (Str × Value)} (I : Inv X pins σ H s) (L : LamT X.N X.env.scope scope) (e0 : Env0 X.prog X.w X.K X.mg X.base A outer s1 HZ) (hd : A.handled = none)
    (kept : ∀ y c o, X.env.cells.lookup y = some c → s.heap.get? c = some o → s1.heap.get? c = some o ∧ HZ c = none) (hns : h₁.Ns s1.heap.objs.size fun y => bs.reverse.lookup y) (kp : ∀ b o, s1.heap.get? b = some o → h₁.get? b = some o) :
    Inv (lamCx X A outer s1 HZ E scope f c') [] σ HZ { s1 with heap := h₁, toks := tk } := by
  have caught : ∀ {y c}, (cloFrom X.env.cells scope.names []).lookup y = some c → X.env.cells.lookup y = some c := fun {y c} e => by
    rcases cloFrom_mem (PySem.mem_of_lookup e) with z | ⟨z1, z2⟩
    · cases z
    · obtain ⟨c1, z3⟩ := L.has I.ok _ z1 rfl
      have z3 : X.env.cells.lookup y = some c1 := z3
      rw [z3] at z2
      have z2 : c = c1 := by rw [z2]; rfl
      rw [z2]
      exact z3
  have has : ∀ {y}, scope.names.lookup y = some .free → ∃ c, (cloFrom X.env.cells scope.names []).lookup y = some c := fun {y} hl =>
    mem_lookup (cloFrom_has (cells := X.env.cells) (acc := []) (PySem.mem_of_lookup hl))
  have stays : ∀ {y : Str} {c : Addr} {v : Option Value}, X.env.cells.lookup y = some c → s.heap.IsCell c v → h₁.IsCell c v := fun {y c v} n ⟨o, ho, hd⟩ => ⟨o, kp _ _ (kept y c o n ho).1, hd⟩
  have none_ : ∀ b : Addr, b ∉ (lamCx X A outer s1 HZ E scope f c').ex := fun b z => by
    have z : b ∈ ([] : List Addr) := z
    cases z
  have ok : (lamCx X A outer s1 HZ E scope f c').Ok := {
    mod := e0.mod
    kind := L.kind
    glob := rfl
    blt := rfl
    above := Nat.le_refl _
    inj := fun y z c e1 e2 => I.ok.inj y z c (caught e1) (caught e2)
    has := fun y hy => by
      rcases (show scope.names.lookup y = some .cell ∨ scope.names.lookup y = some .free from hy) with hy | hy
      · exact absurd rfl (L.cell _ (PySem.mem_of_lookup hy))
      · exact has hy
    cab := fun y c z _ => by
      have z : false = true := z
      cases z
    hd := fun _ => hd
    frames := Around.frames_deeper e0.frames
    stk := .inr ⟨rfl, rfl⟩
    exf := fun b z => absurd z (none_ b)
    bs := e0.bs
    bsz := e0.bsz
    noex := fun b _ _ => none_ b
    exfs := fun b z => absurd z (none_ b)
    funs := e0.funs
    frf := e0.frf }
  refine ⟨ok, rfl, e0.bare, Un.kept kp, ⟨_, hns, fun i y v e1 e2 e3 => ?_⟩, fun y c e => ?_, e0.hok.fresh (Nat.le_refl _), fun y c e => ?_, fun q hq => (by have z : q ∈ ([] : List (Addr × Obj)) ++ [] := hq; simp at z), e0.hok.kept kp, I.len⟩
  · rcases (show Vis scope y from e3) with z | z | z
    · exact absurd (List.mem_of_getElem? (show X.N[i]? = some y from e1)) (L.own _ (PySem.mem_of_lookup z) rfl)
    · exact absurd rfl (L.cell _ (PySem.mem_of_lookup z))
    · obtain ⟨m, hn, hl⟩ := I.loc
      have vis : Vis X.env.scope y := (L.free _ (PySem.mem_of_lookup z) rfl).elim (fun k => .inr (.inl k)) (fun k => .inr (.inr k))
      obtain ⟨u, r, q⟩ := hl i y v e1 e2 vis
      obtain ⟨c2, h2⟩ := has z
      have c1 := caught h2
      refine ⟨u, r, .inr ⟨.inr z, c2, h2, ?_⟩⟩
      rcases q with ⟨z1, _⟩ | ⟨_, c3, e4, z1⟩
      · have z1 : X.env.scope.names.lookup y = some .local := z1
        rcases L.free _ (PySem.mem_of_lookup z) rfl with z2 | z2
        · have z2 : X.env.scope.names.lookup y = some .cell := z2
          rw [z1] at z2
          cases z2
        · have z2 : X.env.scope.names.lookup y = some .free := z2
          rw [z1] at z2
          cases z2
      · rw [c1] at e4
        cases e4
        exact stays c1 z1
  · obtain ⟨u, z⟩ := I.cell y c (caught e)
    exact ⟨u, stays (caught e) z⟩
  · obtain ⟨v, o, ho, _⟩ := I.cell y c (caught e)
    exact (kept y c o (caught e) ho).2
/-- how a lambda's parameter is bound -/
def LmB (m : Lm) : Prop := match m.dflt with
  | none => ∀ (q : Str) (cl : List (Str × Addr)) (doc pm cv ct : Value), bindArgs (PySem.W.kdv_fn "<lambda>" q m.params (.expr m.body) m.scope cl .none doc pm cv ct) ⟨[], []⟩ = pure []
  | some (a, _) => m.scope.names.lookup a = some .local ∧ ∀ (q : Str) (cl : List (Str × Addr)) (t : Addr) (doc pm cv ct : Value), ∃ k, bindArgs (PySem.W.kdv_fn "<lambda>" q m.params (.expr m.body) m.scope cl (.ref t) doc pm cv ct) ⟨[], []⟩ = seqItems? (.ref t) >>= k ∧ ∀ v : Value, k (some #[v]) = pure [(a, v)]
/-- the maker's lambda, called by whomever -/
theorem lm_acts {m : Lm} {f : Addr} {k : Nat} {t : XK → TE} (I : Inv X pins σ H s) (own : ∀ y, X.fn y = true) (L : LamT X.N X.env.scope m.scope) (hbind : LmB m)
    (hbody : ∀ (A : Around) (outer : List Env) (s : Shared) (H : Hp) (E : XK) (f c' : Addr), Room k (A.deeper (lamEnv X m.scope s.heap.objs.size f c')) → PE (lamCx X A outer s H E m.scope f c') m.body (t E)) :
    Acts X.prog X.w X.K X.mg (above_ X s H) (k + 1) f fun E HZ Q => IsLm X m HZ f ∧ t E σ HZ Q := by
  intro A outer s1 HZ Q E hr eA ⟨⟨c', dV, hf, hc, hdv⟩, ht⟩
  have e0 := env_down I eA
  obtain ⟨⟨pm, ctv, doc, of1⟩, _, _⟩ := e0.hok f _ hf
  obtain ⟨⟨oc, vs, tq, isC, dat, nam⟩, _, _⟩ := e0.hok c' _ hc
  have lim : s1.heap.NoLimit := e0.mod.nolimit.keeps fun b o e => (e0.bs b o e).1
  obtain ⟨bs, bd, loc⟩ : ∃ bs, BindsTo s1 (PySem.W.kdv_fn "<lambda>" (lq X) m.params (.expr m.body) m.scope (cloFrom X.env.cells m.scope.names []) dV doc pm (.ref c') ctv) ⟨[], []⟩ bs ∧ ∀ y ∈ bs, m.scope.names.lookup y.1 = some .local := by
    unfold LmB at hbind
    unfold DvAt at hdv
    cases e : m.dflt with
    | none =>
      rw [e] at hbind hdv
      have hdv : dV = .none := hdv
      subst hdv
      exact ⟨[], .of_eq (hbind _ _ _ _ _ _), fun y hy => by cases hy⟩
    | some p =>
      obtain ⟨a, n⟩ := p
      rw [e] at hbind hdv
      obtain ⟨t, rfl, h2⟩ := hdv
      obtain ⟨b1, b2⟩ := hbind
      obtain ⟨kk, b3, b4⟩ := b2 (lq X) (cloFrom X.env.cells m.scope.names []) t doc pm (.ref c') ctv
      obtain ⟨_, its, r, o, ho, _, nn, hd⟩ := e0.hok t _ h2
      obtain ⟨u, rfl, _⟩ := vals1 r
      refine ⟨[(a, u)], BindsTo.of_defaults (T := t) rfl ho hd b3 (b4 u), fun y hy => ?_⟩
      rw [List.mem_singleton.mp hy]
      exact b1
  refine ⟨⟨_, _, of1⟩, PySem.W.kla_callFunE hr.depth of1 rfl L.co L.gen rfl ⟨c', oc, vs, tq, rfl, isC, dat, nam⟩ (bd _ _ _ _ ?_)⟩
  refine wpAny_newFunctionEnv (fun y hy => L.cell y hy) loc (fun h₁ ns1 sb1 => ⟨lim.fresh _ sb1, ?_⟩) L.kind
  have kp : ∀ b o, s1.heap.get? b = some o → h₁.get? b = some o := fun b o e => sb1.extBut b o (Nat.ne_of_lt (Heap.lt_size e)) (Heap.get?_push_of_some _ e)
  have J : Inv (lamCx X A outer s1 HZ E m.scope f c') [] σ HZ { s1 with heap := h₁, toks := s1.toks + bs.length } := lm_start I L e0 hr.hd (fun y c o hc ho => eA.bs c o (above_cell I own hc ho)) ns1 kp
  refine PySem.W.kla_codeExpr (thn ((hbody A outer s1 HZ E f c' (hr.deeper _)).run [] _ _ HZ Q J ht) fun v s' ⟨u, H', J', rv, q⟩ => ?_)
  exact ⟨u, H', J'.os, J'.bare, J'.base, J'.hok, rv, q⟩
end
/-- a lambda of X, its body's reading told: it may be called as long as X's frame stands so -/
structure LamD where
  m : Lm
  t : XK → TE
def LamOk (X : Cx) (k : Nat) (D : LamD) : Prop := ∀ (pins : List (Addr × Obj)) (σ : L2.St) (H : Hp) (s : Shared) (f : Addr), Inv X pins σ H s → Acts X.prog X.w X.K X.mg (above_ X s H) k f fun E HZ Q => IsLm X D.m HZ f ∧ D.t E σ HZ Q
/-- a lambda as a value, to be called later on -/
def tLmG (X : Cx) (P : Addr) (k : Nat) (D : LamD) : TE := fun σ H Q => TabS H P (lq X) ∧ (LamOk X k D → ∀ f H1, H f = none → Bt [P] H H1 → TabS H1 P (lq X) → IsLm X D.m H1 f → Q (.ref f) H1)
theorem pe_lmG {X : Cx} {c P : Addr} {k : Nat} {t : XK → TE} {params : Arguments} {body : Expr} {scope : Scope} {pos : Pos} (TB : TabB X.base X.mg c P) (hcode : X.env.code = .ref c) (L : LamT X.N X.env.scope scope) (hd : params.defaults = []) (hk : params.kw_defaults = []) (hb : LmB ⟨params, body, scope, none⟩) (own : ∀ y, X.fn y = true)
    (hbody : ∀ (A : Around) (outer : List Env) (s : Shared) (H : Hp) (E : XK) (f c' : Addr), Room k (A.deeper (lamEnv X scope s.heap.objs.size f c')) → PE (lamCx X A outer s H E scope f c') body (t E)) :
    PE X (.Lambda params body scope pos) (tLmG X P (k + 1) ⟨⟨params, body, scope, none⟩, t⟩) :=
  ⟨fun pins s σ H Q I ⟨hT, h⟩ => (pe_lm TB hcode L hd hk).run pins s σ H Q I ⟨hT, h fun pins σ H s f I => lm_acts I own L hb hbody⟩⟩
theorem pe_lmGD {X : Cx} {c P : Addr} {k : Nat} {t : XK → TE} {params : Arguments} {body : Expr} {scope : Scope} {pos p2 : Pos} {a : Str} {n : Int} {j : Nat} (TB : TabB X.base X.mg c P) (hcode : X.env.code = .ref c) (L : LamT X.N X.env.scope scope) (hd : params.defaults = [.Constant (.int n) j p2]) (hk : params.kw_defaults = []) (hb : LmB ⟨params, body, scope, some (a, n)⟩) (own : ∀ y, X.fn y = true)
    (hbody : ∀ (A : Around) (outer : List Env) (s : Shared) (H : Hp) (E : XK) (f c' : Addr), Room k (A.deeper (lamEnv X scope s.heap.objs.size f c')) → PE (lamCx X A outer s H E scope f c') body (t E)) :
    PE X (.Lambda params body scope pos) (tLmG X P (k + 1) ⟨⟨params, body, scope, some (a, n)⟩, t⟩) :=
  ⟨fun pins s σ H Q I ⟨hT, h⟩ => (pe_lmD (a := a) TB hcode L hd hk).run pins s σ H Q I ⟨hT, h fun pins σ H s f I => lm_acts I own L hb hbody⟩⟩
/-- the call of what was handed in -/
theorem pe_acts {Z : Cx} {P : Program} {w : World} {K : PySem.W.Frag} {mg : Str → Option Value} {base : Heap} {W : WX} {k i : Nat} {a : Str} {p1 p2 : Pos} (eP : Z.prog = P) (ew : Z.w = w) (eK : Z.K = K) (em : Z.mg = mg) (eb : Z.base = base)
    (tk : Takes Z W) (hr : Room k Z.A) (hN : Z.N[i]? = some a) (hv : Vis Z.env.scope a) (hd : (a == ("__debug__" : Str)) = false := by decide) (hcd : (a == ("__classdict__" : Str)) = false := by decide) :
    PE Z (.Call (.Name a p1) [] [] p2) (fun σ H Q => ∃ (f : Addr) (tl : XK → Hp → VK → Prop), σ[i]? = some (some (.ref f)) ∧ Acts P w K mg base k f tl ∧ tl (WE W σ) H Q) := by
  subst eP ew eK em eb
  refine ⟨fun pins s σ H Q I ⟨f, tl, hs, ac, ht⟩ => ?_⟩
  refine wpAny_Call_Name_kw (thn ((pe_var (pos := p1) (i := i) hN hv hd hcd).run pins s σ H (fun v H1 => v = .ref f ∧ H1 = H) I ⟨.ref f, hs, rfl, rfl⟩) fun u s1 ⟨v, H1, I1, r1, ev, eH⟩ => ?_)
  subst ev
  rw [eH] at I1
  obtain rfl : u = Value.ref f := r1
  obtain ⟨⟨fd, od, isF⟩, run⟩ := ac Z.A Z.stack s1 H Q (WE W σ) hr I1.env0 ht
  refine PySem.W.callWith_F0 ⟨_, _, _, _, isF⟩ (wpAny_call (codeAny_mono run fun r s' hq => ?_))
  cases r with
  | error e => exact passAt tk σ pins H s1 e s' I1 hq
  | ok fl =>
    cases fl with
    | ret u => exact I1.after hq
    | next => exact hq.elim
    | brk => exact hq.elim
    | cont => exact hq.elim
end Mh
/-! Defs that are told of the state at their call; what a suite asks of a caught refusal. -/
namespace Mh
open PySem PySem.Spec PyProof.Rows L2 LamX
section
variable {P : Program} {w : World} {K : PySem.W.Frag} {mg : Str → Option Value} {base : Heap}
/-- a def's promise, its code object known -/
theorem okC {x qual : Str} {st : Stmt} {f : Addr} {fd : FuncData} {N ps : List Str} {k : Nat} {sp : Sp} (F : Fun K x qual st f fd) (S : FnScope N ps (defScope st)) (len : ∀ vs H Q E, sp vs H Q E → vs.length = ps.length)
    (hbody : ∀ (cdv : Value), cdv = fd.code → ∀ (A : Around) (outer : List Env) (s : Shared) (H : Hp) (vs : List V) (Q : VK) (E : XK), Room k (A.deeper (envOfC qual (defScope st) s.heap.objs.size f cdv)) → sp vs H Q E →
      ∃ t, PSs (cxOf CX0 P w K mg base N qual (defScope st) f cdv A outer s H E).nox (defBody st) t ∧ t { nx := fun _ H' => Q .non H', rt := Q } (start N vs) H) : FnOk P w K mg base CX0 (k + 1) f fd ps sp := by
  obtain ⟨oc, od, kV, doc, pm, an, cdv, ct, osl, e, lk, hcd⟩ := F.ex
  subst e
  refine fn_of lk hcd S len fun A outer s H vs Q E hr hsp => ?_
  obtain ⟨t, h, q⟩ := hbody cdv rfl A outer s H vs Q E hr hsp
  exact ⟨t, h.nox, q⟩
variable {CX : CXT} {k : Nat} {f : Addr} {fd : FuncData} {ps : List Str} {sp sp2 : Sp}
/-- what lets nothing out lets nothing out -/
theorem FnOk.lift (F : FnOk P w K mg base CX0 k f fd ps sp) : FnOk P w K mg base CX k f fd ps sp := ⟨F.len, fun A outer s H args us vs Q E hr e0 hb r h => codeAny_mono (F.run A outer s H args us vs Q E hr e0 hb r h) fun rr s2 q => by
  cases rr with
  | error u => exact (show False from q).elim
  | ok fl => cases fl <;> exact q⟩
/-- two promises of one def -/
theorem FnOk.or (F : FnOk P w K mg base CX k f fd ps sp) (G : FnOk P w K mg base CX k f fd ps sp2) : FnOk P w K mg base CX k f fd ps fun vs H Q E => sp vs H Q E ∨ sp2 vs H Q E :=
  ⟨fun vs H Q E h => h.elim (F.len vs H Q E) (G.len vs H Q E), fun A outer s H args us vs Q E hr e0 hb r h => h.elim (F.run A outer s H args us vs Q E hr e0 hb r) (G.run A outer s H args us vs Q E hr e0 hb r)⟩
end
/-- a lambda's body lets out what its caller takes -/
theorem pass_lam {P : Program} {w : World} {X : Cx} {A : Around} {outer : List Env} {s : Shared} {H : Hp} {E : XK} {scope : Scope} {f c' : Addr} (eP : X.prog = P) (ew : X.w = w) : Passes (L2.CX P w) (lamCx X A outer s H E scope f c') E := by
  subst eP ew
  exact passes_call (takes_of rfl rfl rfl rfl) fun _ _ _ _ h => h
/-- a def's body that raises -/
theorem pass_def {P : Program} {w : World} {K : PySem.W.Frag} {mg : Str → Option Value} {base : Heap} {N : List Str} {q : Str} {sc : Scope} {f : Addr} {cdv : Value} {A : Around} {outer : List Env} {s : Shared} {H : Hp} {E : XK} :
    Passes (L2.CX P w) (cxOf (L2.CX P w) P w K mg base N q sc f cdv A outer s H E) E := passes_call (takes_of rfl rfl rfl rfl) fun _ _ _ _ h => h
theorem take_def {P : Program} {w : World} {K : PySem.W.Frag} {mg : Str → Option Value} {base : Heap} {N : List Str} {q : Str} {sc : Scope} {f : Addr} {cdv : Value} {A : Around} {outer : List Env} {s : Shared} {H : Hp} {E : XK} :
    Takes (cxOf (L2.CX P w) P w K mg base N q sc f cdv A outer s H E) (fun cls d _ H => E cls d H) := takes_of rfl rfl rfl rfl
/-- a def called whose promise stands over every base: over the base above, where what was untracked stays -/
theorem pe_callAt {Z : Cx} {k : Nat} {f : Addr} {fd : FuncData} {ps : List Str} {sp : Heap → Sp} {x : Str} {p pos : Pos} {e : Expr} {es : List Expr} {t : TA} {rd : L2.St → List V → Hp → VK → Prop}
    (F : ∀ base : Heap, FnOk Z.prog Z.w Z.K Z.mg base CX0 k f fd ps (sp base)) (hr : Room k Z.A) (hg : Gl Z x) (hm : Z.mg x = some (.ref f)) (hk : PySem.W.keepIn Z.K (.ref f) = true) (hb : Binds Z.K fd ps []) (ha : PA Z (e :: es) t)
    (br : ∀ (pins : List (Addr × Obj)) (s : Shared) (σ : L2.St) (H : Hp) (vs : List V) (Q : VK), Inv Z pins σ H s → rd σ vs H Q → sp (above_ Z s H) vs H Q E0)
    (hdb : (x == ("__debug__" : Str)) = false := by decide) (he : starEach (e :: es) Z.env = (false, eval e Z.env) :: starEach es Z.env := by rfl) (hpl : (backTo pos (starEach es Z.env)).any (·.1) = false := by rfl) :
    PE Z (.Call (.Name x p) (e :: es) [] pos) (fun σ H Q => t σ H fun vs H1 => rd σ vs H1 Q) := by
  refine ⟨fun pins s σ H Q I h => ?_⟩
  refine wpAny_Call_Name_kw (ld_glob I hg hm ?_ hdb)
  refine PySem.W.callWith_K (h₀ := Z.base) I.ok.mod.kin hk (thn (ha.run pos pins s σ H _ I h) fun us s1 ⟨vs, H1, I1, r, q⟩ => ⟨I1.kIn, ?_⟩) he hpl
  have hsp := br pins s1 σ H1 vs Q I1 q
  have G := F (above_ Z s1 H1)
  have lus : us.length = ps.length := by
    rw [← r.length]
    exact G.len _ _ _ _ hsp
  have bd := hb s1 us I1.kIn (by rw [List.append_nil]; exact lus)
  rw [List.append_nil] at bd
  refine wpAny_call (codeAny_mono (G.run Z.A Z.stack s1 H1 ⟨us, []⟩ us vs Q E0 hr (above_env I1) bd r hsp) fun rr s2 hq => ?_)
  cases rr with
  | error u => exact (show False from hq).elim
  | ok fl =>
    cases fl with
    | ret u => exact I1.after hq
    | next => exact hq.elim
    | brk => exact hq.elim
    | cont => exact hq.elim
/-- isinstance(e, c) in a suite, whatever was caught -/
def rIsC (K : PySem.W.Frag) (a : Addr) (cls : Value) (d : Option Addr) : List V → Hp → VK → Prop := fun xs H Q => ∃ D, cls = .ref D ∧ d = none ∧ ExcC K D ∧ rIsE K D a xs H Q
theorem call_isC {X : Cx} {a : Addr} {cls : Value} {d : Option Addr} {oe : Obj} {pn : List (Addr × Obj)} (hz : Zc cls d oe) (hf : ∃ vs, oe.data = .fields vs) : CallR (X.suite a ((a, oe) :: pn)) (.builtin "isinstance") (rIsC X.K a cls d) := by
  intro pins s σ H xs us Q I r ⟨D, e1, e2, C, h⟩
  subst e1 e2
  exact call_isE C hz hf pins s σ H xs us Q I r h
/-- the classes of refusals: D is the j-th of cs -/
structure ExR (K : PySem.W.Frag) (HE : Addr) (cs : List Addr) (j : Nat) (D : Addr) : Prop where
  at_ : cs[j]? = some D
  c : ExcC K D
  m : PySem.W.exmOne K (.ref D) (.ref HE) = some true
  v : PySem.W.kitOne K (.ref D) (.type "ValueError") = some true
  i : ∀ i C, cs[i]? = some C → PySem.W.kitOne K (.ref D) (.ref C) = some (decide (i = j))
  q : PySem.W.excIn K D He.veBase "ValueError.__new__" = true
  k : PySem.W.keepIn K (.ref D) = true
  r : PySem.W.typeIn K (.ref D) = some (.type "type")
def eqB (a b : Option Bool) : Bool := decide (a = b)
def eqV2 (a b : Option Value) : Bool := decide (a = b)
def exRB (K : PySem.W.Frag) (HE : Addr) (cs : List Addr) (j : Nat) (D : Addr) : Bool :=
  (decide (cs[j]? = some D) && He.eqO (PySem.W.findIn K (.ref D) "__getattribute__") (some (some (.builtin "BaseException.__getattribute__"))) && He.eqO (PySem.W.findIn K (.ref D) "__getattr__") (some none) && eqB (PySem.W.subIn K (.ref D) (.type "BaseException")) (some true)) &&
  (PySem.W.hasDictIn K D && He.eqO (PySem.W.findIn K (.ref D) "__class__") (some (some (.builtin "object.__class__"))) && He.eqO (PySem.W.specialIn K (.builtin "object.__class__") "__get__") (some (some (.builtin "getset_descriptor.__get__"))) && eqB (PySem.W.takesIn K (.builtin "object.__class__")) (some true)) &&
  (eqB (PySem.W.mroIn K D (.type "object")) (some true) && eqB (PySem.W.exmOne K (.ref D) (.ref HE)) (some true) && eqB (PySem.W.kitOne K (.ref D) (.type "ValueError")) (some true)) &&
  ((List.range cs.length).all (fun i => eqB (PySem.W.kitOne K (.ref D) (.ref (cs.getD i 0))) (some (decide (i = j)))) && PySem.W.excIn K D He.veBase "ValueError.__new__" && PySem.W.keepIn K (.ref D) && eqV2 (PySem.W.typeIn K (.ref D)) (some (.type "type")))
theorem exRB_ok {K : PySem.W.Frag} {HE : Addr} {cs : List Addr} {j : Nat} {D : Addr} (h : exRB K HE cs j D = true) : ExR K HE cs j D := by
  unfold exRB at h
  simp only [Bool.and_eq_true] at h
  obtain ⟨⟨⟨⟨⟨⟨a1, a2⟩, a3⟩, a4⟩, ⟨⟨b1, b2⟩, b3⟩, b4⟩, ⟨c1, c2⟩, c3⟩, ⟨⟨d1, d2⟩, d3⟩, d4⟩ := h
  refine ⟨of_decide_eq_true a1, ⟨He.eqO_ok a2, He.eqO_ok a3, of_decide_eq_true a4, b1, He.eqO_ok b2, He.eqO_ok b3, of_decide_eq_true b4, of_decide_eq_true c1⟩, of_decide_eq_true c2, of_decide_eq_true c3, fun i C hi => ?_, d2, d3, of_decide_eq_true d4⟩
  have lt := (List.getElem?_eq_some_iff.mp hi).1
  have q := of_decide_eq_true (List.all_eq_true.mp d1 i (List.mem_range.mpr lt))
  have e : cs.getD i 0 = C := by rw [List.getD_eq_getElem?_getD, hi]; rfl
  rw [e] at q
  exact q
theorem ExR.raises {X : Cx} {HE : Addr} {cs : List Addr} {j : Nat} {D : Addr} (h : ExR X.K HE cs j D) : Raises X (.ref D) := raises_own h.c.hs h.r
/-- raise D('text') -/
theorem ps_refuse {X : Cx} {W : WX} {HE : Addr} {cs : List Addr} {j : Nat} {D : Addr} {x m : Str} {jj : Nat} {p p2 pos pos2 : Pos} (h : ExR X.K HE cs j D) (hc : X.calm = true) (tk : Takes X W) (gC : X.mg x = some (.ref D)) (hg : Gl X x) (hdb : (x == ("__debug__" : Str)) = false := by decide) :
    PS X (.Raise (some (.Call (.Name x p) [.Constant (.str m) jj p2] [] pos)) none pos2) (fun _ σ H => W (.ref D) none σ H) :=
  ps_raise hc tk (pmk_own PySem.F.excBase_ValueError h.q gC h.k h.raises hg hdb)
/-- what is never reckoned -/
theorem pe_never {X : Cx} {e : Expr} : PE X e (fun _ _ _ => False) := ⟨fun _ _ _ _ _ _ h => h.elim⟩
section
variable {X : Cx}
/-- l.count(y), plain things -/
def rCntF (K : PySem.W.Frag) : V → List V → Hp → VK → Prop := fun x xs H Q => ∃ (p : Addr) (ys : List V) (y : V), x = .ref p ∧ xs = [y] ∧ SqL K H p ys ∧ flatV y = true ∧ ys.all flatV = true ∧ Q (.int ((ys.countP fun z => eqV z y : Nat) : Int)) H
theorem cnt_flat {y : V} : ∀ {ys : List V} {us : List Value}, Vals ys us → ys.all flatV = true → us.countP (eqU y) = ys.countP fun z => eqV z y
  | _, _, .nil, _ => rfl
  | z :: ys, u :: us, .cons r t, f => by
    rw [List.all_cons, Bool.and_eq_true] at f
    rw [List.countP_cons, List.countP_cons, cnt_flat t f.2, eqU_of r f.1]
theorem mt_countF : MtR X "list.count" (rCntF X.K) := by
  intro pins s σ H x xs v us Q I rx rxs h
  obtain ⟨p, ys, y, rfl, rfl, hs, fy, fys, q⟩ := h
  cases rx
  obtain ⟨u, rfl, ru⟩ := rxs.one
  obtain ⟨its, rv, ⟨⟨cls, dd, data, sl⟩, n, ho, hc, hdn, hd⟩, hlen⟩ := I.list hs
  simp only at hc hd
  subst hc hd
  refine call_meets PySem.F.slot_list_count ⟨_, ho, rfl⟩ PySem.F.entry_list_count (PySem.F.args_list_count_2 _ _) (SeqAt.list_countAt p its.toArray n dd sl u (eqU y)) ⟨ho, fun u' hu' => mem_eqAt ru fy rv fys u' (by simpa using hu'), ?_⟩
  refine ⟨.int ((ys.countP fun z => eqV z y : Nat) : Int), H, I.tok _, ⟨s.toks, ?_⟩, q⟩
  have ec : its.toArray.toList.countP (eqU y) = ys.countP fun z => eqV z y := cnt_flat rv fys
  rw [ec]
theorem mtK_countF {K : PySem.W.Frag} (e : X.K = K) : MtR X "list.count" (rCntF K) := by subst e; exact mt_countF
theorem mtK_index {K : PySem.W.Frag} (e : X.K = K) : MtR X "list.index" (rIndex K) := by subst e; exact mt_index
theorem pass0S {σ : L2.St} {E : XK} : PassesAt CX0 X σ E := fun _ _ _ _ _ _ h => h.elim
end
/-- a law that makes lambdas: its table of code objects is empty ahead -/
def spLawT (K : PySem.W.Frag) (tb : Addr) : Sp := fun vs H Q _ => ∃ (a : Addr) (ns : List Int), vs = [.ref a] ∧ SqL K H a (ns.map V.int) ∧ ns.length ≤ 63 ∧ H tb = some (.tbl #[]) ∧ ∀ H', Q (.bl true) H'
/-- the end of such a law -/
theorem walk_tabE {l : PySem.W.OpenLaw} {n k : Nat} {q : Program} {loose : List Str} {XP : (Str → Option Value) → Heap → Prop} {YP : World → Heap → Prop} {d : DefRec} {CX : CXT} {x : Str}
    (most : l.most = some n) (small : n ≤ sizeLine) (plain : d.params.defaults = []) (room : Room k callerA)
    (F : ∀ (w : World) (mg : Str → Option Value) (fa : Addr) (h : Heap), YP w h → h.Ns mainGlobals mg → mg d.name = some (.ref fa) → ∃ K : PySem.W.Frag, K.In h ∧ LawAtS l w K CX k n x mg fa h)
    (never : ∀ (H : Hp) (s : Shared) (e : Value) (s' : Shared), CX [] H s (fun _ _ _ => False) e s' → False) :
    PySem.W.WalkO q loose XP YP l.row.toRowW d [] (fun f vs => PySem.call f vs) := by
  refine Att.attach_callB most plain fun w t0 t1 mg mb fa ob pm cdo dc a vs ns G Y _ _ _ there is_ whole short bits gens => ?_
  obtain ⟨K, inK, fd, cs, sp, empty, out, code, binds, wish, ok⟩ := F w mg fa _ Y G.T.g there
  exact law_callTs inK G.T.g G.T.b G.T.builtins G.T.nolimit gens empty out code G.T.bmain is_ whole (Nat.le_trans short small) room ok binds (fun H tabs seq => wish H a ns short bits tabs seq) fun H e s' => never H t1 e s'
/-- what is told of tables of code objects -/
theorem tabs_of {g : Addr → Option Obj} {as : List Addr} {tf : List He.Defn} (h : He.tabsB g tf (He.frT g as) = true) : ∀ p ∈ tf, PySem.W.codeHdIn (He.frT g as) (He.cT (He.frT g as) p).1 (He.cT (He.frT g as) p).2 = true ∧ (He.frT g as).lookup (He.cT (He.frT g as) p).2 = none ∧ g (He.cT (He.frT g as) p).2 = some { cls := .none, data := .fields #[] } := fun p hp => by
  have q := List.all_eq_true.mp h p hp
  obtain ⟨q1, q2⟩ := He.ba q
  refine ⟨q1, ?_⟩
  cases e : g (He.cT (He.frT g as) p).2 with
  | none =>
    rw [e] at q2
    cases q2
  | some o =>
    rw [e] at q2
    exact ⟨He.frT_none e q2, by rw [He.emptyTab_eq q2]⟩
/-- a def's code object -/
theorem code_of {K : PySem.W.Frag} {p : Str × Option Str} {q : Str} {oc : Value} {od : Option Addr} {osl : Array (Option Value)} {fd : FuncData} (lk : K.lookup (He.fAd K p) = some ⟨oc, od, .func fd, osl⟩) (c : PySem.W.codeIn K fd.code q = true) : fd.code = .ref (He.cT K p).1 := by
  obtain ⟨a, e⟩ := He.codeIn_ref c
  rw [e]
  exact congrArg Value.ref (He.codeOf_eq lk e).symm
end Mh
namespace Mh
open PySem L2
def top (i : Nat) : Stmt := PySem.Challenge.pw_measurehall_k11_halls_that_are_full.main.body.getD i (.Pass ⟨0, 0, 0, 0⟩)
abbrev s_is_number : Stmt := top 29
abbrev N_is_number : List Str := ["value", "low", "high"]
theorem sc_is_number : FnScope N_is_number ["value", "low", "high"] (defScope s_is_number) := ⟨rfl, rfl, rfl, by decide +kernel, rfl, by decide +kernel, by decide +kernel⟩
abbrev s_is_question : Stmt := top 30
abbrev N_is_question : List Str := ["value"]
theorem sc_is_question : FnScope N_is_question ["value"] (defScope s_is_question) := ⟨rfl, rfl, rfl, by decide +kernel, rfl, by decide +kernel, by decide +kernel⟩
abbrev s_is_seed : Stmt := top 31
abbrev N_is_seed : List Str := ["value"]
theorem sc_is_seed : FnScope N_is_seed ["value"] (defScope s_is_seed) := ⟨rfl, rfl, rfl, by decide +kernel, rfl, by decide +kernel, by decide +kernel⟩
abbrev s_is_divisor : Stmt := top 32
abbrev N_is_divisor : List Str := ["value"]
theorem sc_is_divisor : FnScope N_is_divisor ["value"] (defScope s_is_divisor) := ⟨rfl, rfl, rfl, by decide +kernel, rfl, by decide +kernel, by decide +kernel⟩
abbrev s_is_known : Stmt := top 33
abbrev N_is_known : List Str := ["numbers", "one", "other", "number"]
theorem sc_is_known : FnScope N_is_known ["numbers"] (defScope s_is_known) := ⟨rfl, rfl, rfl, by decide +kernel, rfl, by decide +kernel, by decide +kernel⟩
abbrev s_is_test : Stmt := top 34
abbrev N_is_test : List Str := ["test", "bound", "divisor", "rest", "numbers"]
theorem sc_is_test : FnScope N_is_test ["test"] (defScope s_is_test) := ⟨rfl, rfl, rfl, by decide +kernel, rfl, by decide +kernel, by decide +kernel⟩
abbrev s_is_answer : Stmt := top 35
abbrev N_is_answer : List Str := ["answer", "number", "divisor"]
theorem sc_is_answer : FnScope N_is_answer ["answer"] (defScope s_is_answer) := ⟨rfl, rfl, rfl, by decide +kernel, rfl, by decide +kernel, by decide +kernel⟩
abbrev s_is_row : Stmt := top 36
abbrev N_is_row : List Str := ["row"]
theorem sc_is_row : FnScope N_is_row ["row"] (defScope s_is_row) := ⟨rfl, rfl, rfl, by decide +kernel, rfl, by decide +kernel, by decide +kernel⟩
abbrev s_check_machine : Stmt := top 37
abbrev N_check_machine : List Str := ["machine", "at", "row"]
theorem sc_check_machine : FnScope N_check_machine ["machine"] (defScope s_check_machine) := ⟨rfl, rfl, rfl, by decide +kernel, rfl, by decide +kernel, by decide +kernel⟩
abbrev s_check_seed : Stmt := top 38
abbrev N_check_seed : List Str := ["seed"]
theorem sc_check_seed : FnScope N_check_seed ["seed"] (defScope s_check_seed) := ⟨rfl, rfl, rfl, by decide +kernel, rfl, by decide +kernel, by decide +kernel⟩
abbrev s_does_hold : Stmt := top 39
abbrev N_does_hold : List Str := ["test", "question", "seed", "bound", "divisor", "rest", "numbers"]
theorem sc_does_hold : FnScope N_does_hold ["test", "question", "seed"] (defScope s_does_hold) := ⟨rfl, rfl, rfl, by decide +kernel, rfl, by decide +kernel, by decide +kernel⟩
abbrev s_outcome : Stmt := top 40
abbrev N_outcome : List Str := ["answer", "question", "number", "divisor"]
theorem sc_outcome : FnScope N_outcome ["answer", "question"] (defScope s_outcome) := ⟨rfl, rfl, rfl, by decide +kernel, rfl, by decide +kernel, by decide +kernel⟩
abbrev s_run : Stmt := top 41
abbrev N_run : List Str := ["machine", "question", "seed", "test", "answer"]
theorem sc_run : FnScope N_run ["machine", "question", "seed"] (defScope s_run) := ⟨rfl, rfl, rfl, by decide +kernel, rfl, by decide +kernel, by decide +kernel⟩
abbrev s_smallest : Stmt := top 43
abbrev N_smallest : List Str := ["over", "under", "common"]
theorem sc_smallest : FnScope N_smallest ["over", "under"] (defScope s_smallest) := ⟨rfl, rfl, rfl, by decide +kernel, rfl, by decide +kernel, by decide +kernel⟩
abbrev s_is_ranked : Stmt := top 54
abbrev N_is_ranked : List Str := ["brought", "_", "runs"]
theorem sc_is_ranked : FnScope N_is_ranked ["brought"] (defScope s_is_ranked) := ⟨rfl, rfl, rfl, by decide +kernel, rfl, by decide +kernel, by decide +kernel⟩
abbrev s_weighted : Stmt := top 55
abbrev N_weighted : List Str := ["weight", "runs", "score", "_"]
theorem sc_weighted : FnScope N_weighted ["weight", "runs"] (defScope s_weighted) := ⟨rfl, rfl, rfl, by decide +kernel, rfl, by decide +kernel, by decide +kernel⟩
abbrev s_mean_of : Stmt := top 56
abbrev N_mean_of : List Str := ["brought", "weight", "runs"]
theorem sc_mean_of : FnScope N_mean_of ["brought"] (defScope s_mean_of) := ⟨rfl, rfl, rfl, by decide +kernel, rfl, by decide +kernel, by decide +kernel⟩
abbrev s_ranks_by : Stmt := top 57
abbrev N_ranks_by : List Str := ["means", "name", "mean", "other"]
theorem sc_ranks_by : FnScope N_ranks_by ["means"] (defScope s_ranks_by) := ⟨rfl, rfl, rfl, by decide +kernel, rfl, by decide +kernel, by decide +kernel⟩
abbrev s_changes : Stmt := top 58
abbrev N_changes : List Str := ["before", "now", "name"]
theorem sc_changes : FnScope N_changes ["before", "now"] (defScope s_changes) := ⟨rfl, rfl, rfl, by decide +kernel, rfl, by decide +kernel, by decide +kernel⟩
abbrev s_is_due : Stmt := top 63
abbrev N_is_due : List Str := ["value"]
theorem sc_is_due : FnScope N_is_due ["value"] (defScope s_is_due) := ⟨rfl, rfl, rfl, by decide +kernel, rfl, by decide +kernel, by decide +kernel⟩
abbrev s_is_twin : Stmt := top 64
abbrev N_is_twin : List Str := ["twin"]
theorem sc_is_twin : FnScope N_is_twin ["twin"] (defScope s_is_twin) := ⟨rfl, rfl, rfl, by decide +kernel, rfl, by decide +kernel, by decide +kernel⟩
abbrev s_is_asked : Stmt := top 65
abbrev N_is_asked : List Str := ["asked"]
theorem sc_is_asked : FnScope N_is_asked ["asked"] (defScope s_is_asked) := ⟨rfl, rfl, rfl, by decide +kernel, rfl, by decide +kernel, by decide +kernel⟩
abbrev s_is_framed : Stmt := top 66
abbrev N_is_framed : List Str := ["task", "questions", "weight"]
theorem sc_is_framed : FnScope N_is_framed ["task"] (defScope s_is_framed) := ⟨rfl, rfl, rfl, by decide +kernel, rfl, by decide +kernel, by decide +kernel⟩
abbrev s_check_task : Stmt := top 67
abbrev N_check_task : List Str := ["task", "found", "at", "asked"]
theorem sc_check_task : FnScope N_check_task ["task"] (defScope s_check_task) := ⟨rfl, rfl, rfl, by decide +kernel, rfl, by decide +kernel, by decide +kernel⟩
abbrev s_right_ones : Stmt := top 68
abbrev N_right_ones : List Str := ["machine", "task", "seed", "at", "question", "due", "_"]
theorem sc_right_ones : FnScope N_right_ones ["machine", "task", "seed"] (defScope s_right_ones) := ⟨rfl, rfl, rfl, by decide +kernel, rfl, by decide +kernel, by decide +kernel⟩
abbrev s_count_right : Stmt := top 69
abbrev N_count_right : List Str := ["machine", "task", "seed"]
theorem sc_count_right : FnScope N_count_right ["machine", "task", "seed"] (defScope s_count_right) := ⟨rfl, rfl, rfl, by decide +kernel, rfl, by decide +kernel, by decide +kernel⟩
abbrev s_check_name : Stmt := top 75
abbrev N_check_name : List Str := ["name", "letter"]
theorem sc_check_name : FnScope N_check_name ["name"] (defScope s_check_name) := ⟨rfl, rfl, rfl, by decide +kernel, rfl, by decide +kernel, by decide +kernel⟩
abbrev s_is_told : Stmt := top 76
abbrev N_is_told : List Str := ["name", "table"]
theorem sc_is_told : FnScope N_is_told ["name", "table"] (defScope s_is_told) := ⟨rfl, rfl, rfl, by decide +kernel, rfl, by decide +kernel, by decide +kernel⟩
abbrev s_Hall___init__ : Stmt := inClass (top 77) 0
abbrev N_Hall___init__ : List Str := ["self"]
theorem sc_Hall___init__ : FnScope N_Hall___init__ ["self"] (defScope s_Hall___init__) := ⟨rfl, rfl, rfl, by decide +kernel, rfl, by decide +kernel, by decide +kernel⟩
abbrev s_Hall_check_machine_told : Stmt := inClass (top 77) 1
abbrev N_Hall_check_machine_told : List Str := ["self", "name"]
theorem sc_Hall_check_machine_told : FnScope N_Hall_check_machine_told ["self", "name"] (defScope s_Hall_check_machine_told) := ⟨rfl, rfl, rfl, by decide +kernel, rfl, by decide +kernel, by decide +kernel⟩
abbrev s_Hall_check_page : Stmt := inClass (top 77) 3
abbrev N_Hall_check_page : List Str := ["self", "number"]
theorem sc_Hall_check_page : FnScope N_Hall_check_page ["self", "number"] (defScope s_Hall_check_page) := ⟨rfl, rfl, rfl, by decide +kernel, rfl, by decide +kernel, by decide +kernel⟩
abbrev s_Hall_brought : Stmt := inClass (top 77) 4
abbrev N_Hall_brought : List Str := ["self", "name", "of_task", "task"]
theorem sc_Hall_brought : FnScope N_Hall_brought ["self", "name"] (defScope s_Hall_brought) := ⟨rfl, rfl, rfl, by decide +kernel, rfl, by decide +kernel, by decide +kernel⟩
abbrev s_Hall_runs_in : Stmt := inClass (top 77) 5
abbrev N_Hall_runs_in : List Str := ["self", "name", "of_task", "number", "machine", "task", "_", "score"]
theorem sc_Hall_runs_in : FnScope N_Hall_runs_in ["self", "name", "of_task"] (defScope s_Hall_runs_in) := ⟨rfl, rfl, rfl, by decide +kernel, rfl, by decide +kernel, by decide +kernel⟩
abbrev s_Hall_means : Stmt := inClass (top 77) 6
abbrev N_Hall_means : List Str := ["self", "brought", "name"]
theorem sc_Hall_means : FnScope N_Hall_means ["self"] (defScope s_Hall_means) := ⟨rfl, rfl, rfl, by decide +kernel, rfl, by decide +kernel, by decide +kernel⟩
abbrev s_Hall_ranks_now : Stmt := inClass (top 77) 7
abbrev N_Hall_ranks_now : List Str := ["self"]
theorem sc_Hall_ranks_now : FnScope N_Hall_ranks_now ["self"] (defScope s_Hall_ranks_now) := ⟨rfl, rfl, rfl, by decide +kernel, rfl, by decide +kernel, by decide +kernel⟩
abbrev s_Hall_come_to : Stmt := inClass (top 77) 10
abbrev N_Hall_come_to : List Str := ["self", "machine", "task", "seed"]
theorem sc_Hall_come_to : FnScope N_Hall_come_to ["self", "machine", "task", "seed"] (defScope s_Hall_come_to) := ⟨rfl, rfl, rfl, by decide +kernel, rfl, by decide +kernel, by decide +kernel⟩
abbrev s_Hall_score_anew : Stmt := inClass (top 77) 11
abbrev N_Hall_score_anew : List Str := ["self", "name", "number", "machine", "task", "seed", "_"]
theorem sc_Hall_score_anew : FnScope N_Hall_score_anew ["self", "name"] (defScope s_Hall_score_anew) := ⟨rfl, rfl, rfl, by decide +kernel, rfl, by decide +kernel, by decide +kernel⟩
abbrev s_Hall_task : Stmt := inClass (top 77) 12
abbrev N_Hall_task : List Str := ["self", "name", "task", "before"]
theorem sc_Hall_task : FnScope N_Hall_task ["self", "name", "task"] (defScope s_Hall_task) := ⟨rfl, rfl, rfl, by decide +kernel, rfl, by decide +kernel, by decide +kernel⟩
abbrev s_Hall_machine : Stmt := inClass (top 77) 13
abbrev N_Hall_machine : List Str := ["self", "name", "machine"]
theorem sc_Hall_machine : FnScope N_Hall_machine ["self", "name", "machine"] (defScope s_Hall_machine) := ⟨rfl, rfl, rfl, by decide +kernel, rfl, by decide +kernel, by decide +kernel⟩
abbrev s_Hall_tell : Stmt := inClass (top 77) 14
abbrev N_Hall_tell : List Str := ["self", "machine", "task", "seed", "score", "seeds", "number", "run"]
theorem sc_Hall_tell : FnScope N_Hall_tell ["self", "machine", "task", "seed", "score"] (defScope s_Hall_tell) := ⟨rfl, rfl, rfl, by decide +kernel, rfl, by decide +kernel, by decide +kernel⟩
abbrev s_Hall_strike : Stmt := inClass (top 77) 15
abbrev N_Hall_strike : List Str := ["self", "number", "before"]
theorem sc_Hall_strike : FnScope N_Hall_strike ["self", "number"] (defScope s_Hall_strike) := ⟨rfl, rfl, rfl, by decide +kernel, rfl, by decide +kernel, by decide +kernel⟩
abbrev s_Hall_ranks : Stmt := inClass (top 77) 18
abbrev N_Hall_ranks : List Str := ["self", "means", "ranks", "name"]
theorem sc_Hall_ranks : FnScope N_Hall_ranks ["self"] (defScope s_Hall_ranks) := ⟨rfl, rfl, rfl, by decide +kernel, rfl, by decide +kernel, by decide +kernel⟩
abbrev s_Hall_page : Stmt := inClass (top 77) 26
abbrev N_Hall_page : List Str := ["self", "number"]
theorem sc_Hall_page : FnScope N_Hall_page ["self", "number"] (defScope s_Hall_page) := ⟨rfl, rfl, rfl, by decide +kernel, rfl, by decide +kernel, by decide +kernel⟩
abbrev s_Hall_deeds : Stmt := inClass (top 77) 28
abbrev N_Hall_deeds : List Str := ["self"]
theorem sc_Hall_deeds : FnScope N_Hall_deeds ["self"] (defScope s_Hall_deeds) := ⟨rfl, rfl, rfl, by decide +kernel, rfl, by decide +kernel, by decide +kernel⟩
abbrev s_dice : Stmt := top 79
abbrev N_dice : List Str := ["_law_script", "_law_k", "_law_found", "_law_cell"]
theorem sc_dice : FnScope N_dice ["_law_script", "_law_k"] (defScope s_dice) := ⟨rfl, rfl, rfl, by decide +kernel, rfl, by decide +kernel, by decide +kernel⟩
abbrev s_off : Stmt := top 80
abbrev N_off : List Str := ["_law_d", "_law_upto", "_law_found"]
theorem sc_off : FnScope N_off ["_law_d", "_law_upto"] (defScope s_off) := ⟨rfl, rfl, rfl, by decide +kernel, rfl, by decide +kernel, by decide +kernel⟩
abbrev s_mixed : Stmt := top 81
abbrev N_mixed : List Str := ["_law_d", "_law_row", "_law_left", "_law_found"]
theorem sc_mixed : FnScope N_mixed ["_law_d", "_law_row"] (defScope s_mixed) := ⟨rfl, rfl, rfl, by decide +kernel, rfl, by decide +kernel, by decide +kernel⟩
abbrev s_word_of : Stmt := top 82
abbrev N_word_of : List Str := ["_law_work", "e", "_law_kinds", "_law_names", "_law_name"]
theorem sc_word_of : FnScope N_word_of ["_law_work"] (defScope s_word_of) := ⟨rfl, rfl, rfl, by decide +kernel, rfl, by decide +kernel, by decide +kernel⟩
abbrev s_are : Stmt := top 83
abbrev N_are : List Str := ["_law_works", "_law_name", "_law_work"]
theorem sc_are : FnScope N_are ["_law_works", "_law_name"] (defScope s_are) := ⟨rfl, rfl, rfl, by decide +kernel, rfl, by decide +kernel, by decide +kernel⟩
abbrev s_test : Stmt := top 84
abbrev N_test : List Str := ["_law_d", "_law_kind", "_law_m", "_law_k"]
theorem sc_test : FnScope N_test ["_law_d"] (defScope s_test) := ⟨rfl, rfl, rfl, by decide +kernel, rfl, by decide +kernel, by decide +kernel⟩
abbrev s_answer : Stmt := top 85
abbrev N_answer : List Str := ["_law_d", "_law_kind", "_law_n"]
theorem sc_answer : FnScope N_answer ["_law_d"] (defScope s_answer) := ⟨rfl, rfl, rfl, by decide +kernel, rfl, by decide +kernel, by decide +kernel⟩
abbrev s_machine : Stmt := top 86
abbrev N_machine : List Str := ["_law_d", "_law_k"]
theorem sc_machine : FnScope N_machine ["_law_d"] (defScope s_machine) := ⟨rfl, rfl, rfl, by decide +kernel, rfl, by decide +kernel, by decide +kernel⟩
abbrev s_told : Stmt := top 87
abbrev N_told : List Str := ["_law_machine_here", "_law_question", "_law_grain", "_law_test_here", "_law_answer_here", "_law_word", "_law_good", "_law_whole", "_law_told_here"]
theorem sc_told : FnScope N_told ["_law_machine_here", "_law_question", "_law_grain"] (defScope s_told) := ⟨rfl, rfl, rfl, by decide +kernel, rfl, by decide +kernel, by decide +kernel⟩
abbrev s_task : Stmt := top 88
abbrev N_task : List Str := ["_law_d", "_law_machine_here", "_law_numbers", "_law_often", "_law_rows", "_law_x", "_law_due", "_law_twin", "_law_y"]
theorem sc_task : FnScope N_task ["_law_d", "_law_machine_here"] (defScope s_task) := ⟨rfl, rfl, rfl, by decide +kernel, rfl, by decide +kernel, by decide +kernel⟩
abbrev s_law : Stmt := top 89
abbrev N_law : List Str := ["_law_script", "_law_goals", "_law_numbers", "_law_other", "_law_d", "_law_goal", "_law_grains", "_law_hall", "_law_machine_here", "_law_name", "_law_names", "_law_task_here", "_law_grain", "_law_one"]
theorem sc_law : FnScope N_law ["_law_script"] (defScope s_law) := ⟨rfl, rfl, rfl, by decide +kernel, rfl, by decide +kernel, by decide +kernel⟩
structure Adr where
  Hall : Addr
  HallError : Addr
  BadQuestion : Addr
  BadSeed : Addr
  BadName : Addr
  TooMany : Addr
  Taken : Addr
  NoMachine : Addr
  NoTask : Addr
  BadScore : Addr
  NoRun : Addr
  NotRanked : Addr
  BadShare : Addr
  NotAhead : Addr
  NoPage : Addr
  BadMachine : Addr
  BadText : Addr
  BadTask : Addr
  BadDeed : Addr
  law_cd : Addr
  law_tb : Addr
  is_number : Addr
  is_number_ : FuncData
  is_question : Addr
  is_question_ : FuncData
  is_seed : Addr
  is_seed_ : FuncData
  is_divisor : Addr
  is_divisor_ : FuncData
  is_known : Addr
  is_known_ : FuncData
  is_test : Addr
  is_test_ : FuncData
  is_answer : Addr
  is_answer_ : FuncData
  is_row : Addr
  is_row_ : FuncData
  check_machine : Addr
  check_machine_ : FuncData
  check_seed : Addr
  check_seed_ : FuncData
  does_hold : Addr
  does_hold_ : FuncData
  outcome : Addr
  outcome_ : FuncData
  run : Addr
  run_ : FuncData
  smallest : Addr
  smallest_ : FuncData
  is_ranked : Addr
  is_ranked_ : FuncData
  weighted : Addr
  weighted_ : FuncData
  mean_of : Addr
  mean_of_ : FuncData
  ranks_by : Addr
  ranks_by_ : FuncData
  changes : Addr
  changes_ : FuncData
  is_due : Addr
  is_due_ : FuncData
  is_twin : Addr
  is_twin_ : FuncData
  is_asked : Addr
  is_asked_ : FuncData
  is_framed : Addr
  is_framed_ : FuncData
  check_task : Addr
  check_task_ : FuncData
  right_ones : Addr
  right_ones_ : FuncData
  count_right : Addr
  count_right_ : FuncData
  check_name : Addr
  check_name_ : FuncData
  is_told : Addr
  is_told_ : FuncData
  Hall___init__ : Addr
  Hall___init___ : FuncData
  Hall_check_machine_told : Addr
  Hall_check_machine_told_ : FuncData
  Hall_check_page : Addr
  Hall_check_page_ : FuncData
  Hall_brought : Addr
  Hall_brought_ : FuncData
  Hall_runs_in : Addr
  Hall_runs_in_ : FuncData
  Hall_means : Addr
  Hall_means_ : FuncData
  Hall_ranks_now : Addr
  Hall_ranks_now_ : FuncData
  Hall_come_to : Addr
  Hall_come_to_ : FuncData
  Hall_score_anew : Addr
  Hall_score_anew_ : FuncData
  Hall_task : Addr
  Hall_task_ : FuncData
  Hall_machine : Addr
  Hall_machine_ : FuncData
  Hall_tell : Addr
  Hall_tell_ : FuncData
  Hall_strike : Addr
  Hall_strike_ : FuncData
  Hall_ranks : Addr
  Hall_ranks_ : FuncData
  Hall_page : Addr
  Hall_page_ : FuncData
  Hall_deeds : Addr
  Hall_deeds_ : FuncData
  dice : Addr
  dice_ : FuncData
  off : Addr
  off_ : FuncData
  mixed : Addr
  mixed_ : FuncData
  word_of : Addr
  word_of_ : FuncData
  are : Addr
  are_ : FuncData
  test : Addr
  test_ : FuncData
  answer : Addr
  answer_ : FuncData
  machine : Addr
  machine_ : FuncData
  told : Addr
  told_ : FuncData
  task : Addr
  task_ : FuncData
  law : Addr
  law_ : FuncData
def exs (A : Adr) : List Addr := [A.BadQuestion, A.BadSeed, A.BadName, A.TooMany, A.Taken, A.NoMachine, A.NoTask, A.BadScore, A.NoRun, A.NotRanked, A.BadShare, A.NotAhead, A.NoPage, A.BadMachine, A.BadText, A.BadTask, A.BadDeed]
structure Txt (K : PySem.W.Frag) (mg : Str → Option Value) (A : Adr) : Prop where
  n_ValueError : mg "ValueError" = none
  n_abs : mg "abs" = none
  n_all : mg "all" = none
  n_bool : mg "bool" = none
  n_enumerate : mg "enumerate" = none
  n_int : mg "int" = none
  n_isinstance : mg "isinstance" = none
  n_len : mg "len" = none
  n_list : mg "list" = none
  n_max : mg "max" = none
  n_range : mg "range" = none
  n_set : mg "set" = none
  n_sorted : mg "sorted" = none
  n_str : mg "str" = none
  n_sum : mg "sum" = none
  n_tuple : mg "tuple" = none
  n_zip : mg "zip" = none
  c_LAST_QUESTION : GV mg "LAST_QUESTION" (.int 9999)
  c_LAST_SEED : GV mg "LAST_SEED" (.int 999)
  c_MOST_ROWS : GV mg "MOST_ROWS" (.int 12)
  c_MOST_KNOWN : GV mg "MOST_KNOWN" (.int 8)
  c_LEAST_DIVISOR : GV mg "LEAST_DIVISOR" (.int 2)
  c_MOST_DIVISOR : GV mg "MOST_DIVISOR" (.int 99)
  c_MOST_IN_ANSWER : GV mg "MOST_IN_ANSWER" (.int 9999)
  c_SIXTIETHS : GV mg "SIXTIETHS" (.int 60)
  c_MOST_QUESTIONS : GV mg "MOST_QUESTIONS" (.int 16)
  c_MOST_DUE : GV mg "MOST_DUE" (.int 99999999)
  c_MOST_WEIGHT : GV mg "MOST_WEIGHT" (.int 9)
  c_MOST_LETTERS : GV mg "MOST_LETTERS" (.int 6)
  c_MOST_TASKS : GV mg "MOST_TASKS" (.int 4)
  c_MOST_MACHINES : GV mg "MOST_MACHINES" (.int 6)
  c_MOST_RUNS : GV mg "MOST_RUNS" (.int 5)
  m_gcd : mg "gcd" = some (.builtin "math.gcd")
  g_HallError : mg "HallError" = some (.ref A.HallError)
  g_BadQuestion : mg "BadQuestion" = some (.ref A.BadQuestion)
  g_BadSeed : mg "BadSeed" = some (.ref A.BadSeed)
  g_BadName : mg "BadName" = some (.ref A.BadName)
  g_TooMany : mg "TooMany" = some (.ref A.TooMany)
  g_Taken : mg "Taken" = some (.ref A.Taken)
  g_NoMachine : mg "NoMachine" = some (.ref A.NoMachine)
  g_NoTask : mg "NoTask" = some (.ref A.NoTask)
  g_BadScore : mg "BadScore" = some (.ref A.BadScore)
  g_NoRun : mg "NoRun" = some (.ref A.NoRun)
  g_NotRanked : mg "NotRanked" = some (.ref A.NotRanked)
  g_BadShare : mg "BadShare" = some (.ref A.BadShare)
  g_NotAhead : mg "NotAhead" = some (.ref A.NotAhead)
  g_NoPage : mg "NoPage" = some (.ref A.NoPage)
  g_BadMachine : mg "BadMachine" = some (.ref A.BadMachine)
  g_BadText : mg "BadText" = some (.ref A.BadText)
  g_BadTask : mg "BadTask" = some (.ref A.BadTask)
  g_BadDeed : mg "BadDeed" = some (.ref A.BadDeed)
  x_TooMany : ExR K A.HallError (exs A) 3 A.TooMany
  x_Taken : ExR K A.HallError (exs A) 4 A.Taken
  law_c : A.law_.code = .ref A.law_cd
  cl_Hall : Cls K A.Hall
  mk_Hall : Mk K A.Hall A.Hall___init__
  g_Hall : mg "Hall" = some (.ref A.Hall)
  nf_tasks : NoAttr K A.Hall "tasks"
  nf_machines : NoAttr K A.Hall "machines"
  nf_runs : NoAttr K A.Hall "runs"
  nf_next_run : NoAttr K A.Hall "next_run"
  nf_pages : NoAttr K A.Hall "pages"
  nf_done : NoAttr K A.Hall "done"
  nf_dealing : NoAttr K A.Hall "dealing"
  is_number : Df K mg "is_number" s_is_number ["value", "low", "high"] A.is_number A.is_number_
  is_question : Df K mg "is_question" s_is_question ["value"] A.is_question A.is_question_
  is_seed : Df K mg "is_seed" s_is_seed ["value"] A.is_seed A.is_seed_
  is_divisor : Df K mg "is_divisor" s_is_divisor ["value"] A.is_divisor A.is_divisor_
  is_known : Df K mg "is_known" s_is_known ["numbers"] A.is_known A.is_known_
  is_test : Df K mg "is_test" s_is_test ["test"] A.is_test A.is_test_
  is_answer : Df K mg "is_answer" s_is_answer ["answer"] A.is_answer A.is_answer_
  is_row : Df K mg "is_row" s_is_row ["row"] A.is_row A.is_row_
  check_machine : Df K mg "check_machine" s_check_machine ["machine"] A.check_machine A.check_machine_
  check_seed : Df K mg "check_seed" s_check_seed ["seed"] A.check_seed A.check_seed_
  does_hold : Df K mg "does_hold" s_does_hold ["test", "question", "seed"] A.does_hold A.does_hold_
  outcome : Df K mg "outcome" s_outcome ["answer", "question"] A.outcome A.outcome_
  run : Df K mg "run" s_run ["machine", "question", "seed"] A.run A.run_
  smallest : Df K mg "smallest" s_smallest ["over", "under"] A.smallest A.smallest_
  is_ranked : Df K mg "is_ranked" s_is_ranked ["brought"] A.is_ranked A.is_ranked_
  weighted : Df K mg "weighted" s_weighted ["weight", "runs"] A.weighted A.weighted_
  mean_of : Df K mg "mean_of" s_mean_of ["brought"] A.mean_of A.mean_of_
  ranks_by : Df K mg "ranks_by" s_ranks_by ["means"] A.ranks_by A.ranks_by_
  changes : Df K mg "changes" s_changes ["before", "now"] A.changes A.changes_
  is_due : Df K mg "is_due" s_is_due ["value"] A.is_due A.is_due_
  is_twin : Df K mg "is_twin" s_is_twin ["twin"] A.is_twin A.is_twin_
  is_asked : Df K mg "is_asked" s_is_asked ["asked"] A.is_asked A.is_asked_
  is_framed : Df K mg "is_framed" s_is_framed ["task"] A.is_framed A.is_framed_
  check_task : Df K mg "check_task" s_check_task ["task"] A.check_task A.check_task_
  right_ones : Df K mg "right_ones" s_right_ones ["machine", "task", "seed"] A.right_ones A.right_ones_
  count_right : Df K mg "count_right" s_count_right ["machine", "task", "seed"] A.count_right A.count_right_
  check_name : Df K mg "check_name" s_check_name ["name"] A.check_name A.check_name_
  is_told : Df K mg "is_told" s_is_told ["name", "table"] A.is_told A.is_told_
  Hall___init__ : DfM K A.Hall "__init__" "Hall.__init__" s_Hall___init__ ["self"] A.Hall___init__ A.Hall___init___
  Hall_check_machine_told : DfM K A.Hall "check_machine_told" "Hall.check_machine_told" s_Hall_check_machine_told ["self", "name"] A.Hall_check_machine_told A.Hall_check_machine_told_
  Hall_check_page : DfM K A.Hall "check_page" "Hall.check_page" s_Hall_check_page ["self", "number"] A.Hall_check_page A.Hall_check_page_
  Hall_brought : DfM K A.Hall "brought" "Hall.brought" s_Hall_brought ["self", "name"] A.Hall_brought A.Hall_brought_
  Hall_runs_in : DfM K A.Hall "runs_in" "Hall.runs_in" s_Hall_runs_in ["self", "name", "of_task"] A.Hall_runs_in A.Hall_runs_in_
  Hall_means : DfM K A.Hall "means" "Hall.means" s_Hall_means ["self"] A.Hall_means A.Hall_means_
  Hall_ranks_now : DfM K A.Hall "ranks_now" "Hall.ranks_now" s_Hall_ranks_now ["self"] A.Hall_ranks_now A.Hall_ranks_now_
  Hall_come_to : DfM K A.Hall "come_to" "Hall.come_to" s_Hall_come_to ["self", "machine", "task", "seed"] A.Hall_come_to A.Hall_come_to_
  Hall_score_anew : DfM K A.Hall "score_anew" "Hall.score_anew" s_Hall_score_anew ["self", "name"] A.Hall_score_anew A.Hall_score_anew_
  Hall_task : DfM K A.Hall "task" "Hall.task" s_Hall_task ["self", "name", "task"] A.Hall_task A.Hall_task_
  Hall_machine : DfM K A.Hall "machine" "Hall.machine" s_Hall_machine ["self", "name", "machine"] A.Hall_machine A.Hall_machine_
  Hall_tell : DfM K A.Hall "tell" "Hall.tell" s_Hall_tell ["self", "machine", "task", "seed", "score"] A.Hall_tell A.Hall_tell_
  Hall_strike : DfM K A.Hall "strike" "Hall.strike" s_Hall_strike ["self", "number"] A.Hall_strike A.Hall_strike_
  Hall_ranks : DfM K A.Hall "ranks" "Hall.ranks" s_Hall_ranks ["self"] A.Hall_ranks A.Hall_ranks_
  Hall_page : DfM K A.Hall "page" "Hall.page" s_Hall_page ["self", "number"] A.Hall_page A.Hall_page_
  Hall_deeds : DfM K A.Hall "deeds" "Hall.deeds" s_Hall_deeds ["self"] A.Hall_deeds A.Hall_deeds_
  dice : Df K mg "_law_dice" s_dice ["_law_script", "_law_k"] A.dice A.dice_
  off : Df K mg "_law_off" s_off ["_law_d", "_law_upto"] A.off A.off_
  mixed : Df K mg "_law_mixed" s_mixed ["_law_d", "_law_row"] A.mixed A.mixed_
  word_of : Df K mg "_law_word_of" s_word_of ["_law_work"] A.word_of A.word_of_
  are : Df K mg "_law_are" s_are ["_law_works", "_law_name"] A.are A.are_
  test : Df K mg "_law_test" s_test ["_law_d"] A.test A.test_
  answer : Df K mg "_law_answer" s_answer ["_law_d"] A.answer A.answer_
  machine : Df K mg "_law_machine" s_machine ["_law_d"] A.machine A.machine_
  told : Df K mg "_law_told" s_told ["_law_machine_here", "_law_question", "_law_grain"] A.told A.told_
  task : Df K mg "_law_task" s_task ["_law_d", "_law_machine_here"] A.task A.task_
  law : Df K mg "law" s_law ["_law_script"] A.law A.law_
end Mh
namespace Mh
open PySem L2
noncomputable section
def hn0 : List PySem.Str := ["_wall", "__name__", "HallError", "BadMachine", "BadQuestion", "BadSeed", "BadText", "BadTask", "BadName", "TooMany", "Taken", "NoMachine", "NoTask", "BadScore", "NoRun", "NotRanked", "BadShare", "NotAhead", "NoPage", "BadDeed", "LAST_QUESTION", "LAST_SEED", "MOST_ROWS", "MOST_KNOWN", "LEAST_DIVISOR", "MOST_DIVISOR", "MOST_IN_ANSWER", "is_number", "is_question", "is_seed"]
def hn1 : List PySem.Str := ["is_divisor", "is_known", "is_test", "is_answer", "is_row", "check_machine", "check_seed", "does_hold", "outcome", "run", "smallest", "with_task", "ways_of", "spread_of", "by_many_ahead", "by_place", "shares_of", "ahead_of", "SIXTIETHS", "is_ranked", "weighted", "mean_of", "ranks_by", "changes", "MOST_QUESTIONS", "MOST_DUE", "MOST_WEIGHT", "is_due", "is_twin", "is_asked"]
def hn2 : List PySem.Str := ["is_framed", "check_task", "right_ones", "count_right", "MOST_LETTERS", "MOST_TASKS", "MOST_MACHINES", "MOST_RUNS", "check_name", "is_told", "Hall", "_law_dice", "_law_off", "_law_mixed", "_law_word_of", "_law_are", "_law_test", "_law_answer", "_law_machine", "_law_told", "_law_task"]
def hnames : List PySem.Str := hn0 ++ hn1 ++ hn2
def hf0 : List He.Fa := [.free "ValueError", .free "abs", .free "all", .free "bool", .free "enumerate", .free "int", .free "isinstance", .free "len", .free "list", .free "max", .free "range", .free "set", .free "sorted", .free "str", .free "sum", .free "tuple", .free "zip", .int "LAST_QUESTION" 9999, .int "LAST_SEED" 999, .int "MOST_ROWS" 12, .int "MOST_KNOWN" 8, .int "LEAST_DIVISOR" 2, .int "MOST_DIVISOR" 99, .int "MOST_IN_ANSWER" 9999, .int "SIXTIETHS" 60, .int "MOST_QUESTIONS" 16, .int "MOST_DUE" 99999999, .int "MOST_WEIGHT" 9, .int "MOST_LETTERS" 6, .int "MOST_TASKS" 4]
def hf1 : List He.Fa := [.int "MOST_MACHINES" 6, .int "MOST_RUNS" 5, .glo "Hall", .cls "Hall", .mkr "Hall", .noat "Hall" "tasks", .noat "Hall" "machines", .noat "Hall" "runs", .noat "Hall" "next_run", .noat "Hall" "pages", .noat "Hall" "done", .noat "Hall" "dealing", .glo "is_number", .keep "is_number", .glo "is_question", .keep "is_question", .glo "is_seed", .keep "is_seed", .glo "is_divisor", .keep "is_divisor", .glo "is_known", .keep "is_known", .glo "is_test", .keep "is_test", .glo "is_answer", .keep "is_answer", .glo "is_row", .keep "is_row", .glo "check_machine", .keep "check_machine"]
def hf2 : List He.Fa := [.glo "check_seed", .keep "check_seed", .glo "does_hold", .keep "does_hold", .glo "outcome", .keep "outcome", .glo "run", .keep "run", .glo "smallest", .keep "smallest", .glo "is_ranked", .keep "is_ranked", .glo "weighted", .keep "weighted", .glo "mean_of", .keep "mean_of", .glo "ranks_by", .keep "ranks_by", .glo "changes", .keep "changes", .glo "is_due", .keep "is_due", .glo "is_twin", .keep "is_twin", .glo "is_asked", .keep "is_asked", .glo "is_framed", .keep "is_framed", .glo "check_task", .keep "check_task"]
def hf3 : List He.Fa := [.glo "right_ones", .keep "right_ones", .glo "count_right", .keep "count_right", .glo "check_name", .keep "check_name", .glo "is_told", .keep "is_told", .meth "Hall" "__init__", .meth "Hall" "check_machine_told", .meth "Hall" "check_page", .meth "Hall" "brought", .meth "Hall" "runs_in", .meth "Hall" "means", .meth "Hall" "ranks_now", .meth "Hall" "come_to", .meth "Hall" "score_anew", .meth "Hall" "task", .meth "Hall" "machine", .meth "Hall" "tell", .meth "Hall" "strike", .meth "Hall" "ranks", .meth "Hall" "page", .meth "Hall" "deeds", .glo "_law_dice", .keep "_law_dice", .glo "_law_off", .keep "_law_off", .glo "_law_mixed", .keep "_law_mixed"]
def hf4 : List He.Fa := [.glo "_law_word_of", .keep "_law_word_of", .glo "_law_are", .keep "_law_are", .glo "_law_test", .keep "_law_test", .glo "_law_answer", .keep "_law_answer", .glo "_law_machine", .keep "_law_machine", .glo "_law_told", .keep "_law_told", .glo "_law_task", .keep "_law_task", .glo "law", .keep "law"]
def hfa : List He.Fa := hf0 ++ (hf1 ++ (hf2 ++ (hf3 ++ (hf4))))
def hd_is_number : He.FnD := ⟨("is_number", none), "is_number", "is_number", defArgs s_is_number, defBody s_is_number, defScope s_is_number⟩
def hd_is_question : He.FnD := ⟨("is_question", none), "is_question", "is_question", defArgs s_is_question, defBody s_is_question, defScope s_is_question⟩
def hd_is_seed : He.FnD := ⟨("is_seed", none), "is_seed", "is_seed", defArgs s_is_seed, defBody s_is_seed, defScope s_is_seed⟩
def hd_is_divisor : He.FnD := ⟨("is_divisor", none), "is_divisor", "is_divisor", defArgs s_is_divisor, defBody s_is_divisor, defScope s_is_divisor⟩
def hd_is_known : He.FnD := ⟨("is_known", none), "is_known", "is_known", defArgs s_is_known, defBody s_is_known, defScope s_is_known⟩
def hd_is_test : He.FnD := ⟨("is_test", none), "is_test", "is_test", defArgs s_is_test, defBody s_is_test, defScope s_is_test⟩
def hd_is_answer : He.FnD := ⟨("is_answer", none), "is_answer", "is_answer", defArgs s_is_answer, defBody s_is_answer, defScope s_is_answer⟩
def hd_is_row : He.FnD := ⟨("is_row", none), "is_row", "is_row", defArgs s_is_row, defBody s_is_row, defScope s_is_row⟩
def hd_check_machine : He.FnD := ⟨("check_machine", none), "check_machine", "check_machine", defArgs s_check_machine, defBody s_check_machine, defScope s_check_machine⟩
def hd_check_seed : He.FnD := ⟨("check_seed", none), "check_seed", "check_seed", defArgs s_check_seed, defBody s_check_seed, defScope s_check_seed⟩
def hd_does_hold : He.FnD := ⟨("does_hold", none), "does_hold", "does_hold", defArgs s_does_hold, defBody s_does_hold, defScope s_does_hold⟩
def hd_outcome : He.FnD := ⟨("outcome", none), "outcome", "outcome", defArgs s_outcome, defBody s_outcome, defScope s_outcome⟩
def hd_run : He.FnD := ⟨("run", none), "run", "run", defArgs s_run, defBody s_run, defScope s_run⟩
def hd_smallest : He.FnD := ⟨("smallest", none), "smallest", "smallest", defArgs s_smallest, defBody s_smallest, defScope s_smallest⟩
def hd_is_ranked : He.FnD := ⟨("is_ranked", none), "is_ranked", "is_ranked", defArgs s_is_ranked, defBody s_is_ranked, defScope s_is_ranked⟩
def hd_weighted : He.FnD := ⟨("weighted", none), "weighted", "weighted", defArgs s_weighted, defBody s_weighted, defScope s_weighted⟩
def hd_mean_of : He.FnD := ⟨("mean_of", none), "mean_of", "mean_of", defArgs s_mean_of, defBody s_mean_of, defScope s_mean_of⟩
def hd_ranks_by : He.FnD := ⟨("ranks_by", none), "ranks_by", "ranks_by", defArgs s_ranks_by, defBody s_ranks_by, defScope s_ranks_by⟩
def hd_changes : He.FnD := ⟨("changes", none), "changes", "changes", defArgs s_changes, defBody s_changes, defScope s_changes⟩
def hd_is_due : He.FnD := ⟨("is_due", none), "is_due", "is_due", defArgs s_is_due, defBody s_is_due, defScope s_is_due⟩
def hd_is_twin : He.FnD := ⟨("is_twin", none), "is_twin", "is_twin", defArgs s_is_twin, defBody s_is_twin, defScope s_is_twin⟩
def hd_is_asked : He.FnD := ⟨("is_asked", none), "is_asked", "is_asked", defArgs s_is_asked, defBody s_is_asked, defScope s_is_asked⟩
def hd_is_framed : He.FnD := ⟨("is_framed", none), "is_framed", "is_framed", defArgs s_is_framed, defBody s_is_framed, defScope s_is_framed⟩
def hd_check_task : He.FnD := ⟨("check_task", none), "check_task", "check_task", defArgs s_check_task, defBody s_check_task, defScope s_check_task⟩
def hd_right_ones : He.FnD := ⟨("right_ones", none), "right_ones", "right_ones", defArgs s_right_ones, defBody s_right_ones, defScope s_right_ones⟩
def hd_count_right : He.FnD := ⟨("count_right", none), "count_right", "count_right", defArgs s_count_right, defBody s_count_right, defScope s_count_right⟩
def hd_check_name : He.FnD := ⟨("check_name", none), "check_name", "check_name", defArgs s_check_name, defBody s_check_name, defScope s_check_name⟩
def hd_is_told : He.FnD := ⟨("is_told", none), "is_told", "is_told", defArgs s_is_told, defBody s_is_told, defScope s_is_told⟩
def hd_Hall___init__ : He.FnD := ⟨("Hall", some "__init__"), "__init__", "Hall.__init__", defArgs s_Hall___init__, defBody s_Hall___init__, defScope s_Hall___init__⟩
def hd_Hall_check_machine_told : He.FnD := ⟨("Hall", some "check_machine_told"), "check_machine_told", "Hall.check_machine_told", defArgs s_Hall_check_machine_told, defBody s_Hall_check_machine_told, defScope s_Hall_check_machine_told⟩
def hd_Hall_check_page : He.FnD := ⟨("Hall", some "check_page"), "check_page", "Hall.check_page", defArgs s_Hall_check_page, defBody s_Hall_check_page, defScope s_Hall_check_page⟩
def hd_Hall_brought : He.FnD := ⟨("Hall", some "brought"), "brought", "Hall.brought", defArgs s_Hall_brought, defBody s_Hall_brought, defScope s_Hall_brought⟩
def hd_Hall_runs_in : He.FnD := ⟨("Hall", some "runs_in"), "runs_in", "Hall.runs_in", defArgs s_Hall_runs_in, defBody s_Hall_runs_in, defScope s_Hall_runs_in⟩
def hd_Hall_means : He.FnD := ⟨("Hall", some "means"), "means", "Hall.means", defArgs s_Hall_means, defBody s_Hall_means, defScope s_Hall_means⟩
def hd_Hall_ranks_now : He.FnD := ⟨("Hall", some "ranks_now"), "ranks_now", "Hall.ranks_now", defArgs s_Hall_ranks_now, defBody s_Hall_ranks_now, defScope s_Hall_ranks_now⟩
def hd_Hall_come_to : He.FnD := ⟨("Hall", some "come_to"), "come_to", "Hall.come_to", defArgs s_Hall_come_to, defBody s_Hall_come_to, defScope s_Hall_come_to⟩
def hd_Hall_score_anew : He.FnD := ⟨("Hall", some "score_anew"), "score_anew", "Hall.score_anew", defArgs s_Hall_score_anew, defBody s_Hall_score_anew, defScope s_Hall_score_anew⟩
def hd_Hall_task : He.FnD := ⟨("Hall", some "task"), "task", "Hall.task", defArgs s_Hall_task, defBody s_Hall_task, defScope s_Hall_task⟩
def hd_Hall_machine : He.FnD := ⟨("Hall", some "machine"), "machine", "Hall.machine", defArgs s_Hall_machine, defBody s_Hall_machine, defScope s_Hall_machine⟩
def hd_Hall_tell : He.FnD := ⟨("Hall", some "tell"), "tell", "Hall.tell", defArgs s_Hall_tell, defBody s_Hall_tell, defScope s_Hall_tell⟩
def hd_Hall_strike : He.FnD := ⟨("Hall", some "strike"), "strike", "Hall.strike", defArgs s_Hall_strike, defBody s_Hall_strike, defScope s_Hall_strike⟩
def hd_Hall_ranks : He.FnD := ⟨("Hall", some "ranks"), "ranks", "Hall.ranks", defArgs s_Hall_ranks, defBody s_Hall_ranks, defScope s_Hall_ranks⟩
def hd_Hall_page : He.FnD := ⟨("Hall", some "page"), "page", "Hall.page", defArgs s_Hall_page, defBody s_Hall_page, defScope s_Hall_page⟩
def hd_Hall_deeds : He.FnD := ⟨("Hall", some "deeds"), "deeds", "Hall.deeds", defArgs s_Hall_deeds, defBody s_Hall_deeds, defScope s_Hall_deeds⟩
def hd_dice : He.FnD := ⟨("_law_dice", none), "_law_dice", "_law_dice", defArgs s_dice, defBody s_dice, defScope s_dice⟩
def hd_off : He.FnD := ⟨("_law_off", none), "_law_off", "_law_off", defArgs s_off, defBody s_off, defScope s_off⟩
def hd_mixed : He.FnD := ⟨("_law_mixed", none), "_law_mixed", "_law_mixed", defArgs s_mixed, defBody s_mixed, defScope s_mixed⟩
def hd_word_of : He.FnD := ⟨("_law_word_of", none), "_law_word_of", "_law_word_of", defArgs s_word_of, defBody s_word_of, defScope s_word_of⟩
def hd_are : He.FnD := ⟨("_law_are", none), "_law_are", "_law_are", defArgs s_are, defBody s_are, defScope s_are⟩
def hd_test : He.FnD := ⟨("_law_test", none), "_law_test", "_law_test", defArgs s_test, defBody s_test, defScope s_test⟩
def hd_answer : He.FnD := ⟨("_law_answer", none), "_law_answer", "_law_answer", defArgs s_answer, defBody s_answer, defScope s_answer⟩
def hd_machine : He.FnD := ⟨("_law_machine", none), "_law_machine", "_law_machine", defArgs s_machine, defBody s_machine, defScope s_machine⟩
def hd_told : He.FnD := ⟨("_law_told", none), "_law_told", "_law_told", defArgs s_told, defBody s_told, defScope s_told⟩
def hd_task : He.FnD := ⟨("_law_task", none), "_law_task", "_law_task", defArgs s_task, defBody s_task, defScope s_task⟩
def hd_law : He.FnD := ⟨("law", none), "law", "law", defArgs s_law, defBody s_law, defScope s_law⟩
def hg0 : List He.FnD := [hd_is_number, hd_is_question, hd_is_seed, hd_is_divisor, hd_is_known, hd_is_test, hd_is_answer, hd_is_row, hd_check_machine, hd_check_seed, hd_does_hold, hd_outcome, hd_run, hd_smallest, hd_is_ranked, hd_weighted, hd_mean_of, hd_ranks_by, hd_changes, hd_is_due, hd_is_twin, hd_is_asked, hd_is_framed, hd_check_task, hd_right_ones, hd_count_right, hd_check_name, hd_is_told, hd_Hall___init__, hd_Hall_check_machine_told]
def hg1 : List He.FnD := [hd_Hall_check_page, hd_Hall_brought, hd_Hall_runs_in, hd_Hall_means, hd_Hall_ranks_now, hd_Hall_come_to, hd_Hall_score_anew, hd_Hall_task, hd_Hall_machine, hd_Hall_tell, hd_Hall_strike, hd_Hall_ranks, hd_Hall_page, hd_Hall_deeds, hd_dice, hd_off, hd_mixed, hd_word_of, hd_are, hd_test, hd_answer, hd_machine, hd_told, hd_task, hd_law]
def hfn : List He.FnD := hg0 ++ (hg1)
def hcs : List PySem.Str := ["Hall"]
def hxn : List PySem.Str := ["HallError", "BadQuestion", "BadSeed", "BadName", "TooMany", "Taken", "NoMachine", "NoTask", "BadScore", "NoRun", "NotRanked", "BadShare", "NotAhead", "NoPage", "BadMachine", "BadText", "BadTask", "BadDeed"]
def hxa (K : PySem.W.Frag) : List Addr := [He.ga K "BadQuestion", He.ga K "BadSeed", He.ga K "BadName", He.ga K "TooMany", He.ga K "Taken", He.ga K "NoMachine", He.ga K "NoTask", He.ga K "BadScore", He.ga K "NoRun", He.ga K "NotRanked", He.ga K "BadShare", He.ga K "NotAhead", He.ga K "NoPage", He.ga K "BadMachine", He.ga K "BadText", He.ga K "BadTask", He.ga K "BadDeed"]
def hexX (K : PySem.W.Frag) : Bool := (hxn.all fun x => He.eqO (PySem.W.nsIn K mainGlobals x) (some (some (.ref (He.ga K x))))) && (exRB K (He.ga K "HallError") (hxa K) 3 (He.ga K "TooMany") && (exRB K (He.ga K "HallError") (hxa K) 4 (He.ga K "Taken") && true))
def hex (K : PySem.W.Frag) : Bool := (He.eqO (PySem.W.nsIn K mainGlobals "gcd") (some (some (.builtin "math.gcd")))) && hexX K
def htf : List He.Defn := [("law", none)]
abbrev hR : PySem.W.OpenRow := PySem.W.OpenLaw.row PySem.Challenge.rw_measurehall_k11_halls_that_are_full
/-- what the module's names reach in two steps; the methods of some classes, their code -/
def refsA (g : Addr → Option Obj) (as : List Addr) : List Addr := as.flatMap fun a => match g a with
  | some o => He.refsO o
  | none => []
def asM (g : Addr → Option Obj) (cs : List PySem.Str) : List Addr :=
  He.asG g 2 ++ (refsA g (refsA g (cs.map fun c => He.ga (He.frG g [mainGlobals]) c)) ++ refsA g (refsA g (refsA g (cs.map fun c => He.ga (He.frG g [mainGlobals]) c))))
def hobK (K : PySem.W.Frag) : He.Al × Bool := (He.obsE hfa hfn K, hex K)
def hobG (g : Addr → Option Obj) : He.Al × Bool := (He.obsE hfa hfn (He.frT g (asM g hcs)), hex (He.frT g (asM g hcs)) && He.tabsB g htf (He.frT g (asM g hcs)))
def hhook : PySem.W.Hook where
  α := He.Al × Bool
  obs := fun s => hobG s.heap.get?
  val := fun _ => (He.valE hfn, true)
  says := fun _ h => ∃ K : PySem.W.Frag, K.In h ∧ hobK K = (He.valE hfn, true) ∧ ∀ p ∈ htf, PySem.W.codeHdIn K (He.cT K p).1 (He.cT K p).2 = true ∧ K.lookup (He.cT K p).2 = none ∧ h.get? (He.cT K p).2 = some { cls := .none, data := .fields #[] }
  of := fun _ _ e => ⟨_, He.frT_in, by
    have e1 := congrArg (fun z : He.Al × Bool => z.1) e
    obtain ⟨e2, e3⟩ := He.ba (congrArg (fun z : He.Al × Bool => z.2) e)
    exact ⟨Prod.ext e1 e2, tabs_of e3⟩⟩
  keeps := fun _ _ _ ⟨K, hK, c, t⟩ k => ⟨K, PySem.W.Frag.In.keeps hK k, c, fun p hp => ⟨(t p hp).1, (t p hp).2.1, k _ _ (t p hp).2.2⟩⟩
def hob (s : PySem.W.SharedT) : He.Al × Bool := hobG (HandSHeadRun.getT s)
theorem hob_eq (s : PySem.W.SharedT) : hob s = hhook.obs s.abs := by
  have e : HandSHeadRun.getT s = s.abs.heap.get? := funext (HandSHeadRun.getT_eq s)
  unfold hob
  rw [e]
  rfl
abbrev hq : Program := PySem.W.view hR.prog [0, 89]
set_option maxHeartbeats 0 in
theorem hrun1 (w : World) : (HandSHeadRun.wholeF (fun p => HandSHeadRun.stepQ (HandSHeadRun.denQ HandSHeadRun.tabQ) p w) HandSHeadRun.fenceQ 12000 hR.prog).map (fun x => HandSHeadRun.looksF hR.prog x.1.heap x.2.abs) = some true := by
  kernel_rfl
set_option maxHeartbeats 0 in
theorem hrun2 (w : World) : (HandSHeadRun.wholeF (fun p => HandSHeadRun.stepQ (HandSHeadRun.denQ HandSHeadRun.tabQ) p w) HandSHeadRun.fenceQ 12000 hR.prog).map (fun x => HandSHeadRun.seenQ hq hnames (importedModules hR.prog.main.body) (fun s => PySem.W.xlAt hq [] s && PySem.W.recOk hR.toRowW.records s) x.2.abs) = some (PySem.W.openGood hq hnames) := by
  kernel_rfl
set_option maxHeartbeats 0 in
theorem hrun3 (w : World) : (HandSHeadRun.wholeF (fun p => HandSHeadRun.stepQ (HandSHeadRun.denQ HandSHeadRun.tabQ) p w) HandSHeadRun.fenceQ 12000 hR.prog).map (fun x => hob x.2) = some (hhook.val w) := by
  kernel_rfl
theorem map3 {α A B C : Type} {x : Option α} {f : α → A} {g : α → B} {h : α → C} {a : A} {b : B} {c : C} (h1 : x.map f = some a) (h2 : x.map g = some b) (h3 : x.map h = some c) : x.map (fun s => (f s, g s, h s)) = some (a, b, c) := by
  cases x with
  | none => cases h1
  | some y =>
    have e1 := Option.some.inj h1
    have e2 := Option.some.inj h2
    have e3 := Option.some.inj h3
    rw [← e1, ← e2, ← e3]
    rfl
theorem hrun (w : World) : HandSHeadRun.RunEqI hR hq hhook hob 12000 hnames w := map3 (hrun1 w) (hrun2 w) (hrun3 w)
end
end Mh
namespace Mh
open PySem L2
local macro_rules | `(tactic| walk_at "g") => `(tactic| repeat (first
  | refine ⟨_, rfl, ?_⟩
  | refine ⟨_, _, rfl, rfl, ?_⟩
  | refine ⟨_, _, _, _, rfl, rfl, SqL.of (by assumption), at0, ?_⟩
  | refine ⟨_, _, _, _, rfl, rfl, SqL.of (by assumption), at1, ?_⟩
  | refine ⟨_, _, _, _, rfl, rfl, SqT.of (by assumption), at0, ?_⟩
  | refine ⟨_, _, _, _, rfl, rfl, SqT.of (by assumption), at1, ?_⟩
  | refine ⟨_, _, rfl, .inl (SqL.of (by assumption)), ?_⟩
  | refine ⟨rfl, ?_⟩
  | refine iteT ?_
  | refine iteF ?_))
/-- what may be handed in: none, truths, numbers, texts, lists, tuples -/
inductive Odd (K : PySem.W.Frag) (H : Hp) : V → Prop where
  | non : Odd K H .non
  | bl (b : Bool) : Odd K H (.bl b)
  | int (i : Int) : Odd K H (.int i)
  | str (x : Str) : Odd K H (.str x)
  | lst {a : Addr} {xs : List V} (h : SqL K H a xs) : Odd K H (.ref a)
  | tup {a : Addr} {xs : List V} (h : SqT K H a xs) : Odd K H (.ref a)
theorem Odd.of {K : PySem.W.Frag} {H : Hp} {v : V} {d : PyData} (h : Dp K H v d) : Odd K H v := by
  cases h with
  | non => exact .non
  | bl b => exact .bl b
  | int i => exact .int i
  | str x => exact .str x
  | lst h _ => exact .lst h
  | tup h _ => exact .tup h
def isNum (lo hi : Int) : V → Bool
  | .int i => decide (lo ≤ i) && decide (i ≤ hi)
  | _ => false
def spIsNum (K : PySem.W.Frag) : Sp := fun vs H Q _ => ∃ (v : V) (lo hi : Int), vs = [v, .int lo, .int hi] ∧ Odd K H v ∧ Q (.bl (isNum lo hi v)) H
def spIs (K : PySem.W.Frag) (lo hi : Int) : Sp := fun vs H Q _ => ∃ (v : V), vs = [v] ∧ Odd K H v ∧ Q (.bl (isNum lo hi v)) H
section
variable {P : Program} {w : World} {K : PySem.W.Frag} {mg : Str → Option Value} {base : Heap} {A : Adr}
theorem ok_is_number (T : Txt K mg A) : FnOk P w K mg base CX0 1 A.is_number A.is_number_ ["value", "low", "high"] (spIsNum K) := by
  refine T.is_number.F.ok sc_is_number (fun vs H Q E h => ?_) (fun cdv Ar outer s H vs Q E hr h => ?_)
  · obtain ⟨v, lo, hi, rfl, _⟩ := h
    rfl
  · obtain ⟨v, lo, hi, rfl, od, k⟩ := h
    refine ⟨_, (pss_cons (ps_if (PW.pt (pw_or (pt_val (pe_callB call_isi (by rfl) T.n_isinstance PyProof.Rows.boot_isinstance (pa_cons (pv 0) (pa_cons (pe_bltn (v := .ty "bool") (by rfl) T.n_bool (by decide +kernel) rfl) pa_nil)))) (pw_or1 (pt_not (pt_val (pe_callB call_isi (by rfl) T.n_isinstance PyProof.Rows.boot_isinstance (pa_cons (pv 0) (pa_cons (pe_bltn (v := .ty "int") (by rfl) T.n_int (by decide +kernel) rfl) pa_nil))))))))
    (pss_one (ps_ret pe_bl))
    pss_nil)
    (pss_one (ps_ret (pe_chain op_le op_le (pv 1) (pv 0) (pv 2))))), ?_⟩
    refine ⟨v, rfl, ?_⟩
    cases od with
    | non =>
      refine ⟨_, _, .type "NoneType", _, false, rfl, .ty _, .base .non, kit_ty (by decide +kernel), _, rfl, ?_⟩
      refine ⟨_, rfl, _, _, .type "NoneType", _, false, rfl, .ty _, .base .non, kit_ty (by decide +kernel), _, rfl, ?_⟩
      exact k
    | bl b =>
      refine ⟨_, _, .type "bool", _, true, rfl, .ty _, .base (.bl b), kit_ty (by decide +kernel), _, rfl, ?_⟩
      exact k
    | int i =>
      refine ⟨_, _, .type "int", _, false, rfl, .ty _, .base (.int i), kit_ty (by decide +kernel), _, rfl, ?_⟩
      refine ⟨_, rfl, _, _, .type "int", _, true, rfl, .ty _, .base (.int i), kit_ty (by decide +kernel), _, rfl, ?_⟩
      refine iteF ?_
      refine ⟨_, rfl, _, rfl, _, _, rfl, rfl, _, rfl, ?_⟩
      have e : isNum lo hi (.int i) = (decide (lo ≤ i) && decide (i ≤ hi)) := rfl
      rw [e] at k
      cases h1 : decide (lo ≤ i) with
      | true =>
        rw [h1] at k
        refine ite2 (fun _ => ?_) (fun z => absurd rfl z)
        refine ⟨_, rfl, _, _, rfl, rfl, ?_⟩
        exact k
      | false =>
        rw [h1] at k
        exact iteF k
    | str x =>
      refine ⟨_, _, .type "str", _, false, rfl, .ty _, .base (.str x), kit_ty (by decide +kernel), _, rfl, ?_⟩
      refine ⟨_, rfl, _, _, .type "str", _, false, rfl, .ty _, .base (.str x), kit_ty (by decide +kernel), _, rfl, ?_⟩
      exact k
    | lst hl =>
      refine ⟨_, _, .type "list", _, false, rfl, .ty _, (ty_lst hl), kit_ty (by decide +kernel), _, rfl, ?_⟩
      refine ⟨_, rfl, _, _, .type "list", _, false, rfl, .ty _, (ty_lst hl), kit_ty (by decide +kernel), _, rfl, ?_⟩
      exact k
    | tup hl =>
      refine ⟨_, _, .type "tuple", _, false, rfl, .ty _, (ty_tupD hl), kit_ty (by decide +kernel), _, rfl, ?_⟩
      refine ⟨_, rfl, _, _, .type "tuple", _, false, rfl, .ty _, (ty_tupD hl), kit_ty (by decide +kernel), _, rfl, ?_⟩
      exact k
theorem ok_is_question (T : Txt K mg A) : FnOk P w K mg base CX0 2 A.is_question A.is_question_ ["value"] (spIs K 0 9999) := by
  refine T.is_question.F.ok sc_is_question (fun vs H Q E h => ?_) (fun cdv Ar outer s H vs Q E hr h => ?_)
  · obtain ⟨v, rfl, _⟩ := h
    rfl
  · obtain ⟨v, rfl, od, k⟩ := h
    refine ⟨_, (pss_one (ps_ret (pe_call (ok_is_number T) (hr.mono (by decide)) (by rfl) T.is_number.n T.is_number.F.kp T.is_number.b .nil pass0 (pa_cons (pv 0) (pa_cons pe_int (pa_cons (pe_gv (by rfl) T.c_LAST_QUESTION) pa_nil)))))), ?_⟩
    exact ⟨_, rfl, v, 0, 9999, rfl, od, k⟩
theorem ok_is_seed (T : Txt K mg A) : FnOk P w K mg base CX0 2 A.is_seed A.is_seed_ ["value"] (spIs K 0 999) := by
  refine T.is_seed.F.ok sc_is_seed (fun vs H Q E h => ?_) (fun cdv Ar outer s H vs Q E hr h => ?_)
  · obtain ⟨v, rfl, _⟩ := h
    rfl
  · obtain ⟨v, rfl, od, k⟩ := h
    refine ⟨_, (pss_one (ps_ret (pe_call (ok_is_number T) (hr.mono (by decide)) (by rfl) T.is_number.n T.is_number.F.kp T.is_number.b .nil pass0 (pa_cons (pv 0) (pa_cons pe_int (pa_cons (pe_gv (by rfl) T.c_LAST_SEED) pa_nil)))))), ?_⟩
    exact ⟨_, rfl, v, 0, 999, rfl, od, k⟩
theorem ok_is_divisor (T : Txt K mg A) : FnOk P w K mg base CX0 2 A.is_divisor A.is_divisor_ ["value"] (spIs K 2 99) := by
  refine T.is_divisor.F.ok sc_is_divisor (fun vs H Q E h => ?_) (fun cdv Ar outer s H vs Q E hr h => ?_)
  · obtain ⟨v, rfl, _⟩ := h
    rfl
  · obtain ⟨v, rfl, od, k⟩ := h
    refine ⟨_, (pss_one (ps_ret (pe_call (ok_is_number T) (hr.mono (by decide)) (by rfl) T.is_number.n T.is_number.F.kp T.is_number.b .nil pass0 (pa_cons (pv 0) (pa_cons (pe_gv (by rfl) T.c_LEAST_DIVISOR) (pa_cons (pe_gv (by rfl) T.c_MOST_DIVISOR) pa_nil)))))), ?_⟩
    exact ⟨_, rfl, v, 2, 99, rfl, od, k⟩
end
end Mh
namespace Mh
open PySem L2
local macro_rules | `(tactic| walk_at "g") => `(tactic| repeat (first
  | refine ⟨_, rfl, ?_⟩
  | refine ⟨_, _, rfl, rfl, ?_⟩
  | refine ⟨rfl, ?_⟩))
/-- a pattern of another length; of this length; another text; this text; a name -/
local macro_rules | `(tactic| walk_at "len-") => `(tactic| (refine ⟨_, _, rfl, (by assumption), ifn (by simp) ?_⟩))
local macro_rules | `(tactic| walk_at "len+") => `(tactic| (refine ⟨_, _, rfl, (by assumption), ifp rfl ?_⟩))
local macro_rules | `(tactic| walk_at "str-") => `(tactic| (refine ⟨_, _, rfl, rfl, ifn (by decide +kernel) ?_⟩))
local macro_rules | `(tactic| walk_at "str+") => `(tactic| (refine ⟨_, _, rfl, rfl, ifp rfl ?_⟩))
local macro_rules | `(tactic| walk_at "name") => `(tactic| (refine ⟨_, _, rfl, ?_⟩))
section
variable {K : PySem.W.Frag} {H : Hp}
/-! what stands at an address, test by test -/
theorem dp_1 {v : V} {x : Str} (h : Dp K H v (.tuple [.str x])) : ∃ a, v = .ref a ∧ SqT K H a [.str x] := by
  obtain ⟨a, xs, rfl, hs, ha⟩ := dp_tup h
  obtain ⟨u, r, rfl, h1, h2⟩ := dps_cons ha
  have e := dps_nil h2
  subst e
  have e := dp_str h1
  subst e
  exact ⟨a, rfl, hs⟩
theorem dp_2 {v : V} {x : Str} {d : PyData} (h : Dp K H v (.tuple [.str x, d])) : ∃ a u, v = .ref a ∧ SqT K H a [.str x, u] ∧ Dp K H u d := by
  obtain ⟨a, xs, rfl, hs, ha⟩ := dp_tup h
  obtain ⟨u, r, rfl, h1, h2⟩ := dps_cons ha
  obtain ⟨u2, r2, rfl, h3, h4⟩ := dps_cons h2
  have e := dps_nil h4
  subst e
  have e := dp_str h1
  subst e
  exact ⟨a, u2, rfl, hs, h3⟩
theorem dp_2i {v : V} {x : Str} {i : Int} (h : Dp K H v (.tuple [.str x, .int i])) : ∃ a, v = .ref a ∧ SqT K H a [.str x, .int i] := by
  obtain ⟨a, u, rfl, hs, h1⟩ := dp_2 h
  have e := dp_int h1
  subst e
  exact ⟨a, rfl, hs⟩
theorem dp_3i {v : V} {x : Str} {i j : Int} (h : Dp K H v (.tuple [.str x, .int i, .int j])) : ∃ a, v = .ref a ∧ SqT K H a [.str x, .int i, .int j] := by
  obtain ⟨a, xs, rfl, hs, ha⟩ := dp_tup h
  obtain ⟨u, r, rfl, h1, h2⟩ := dps_cons ha
  obtain ⟨u2, r2, rfl, h3, h4⟩ := dps_cons h2
  obtain ⟨u3, r3, rfl, h5, h6⟩ := dps_cons h4
  have e := dps_nil h6
  subst e
  have e := dp_str h1
  subst e
  have e := dp_int h3
  subst e
  have e := dp_int h5
  subst e
  exact ⟨a, rfl, hs⟩
theorem dp_pair {v : V} {d e : PyData} (h : Dp K H v (.tuple [d, e])) : ∃ a u z, v = .ref a ∧ SqT K H a [u, z] ∧ Dp K H u d ∧ Dp K H z e := by
  obtain ⟨a, xs, rfl, hs, ha⟩ := dp_tup h
  obtain ⟨u, r, rfl, h1, h2⟩ := dps_cons ha
  obtain ⟨u2, r2, rfl, h3, h4⟩ := dps_cons h2
  have e := dps_nil h4
  subst e
  exact ⟨a, u, u2, rfl, hs, h1, h3⟩
end
theorem dI {i j : Int} : decide (V.int i = V.int j) = decide (i = j) := by
  by_cases h : i = j
  · subst h
    rw [decide_eq_true rfl, decide_eq_true rfl]
  · rw [decide_eq_false h, decide_eq_false fun z => h (V.int.inj z)]
theorem inV_ints {ns : List Int} {q : Int} : inV (.int q) (ns.map V.int) = decide (q ∈ ns) := by
  unfold inV
  induction ns with
  | nil => simp
  | cons n ns ih =>
    rw [List.map_cons, List.any_cons, ih]
    by_cases e : q = n
    · subst e
      simp [eqV]
    · have e2 : ¬ n = q := fun z => e z.symm
      simp [eqV, e, e2]
theorem flat_ints {ns : List Int} : (ns.map V.int).all flatV = true := by
  rw [List.all_eq_true]
  intro x hx
  obtain ⟨n, _, rfl⟩ := List.mem_map.mp hx
  rfl
def spHolds (K : PySem.W.Frag) : Sp := fun vs H Q _ => ∃ (v : V) (t : Tst) (q s : Int), vs = [v, .int q, .int s] ∧ Dp K H v t.dt ∧ t.Ok ∧ Q (.bl (t.holds q s)) H
def spOut (K : PySem.W.Frag) : Sp := fun vs H Q _ => ∃ (v : V) (a : Asw) (q : Int), vs = [v, .int q] ∧ Dp K H v a.dt ∧ a.Ok ∧ Q (oV (a.out q)) H
def spRun (K : PySem.W.Frag) : Sp := fun vs H Q _ => ∃ (v : V) (m : Mach) (q s : Int), vs = [v, .int q, .int s] ∧ Dp K H v (machDt m) ∧ MachOk m ∧ Q (oV (tell q s m)) H
section
variable {P : Program} {w : World} {K : PySem.W.Frag} {mg : Str → Option Value} {base : Heap} {A : Adr}
theorem ok_does_hold (T : Txt K mg A) : FnOk P w K mg base CX0 1 A.does_hold A.does_hold_ ["test", "question", "seed"] (spHolds K) := by
  refine T.does_hold.F.ok sc_does_hold (fun vs H Q E h => ?_) (fun cdv Ar outer s H vs Q E hr h => ?_)
  · obtain ⟨v, t, q, s, rfl, _⟩ := h
    rfl
  · obtain ⟨v, t, q, z, rfl, hv, ho, k⟩ := h
    refine ⟨_, (pss_one (ps_match (pv 0) (pcs_cons [] sc_does_hold.nd own0 (pp_seq (ppq_cons pp_str ppq_nil)) (pss_one (ps_ret pe_bl))
    (pcs_cons [("bound", 3)] sc_does_hold.nd (ownC ⟨rfl, Or.inl rfl, Or.inl rfl⟩ own0) (pp_seq (ppq_cons pp_str (ppq_cons pp_name ppq_nil))) (pss_one (ps_ret (pe_cmpR op_lt (pv 1) (pv 3) (nomark _))))
    (pcs_cons [("divisor", 4), ("rest", 5)] sc_does_hold.nd (ownC ⟨rfl, Or.inl rfl, Or.inl rfl⟩ (ownC ⟨rfl, Or.inl rfl, Or.inl rfl⟩ own0)) (pp_seq (ppq_cons pp_str (ppq_cons pp_name (ppq_cons pp_name ppq_nil)))) (pss_one (ps_ret (pe_cmpR op_eq (pe_op op_mod (pv 1) (pv 4)) (pv 5) (nomark _))))
    (pcs_cons [("divisor", 4), ("rest", 5)] sc_does_hold.nd (ownC ⟨rfl, Or.inl rfl, Or.inl rfl⟩ (ownC ⟨rfl, Or.inl rfl, Or.inl rfl⟩ own0)) (pp_seq (ppq_cons pp_str (ppq_cons pp_name (ppq_cons pp_name ppq_nil)))) (pss_one (ps_ret (pe_cmpR op_eq (pe_op op_mod (pe_op op_add (pe_op op_mul pe_int (pv 1)) (pe_op op_mul pe_int (pv 2))) (pv 4)) (pv 5) (nomark _))))
    (pcs_cons [("numbers", 6)] sc_does_hold.nd (ownC ⟨rfl, Or.inl rfl, Or.inl rfl⟩ own0) (pp_seq (ppq_cons pp_str (ppq_cons pp_name ppq_nil))) (pss_one (ps_ret (pe_cmpR op_in_seq (pv 1) (pv 6) (by rfl))))
    (pcs_cons [] sc_does_hold.nd own0 pp_any (pss_one (ps_ret pe_bl))
    pcs_nil)))))))), ?_⟩
    refine ⟨_, rfl, ?_⟩
    cases t with
    | any =>
      obtain ⟨a, rfl, hs⟩ := dp_1 hv
      walk_at "len+"
      walk_at "str+"
      exact ⟨rfl, k⟩
    | below n =>
      obtain ⟨a, rfl, hs⟩ := dp_2i hv
      walk_at "len-"
      walk_at "len+"
      walk_at "str+"
      walk_at "name"
      refine ⟨rfl, ?_⟩
      walk_at "g"
      exact k
    | rest m r =>
      obtain ⟨a, rfl, hs⟩ := dp_3i hv
      walk_at "len-"
      walk_at "len-"
      walk_at "len+"
      walk_at "str+"
      walk_at "name"
      walk_at "name"
      refine ⟨rfl, ?_⟩
      walk_at "g"
      refine ⟨by have := ho.1; show 0 < m; omega, ?_⟩
      walk_at "g"
      show Q (.bl (decide (V.int (q % m) = V.int r))) H
      rw [dI]
      exact k
    | chance m r =>
      obtain ⟨a, rfl, hs⟩ := dp_3i hv
      walk_at "len-"
      walk_at "len-"
      walk_at "len+"
      walk_at "str-"
      walk_at "len+"
      walk_at "str+"
      walk_at "name"
      walk_at "name"
      refine ⟨rfl, ?_⟩
      refine ⟨_, rfl, _, _, rfl, rfl, .inl (by decide), _, rfl, _, _, rfl, rfl, .inl (by decide), ?_⟩
      walk_at "g"
      refine ⟨by have := ho.1; show 0 < m; omega, ?_⟩
      walk_at "g"
      show Q (.bl (decide (V.int ((7 * q + 13 * z) % m) = V.int r))) H
      rw [dI]
      exact k
    | known ks =>
      obtain ⟨a, u, rfl, hs, hu⟩ := dp_2 hv
      obtain ⟨b, xs, rfl, hb, hx⟩ := dp_tup hu
      have e := dps_ints hx
      subst e
      walk_at "len-"
      walk_at "len+"
      walk_at "str-"
      walk_at "len-"
      walk_at "len-"
      walk_at "len+"
      walk_at "str+"
      walk_at "name"
      refine ⟨rfl, ?_⟩
      refine ⟨_, rfl, _, rfl, b, _, rfl, .inr hb, rfl, flat_ints, ?_⟩
      show Q (.bl (inV (.int q) (ks.map V.int))) H
      rw [inV_ints]
      exact k
theorem ok_outcome (T : Txt K mg A) : FnOk P w K mg base CX0 1 A.outcome A.outcome_ ["answer", "question"] (spOut K) := by
  refine T.outcome.F.ok sc_outcome (fun vs H Q E h => ?_) (fun cdv Ar outer s H vs Q E hr h => ?_)
  · obtain ⟨v, t, q, rfl, _⟩ := h
    rfl
  · obtain ⟨v, t, q, rfl, hv, ho, k⟩ := h
    refine ⟨_, (pss_one (ps_match (pv 0) (pcs_cons [("number", 2)] sc_outcome.nd (ownC ⟨rfl, Or.inl rfl, Or.inl rfl⟩ own0) (pp_seq (ppq_cons pp_str (ppq_cons pp_name ppq_nil))) (pss_one (ps_ret (pv 2)))
    (pcs_cons [("number", 2)] sc_outcome.nd (ownC ⟨rfl, Or.inl rfl, Or.inl rfl⟩ own0) (pp_seq (ppq_cons pp_str (ppq_cons pp_name ppq_nil))) (pss_one (ps_ret (pe_op op_add (pv 1) (pv 2))))
    (pcs_cons [("number", 2)] sc_outcome.nd (ownC ⟨rfl, Or.inl rfl, Or.inl rfl⟩ own0) (pp_seq (ppq_cons pp_str (ppq_cons pp_name ppq_nil))) (pss_one (ps_ret (pe_op op_mul (pv 1) (pv 2))))
    (pcs_cons [("divisor", 3)] sc_outcome.nd (ownC ⟨rfl, Or.inl rfl, Or.inl rfl⟩ own0) (pp_seq (ppq_cons pp_str (ppq_cons pp_name ppq_nil))) (pss_one (ps_ret (pe_op op_mod (pv 1) (pv 3))))
    (pcs_cons [] sc_outcome.nd own0 pp_any (pss_one (ps_ret pe_non))
    pcs_nil))))))), ?_⟩
    refine ⟨_, rfl, ?_⟩
    cases t with
    | num n =>
      obtain ⟨a, rfl, hs⟩ := dp_2i hv
      walk_at "len+"
      walk_at "str+"
      walk_at "name"
      exact ⟨rfl, _, rfl, k⟩
    | plus n =>
      obtain ⟨a, rfl, hs⟩ := dp_2i hv
      walk_at "len+"
      walk_at "str-"
      walk_at "len+"
      walk_at "str+"
      walk_at "name"
      exact ⟨rfl, _, rfl, _, rfl, _, _, rfl, rfl, k⟩
    | times n =>
      obtain ⟨a, rfl, hs⟩ := dp_2i hv
      walk_at "len+"
      walk_at "str-"
      walk_at "len+"
      walk_at "str-"
      walk_at "len+"
      walk_at "str+"
      walk_at "name"
      exact ⟨rfl, _, rfl, _, rfl, _, _, rfl, rfl, .inr ⟨by have := ho.1; omega, by have := ho.2; omega⟩, k⟩
    | rest m =>
      obtain ⟨a, rfl, hs⟩ := dp_2i hv
      walk_at "len+"
      walk_at "str-"
      walk_at "len+"
      walk_at "str-"
      walk_at "len+"
      walk_at "str-"
      walk_at "len+"
      walk_at "str+"
      walk_at "name"
      exact ⟨rfl, _, rfl, _, rfl, _, _, rfl, rfl, (by have := ho.1; show 0 < m; omega), k⟩
    | non =>
      obtain ⟨a, rfl, hs⟩ := dp_1 hv
      walk_at "len-"
      walk_at "len-"
      walk_at "len-"
      walk_at "len-"
      exact ⟨rfl, k⟩
end
end Mh
namespace Mh
open PySem L2
local macro_rules | `(tactic| walk_at "g") => `(tactic| repeat (first
  | refine ⟨_, rfl, ?_⟩
  | refine ⟨_, _, rfl, rfl, ?_⟩
  | refine ⟨rfl, ?_⟩))
theorem row_at {K : PySem.W.Frag} {H : Hp} {vs : List V} {m : Mach} {i : Nat} {x : V} (ha : DpAll K H vs (m.map rowDt)) (hi : vs[i]? = some x) :
    ∃ t a, m[i]? = some (t, a) ∧ ∃ p u z, x = .ref p ∧ SqT K H p [u, z] ∧ Dp K H u t.dt ∧ Dp K H z a.dt := by
  obtain ⟨d, h1, h2⟩ := dps_get ha hi
  rw [List.getElem?_map] at h1
  cases e : m[i]? with
  | none =>
    rw [e] at h1
    cases h1
  | some r =>
    rw [e] at h1
    have e2 : rowDt r = d := Option.some.inj h1
    subst e2
    exact ⟨r.1, r.2, rfl, dp_pair h2⟩
theorem drop_at {α : Type} {m : List α} {i : Nat} {r : α} (h : m[i]? = some r) : m.drop i = r :: m.drop (i + 1) := by
  obtain ⟨h1, h2⟩ := List.getElem?_eq_some_iff.mp h
  rw [List.drop_eq_getElem_cons h1, h2]
section
variable {P : Program} {w : World} {K : PySem.W.Frag} {mg : Str → Option Value} {base : Heap} {A : Adr}
theorem ok_run (T : Txt K mg A) : FnOk P w K mg base CX0 2 A.run A.run_ ["machine", "question", "seed"] (spRun K) := by
  refine T.run.F.ok sc_run (fun vs H Q E h => ?_) (fun cdv Ar outer s H vs Q E hr h => ?_)
  · obtain ⟨v, t, q, z, rfl, _⟩ := h
    rfl
  · obtain ⟨v, m, q, z, rfl, hv, ho, k⟩ := h
    obtain ⟨p, vs, rfl, hs, ha⟩ := dp_tup hv
    refine ⟨_, (pss_cons (ps_for PassesOwn.never rfl (pi_tup (pv 0)) (pg_tup rfl (pgs_cons (pg_name (i := 3) sc_run.nd rfl (Or.inl rfl)) (pgs_cons (pg_name (i := 4) sc_run.nd rfl (Or.inl rfl)) pgs_nil)))
    (pss_one (ps_if (pt_val (pe_call (ok_does_hold T) (hr.mono (by decide)) (by rfl) T.does_hold.n T.does_hold.F.kp T.does_hold.b .nil pass0 (pa_cons (pv 3) (pa_cons (pv 1) (pa_cons (pv 2) pa_nil)))))
    (pss_one (ps_ret (pe_call (ok_outcome T) (hr.mono (by decide)) (by rfl) T.outcome.n T.outcome.F.kp T.outcome.b .nil pass0 (pa_cons (pv 4) (pa_cons (pv 1) pa_nil)))))
    pss_nil)))
    (pss_one (ps_ret pe_non))), ?_⟩
    refine ⟨_, rfl, p, rfl, ⟨vs, hs⟩, for_tup (K := K) (a := p) (xs := vs) (fun i σ H' => H' = H ∧ (∃ x y, σ = [some (.ref p), some (.int q), some (.int z), x, y]) ∧ tell q z m = tell q z (m.drop i)) ⟨rfl, ⟨_, _, rfl⟩, rfl⟩
      (fun i σ H' _ ⟨e, _⟩ => by rw [e]; exact hs) ?_ ?_⟩
    · rintro i x σ H' hi ⟨rfl, ⟨y1, y2, rfl⟩, et⟩
      obtain ⟨t, a, hm, b, u, y, rfl, hb, hu, hy⟩ := row_at ha hi
      obtain ⟨ok1, ok2⟩ := ho.2.2 _ (List.mem_of_getElem? hm)
      rw [drop_at hm] at et
      refine ⟨b, _, rfl, hb, rfl, _, _, rfl, _, _, rfl, rfl, ?_⟩
      refine ⟨_, rfl, _, rfl, _, rfl, u, t, q, z, rfl, hu, ok1, _, rfl, ?_⟩
      refine ite2 (fun e => ?_) (fun e => ?_)
      · refine ⟨_, rfl, _, rfl, y, a, q, rfl, hy, ok2, ?_⟩
        have e2 : tell q z m = a.out q := by
          rw [et]
          show (if t.holds q z = true then a.out q else _) = _
          rw [if_pos e]
        rw [← e2]
        exact k
      · refine ⟨rfl, ⟨_, _, rfl⟩, ?_⟩
        rw [et]
        show (if t.holds q z = true then a.out q else _) = _
        rw [if_neg e]
    · rintro σ H' ⟨rfl, ⟨y1, y2, rfl⟩, et⟩
      have hl : vs.length = m.length := by
        have e := dps_len ha
        rwa [List.length_map] at e
      rw [hl, List.drop_length] at et
      rw [et] at k
      exact k
end
def spKnown (K : PySem.W.Frag) : Sp := fun vs H Q _ => ∃ (a : Addr) (ks : List Int), vs = [.ref a] ∧ SqT K H a (ks.map V.int) ∧ (Tst.known ks).Ok ∧ ∀ H', Same H H' → Q (.bl true) H'
def spTst (K : PySem.W.Frag) : Sp := fun vs H Q _ => ∃ (v : V) (t : Tst), vs = [v] ∧ Dp K H v t.dt ∧ t.Ok ∧ ∀ H', Same H H' → Q (.bl true) H'
def spAsw (K : PySem.W.Frag) : Sp := fun vs H Q _ => ∃ (v : V) (t : Asw), vs = [v] ∧ Dp K H v t.dt ∧ t.Ok ∧ ∀ H', Same H H' → Q (.bl true) H'
def spRow (K : PySem.W.Frag) : Sp := fun vs H Q _ => ∃ (v : V) (r : Tst × Asw), vs = [v] ∧ Dp K H v (rowDt r) ∧ r.1.Ok ∧ r.2.Ok ∧ ∀ H', Same H H' → Q (.bl true) H'
end Mh
namespace Mh
open PySem L2
local macro_rules | `(tactic| walk_at "g") => `(tactic| repeat (first
  | refine ⟨_, rfl, ?_⟩
  | refine ⟨_, _, rfl, rfl, ?_⟩
  | refine ⟨rfl, ?_⟩))
theorem ty_tup {K : PySem.W.Frag} {H : Hp} {a : Addr} {xs : List V} (h : SqT K H a xs) : TyX K H (.ref a) (.type "tuple") := by
  rcases h with h | h
  · rcases h with h | ⟨o, h⟩
    · exact .base (.tup h)
    · exact .fTuple h
  · obtain ⟨o, its, n, h1, h2, _⟩ := h
    exact .kTuple h1 h2
theorem walk_zipT {K : PySem.W.Frag} {a b : Addr} {xs ys : List V} {n : Nat} (hn : n = min xs.length ys.length) : Walk (RZ.ItzT K a b) n (fun H => SqT K H a xs ∧ SqT K H b ys) (YPair (fun i => xs[i]?) (fun i => ys[i]?)) := by
  subst hn
  refine ⟨fun i _ hi q => ?_, fun _ q => ⟨xs, ys, q.1, q.2, by omega⟩, fun i H v H' _ q y => ?_⟩
  · exact ⟨xs, ys, xs[i]'(by omega), ys[i]'(by omega), q.1, q.2, by simp [show i < xs.length by omega], by simp [show i < ys.length by omega]⟩
  · obtain ⟨p, x, z, h1, h2, h3, h4, h5⟩ := y
    exact ⟨p, x, z, h1, h2, h3, h4 xs q.1, h5 ys q.2⟩
theorem yes_ {σ : St} {H : Hp} {Q : Bool → Hp → Prop} (h : Q true H) : tYes σ H Q := h
theorem int_at {ks : List Int} {i : Nat} {x : V} (h : (ks.map V.int)[i]? = some x) : ∃ z, ks[i]? = some z ∧ x = .int z := by
  rw [List.getElem?_map] at h
  cases e : ks[i]? with
  | none =>
    rw [e] at h
    cases h
  | some z =>
    rw [e] at h
    exact ⟨z, rfl, (Option.some.inj h).symm⟩
theorem same_put {H H1 : Hp} {p : Addr} {o : HO} (a : Same H H1) (h : H p = none) : Same H (upd H1 p o) := fun b u e => by
  rw [upd_ne (ne_of_none e h)]
  exact a b u e
section
variable {P : Program} {w : World} {K : PySem.W.Frag} {mg : Str → Option Value} {base : Heap} {A : Adr}
theorem ok_is_known (T : Txt K mg A) : FnOk P w K mg base CX0 3 A.is_known A.is_known_ ["numbers"] (spKnown K) := by
  refine T.is_known.F.ok sc_is_known (fun vs H Q E h => ?_) (fun cdv Ar outer s H vs Q E hr h => ?_)
  · obtain ⟨v, t, rfl, _⟩ := h
    rfl
  · obtain ⟨a, ks, rfl, hs, ⟨l1, l8, pw, hk⟩, k⟩ := h
    refine ⟨_, (pss_cons (ps_if (PW.pt (pw_or (pt_not (pt_val (pe_callB call_isi (by rfl) T.n_isinstance PyProof.Rows.boot_isinstance (pa_cons (pv 0) (pa_cons (pe_bltn (v := .ty "tuple") (by rfl) T.n_tuple PyProof.Rows.boot_tuple rfl) pa_nil))))) (pw_or1 (pt_not (pt_chain op_le op_le pe_int (pe_callB call_len_seq (by rfl) T.n_len PySem.boot_len (pa_cons (pv 0) pa_nil)) (pe_gv (by rfl) T.c_MOST_KNOWN))))))
    (pss_one (ps_ret pe_bl))
    pss_nil)
    (pss_cons (ps_if (pt_not (pt_val (pe_callB (cr_all rfl) (by rfl) T.n_all PyProof.Rows.boot_all (pa_cons (pe_lc (own := [("number", 3)]) (g := gName 3) (tt := tYes) rfl sc_is_known.nd (pi_tup (pv 0)) (blkOk_by (N := N_is_known) (sc := defScope s_is_known) (by decide +kernel)) (fun _ _ _ _ _ => pg_name (i := 3) sc_is_known.nd rfl (Or.inl rfl) (hf := Or.inr rfl)) (fun _ _ _ _ _ => pts_nil) (fun _ _ _ _ _ => (pe_call (ok_is_question T) (hr.mono (by decide)) (by rfl) T.is_question.n T.is_question.F.kp T.is_question.b .nil pass0 (pa_cons (pv 3) pa_nil)))) pa_nil))))
    (pss_one (ps_ret pe_bl))
    pss_nil)
    (pss_one (ps_ret (pe_callB (cr_all rfl) (by rfl) T.n_all PyProof.Rows.boot_all (pa_cons (pe_lc (own := [("one", 1), ("other", 2)]) (g := gTup K 2 (gCons (gName 1) (gCons (gName 2) gNil))) (tt := tYes) rfl sc_is_known.nd (RZ.pi_zipA (by rfl) T.n_zip (pa_cons (pv 0) (pa_cons (pe_slice sl_tup (pv 0) (po_some pe_int) po_none) pa_nil))) (blkOk_by (N := N_is_known) (sc := defScope s_is_known) (by decide +kernel)) (fun _ _ _ _ _ => pg_tup rfl (pgs_cons (pg_name (i := 1) sc_is_known.nd rfl (Or.inl rfl) (hf := Or.inr rfl)) (pgs_cons (pg_name (i := 2) sc_is_known.nd rfl (Or.inl rfl) (hf := Or.inr rfl)) pgs_nil))) (fun _ _ _ _ _ => pts_nil) (fun _ _ _ _ _ => (pe_cmpR op_lt (pv 1) (pv 2) (nomark _)))) pa_nil)))))), ?_⟩
    refine ⟨_, rfl, _, _, .type "tuple", _, true, rfl, .ty _, ty_tup hs, kit_ty (by decide +kernel), _, rfl, ?_⟩
    refine iteF ?_
    refine ⟨_, rfl, a, _, rfl, .inr hs, _, _, rfl, rfl, _, rfl, ?_⟩
    refine ifp (by rw [List.length_map]; exact decide_eq_true (by omega)) ?_
    refine ⟨_, _, rfl, rfl, _, rfl, ?_⟩
    refine ifn (by rw [List.length_map, decide_eq_true (show ((ks.length : Nat) : Int) ≤ 8 by omega)]; simp) ?_
    refine ⟨_, rfl, a, rfl, ⟨_, hs⟩, fun D hD => lc_tup (K := K) (a := a) (xs := ks.map V.int) (fun i H' => Same H H' ∧ H' D = some (.lst ((List.replicate i true).map V.bl))) ⟨(Bt.new (S := []) hD).same, upd_same⟩ (fun i H' _ p => KT.same p.1 _ _ hs) ?_ ?_⟩
    · rintro i x H' hi ⟨sm, hl⟩
      obtain ⟨z, hz, rfl⟩ := int_at hi
      have hz2 := hk z (List.mem_of_getElem? hz)
      have il : i < ks.length := (List.getElem?_eq_some_iff.mp hz).1
      refine ⟨rfl, ?_⟩
      refine yes_ ?_
      refine iteT ?_
      refine ⟨_, rfl, _, rfl, .int z, _, hl, ?_, same_put sm hD, ?_⟩
      · rw [List.length_map, List.length_replicate, sizeLine_eq]
        omega
      · have e : isNum 0 9999 (.int z) = true := by simp [isNum, hz2.1, hz2.2]
        rw [e, upd_same, List.replicate_succ', List.map_append]
        rfl
    · rintro H1 ⟨sm, hl⟩
      refine ⟨D, _, rfl, SqL.of hl, _, rfl, ?_⟩
      refine ifn (by simp) ?_
      have hs1 := KT.same sm _ _ hs
      refine ⟨_, rfl, _, rfl, ⟨_, rfl, a, _, rfl, hs1, ?_, fun p hp => ?_⟩⟩
      · rw [show (some (1 : Int)) = some ((1 : Nat) : Int) from rfl, HT.sIx_nat, List.length_map]
        omega
      have hc : cutV (ks.map V.int) (some 1) none = (ks.drop 1).map V.int := by
        unfold cutV
        rw [show (some (1 : Int)) = some ((1 : Nat) : Int) from rfl, HT.sIx_nat, HT.sIx_none, List.length_map, Nat.min_eq_left l1, List.map_drop]
        exact List.take_of_length_le (by simp)
      rw [hc]
      have sm2 : Same H (upd H1 p (.tup ((ks.drop 1).map V.int))) := same_put sm (sm.free hp)
      refine ⟨a, p, _, _, rfl, .inr ⟨KT.same sm2 _ _ hs, SqT.of upd_same, fun D2 hD2 => ?_⟩⟩
      have hn : ks.length - 1 = min (ks.map V.int).length ((ks.drop 1).map V.int).length := by
        simp only [List.length_map, List.length_drop]
        omega
      refine lc_it (walk_zipT hn) (fun i H' => Same (upd H1 p (.tup ((ks.drop 1).map V.int))) H' ∧ H' D2 = some (.lst ((List.replicate i true).map V.bl))) ⟨(Bt.new (S := []) hD2).same, upd_same⟩
        (fun i H' _ q => ⟨KT.same (sm2.trans q.1) _ _ hs, KT.same q.1 _ _ (SqT.of upd_same)⟩) ?_ ?_
      · rintro i x H2 H3 hi ⟨sm3, hl3⟩ ⟨b, x1, x2, rfl, hb, rfl, hx1, hx2⟩
        obtain ⟨z1, hz1, rfl⟩ := int_at hx1
        obtain ⟨z2, hz2, rfl⟩ := int_at hx2
        have hlt : z1 < z2 := by
          rw [List.getElem?_drop] at hz2
          obtain ⟨g1, e1⟩ := List.getElem?_eq_some_iff.mp hz1
          obtain ⟨g2, e2⟩ := List.getElem?_eq_some_iff.mp hz2
          have q := List.pairwise_iff_getElem.mp pw i (1 + i) g1 g2 (by omega)
          rw [e1, e2] at q
          exact q
        have nb : D2 ≠ b := ne_of_none hl3 hb
        refine ⟨b, _, rfl, SqT.of upd_same, rfl, _, _, rfl, _, _, rfl, rfl, ?_⟩
        refine ⟨rfl, ?_⟩
        refine yes_ ?_
        refine iteT ?_
        refine ⟨_, rfl, _, rfl, _, _, rfl, rfl, _, (upd_ne nb).trans hl3, ?_, same_put (same_put sm3 (sm3.free hb)) hD2, ?_⟩
        · rw [List.length_map, List.length_replicate, sizeLine_eq]
          omega
        · show upd _ D2 (.lst (_ ++ [V.bl (decide (z1 < z2))])) D2 = _
          rw [decide_eq_true hlt, upd_same, List.replicate_succ', List.map_append]
          rfl
      · rintro H2 ⟨sm3, hl3⟩
        refine ⟨D2, _, rfl, SqL.of hl3, ?_⟩
        have e : (List.replicate (ks.length - 1) true).all id = true := by simp
        rw [e]
        exact k _ (sm2.trans sm3)
end
end Mh
namespace Mh
open PySem L2
local macro_rules | `(tactic| walk_at "len-") => `(tactic| (refine ⟨_, _, rfl, (by assumption), ifn (by simp) ?_⟩))
local macro_rules | `(tactic| walk_at "len+") => `(tactic| (refine ⟨_, _, rfl, (by assumption), ifp rfl ?_⟩))
local macro_rules | `(tactic| walk_at "str-") => `(tactic| (refine ⟨_, _, rfl, rfl, ifn (by decide +kernel) ?_⟩))
local macro_rules | `(tactic| walk_at "str+") => `(tactic| (refine ⟨_, _, rfl, rfl, ifp rfl ?_⟩))
local macro_rules | `(tactic| walk_at "name") => `(tactic| (refine ⟨_, _, rfl, ?_⟩))
theorem isNum_t {lo hi i : Int} (h1 : lo ≤ i) (h2 : i ≤ hi) : isNum lo hi (.int i) = true := by simp [isNum, h1, h2]
def spMach (K : PySem.W.Frag) : Sp := fun vs H Q _ => ∃ (v : V) (m : Mach), vs = [v] ∧ Dp K H v (machDt m) ∧ MachOk m ∧ ∀ H', Same H H' → Q .non H'
def spChk (lo hi : Int) : Sp := fun vs H Q _ => ∃ (i : Int), vs = [.int i] ∧ lo ≤ i ∧ i ≤ hi ∧ Q .non H
def spAnswered (K : PySem.W.Frag) : Sp := fun vs H Q _ => ∃ (v : V) (m : Mach) (q s : Int), vs = [v, .int q, .int s] ∧ Dp K H v (machDt m) ∧ MachOk m ∧ 0 ≤ q ∧ q ≤ 9999 ∧ 0 ≤ s ∧ s ≤ 999 ∧ ∀ H', Same H H' → Q (oV (tell q s m)) H'
section
variable {P : Program} {w : World} {K : PySem.W.Frag} {mg : Str → Option Value} {base : Heap} {A : Adr}
theorem ok_is_test (T : Txt K mg A) : FnOk P w K mg base CX0 4 A.is_test A.is_test_ ["test"] (spTst K) := by
  refine T.is_test.F.ok sc_is_test (fun vs H Q E h => ?_) (fun cdv Ar outer s H vs Q E hr h => ?_)
  · obtain ⟨v, t, rfl, _⟩ := h
    rfl
  · obtain ⟨v, t, rfl, hv, ho, k⟩ := h
    have k0 := k H (Same.refl H)
    refine ⟨_, (pss_cons (ps_if (pt_not (pt_val (pe_callB call_isi (by rfl) T.n_isinstance PyProof.Rows.boot_isinstance (pa_cons (pv 0) (pa_cons (pe_bltn (v := .ty "tuple") (by rfl) T.n_tuple PyProof.Rows.boot_tuple rfl) pa_nil)))))
    (pss_one (ps_ret pe_bl))
    pss_nil)
    (pss_one (ps_match (pv 0) (pcs_cons [] sc_is_test.nd own0 (pp_seq (ppq_cons pp_str ppq_nil)) (pss_one (ps_ret pe_bl))
    (pcs_cons [("bound", 1)] sc_is_test.nd (ownC ⟨rfl, Or.inl rfl, Or.inl rfl⟩ own0) (pp_seq (ppq_cons pp_str (ppq_cons pp_name ppq_nil))) (pss_one (ps_ret (pe_call (ok_is_question T) (hr.mono (by decide)) (by rfl) T.is_question.n T.is_question.F.kp T.is_question.b .nil pass0 (pa_cons (pv 1) pa_nil))))
    (pcs_cons [("divisor", 2), ("rest", 3)] sc_is_test.nd (ownC ⟨rfl, Or.inl rfl, Or.inl rfl⟩ (ownC ⟨rfl, Or.inl rfl, Or.inl rfl⟩ own0)) (pp_seq (ppq_cons (pp_or (ppo_cons pp_str (ppo_cons pp_str ppo_nil))) (ppq_cons pp_name (ppq_cons pp_name ppq_nil)))) (pss_one (ps_ret (pe_and (pe_call (ok_is_divisor T) (hr.mono (by decide)) (by rfl) T.is_divisor.n T.is_divisor.F.kp T.is_divisor.b .nil pass0 (pa_cons (pv 2) pa_nil)) (pe_one (pe_call (ok_is_number T) (hr.mono (by decide)) (by rfl) T.is_number.n T.is_number.F.kp T.is_number.b .nil pass0 (pa_cons (pv 3) (pa_cons pe_int (pa_cons (pe_op op_sub (pv 2) pe_int) pa_nil))))))))
    (pcs_cons [("numbers", 4)] sc_is_test.nd (ownC ⟨rfl, Or.inl rfl, Or.inl rfl⟩ own0) (pp_seq (ppq_cons pp_str (ppq_cons pp_name ppq_nil))) (pss_one (ps_ret (pe_call (ok_is_known T) (hr.mono (by decide)) (by rfl) T.is_known.n T.is_known.F.kp T.is_known.b .nil pass0 (pa_cons (pv 4) pa_nil))))
    (pcs_cons [] sc_is_test.nd own0 pp_any (pss_one (ps_ret pe_bl))
    pcs_nil)))))))), ?_⟩
    cases t with
    | any =>
      obtain ⟨a, rfl, hs⟩ := dp_1 hv
      refine ⟨_, rfl, _, _, .type "tuple", _, true, rfl, .ty _, ty_tup hs, kit_ty (by decide +kernel), _, rfl, ?_⟩
      refine iteF ?_
      refine ⟨_, rfl, ?_⟩
      walk_at "len+"
      walk_at "str+"
      exact ⟨rfl, k0⟩
    | below n =>
      obtain ⟨a, rfl, hs⟩ := dp_2i hv
      refine ⟨_, rfl, _, _, .type "tuple", _, true, rfl, .ty _, ty_tup hs, kit_ty (by decide +kernel), _, rfl, ?_⟩
      refine iteF ?_
      refine ⟨_, rfl, ?_⟩
      walk_at "len-"
      walk_at "len+"
      walk_at "str+"
      walk_at "name"
      refine ⟨rfl, _, rfl, _, rfl, .int n, ?_⟩
      rw [isNum_t ho.1 ho.2]
      exact k0
    | rest m r =>
      obtain ⟨h1, h2, h3, h4⟩ := ho
      obtain ⟨a, rfl, hs⟩ := dp_3i hv
      refine ⟨_, rfl, _, _, .type "tuple", _, true, rfl, .ty _, ty_tup hs, kit_ty (by decide +kernel), _, rfl, ?_⟩
      refine iteF ?_
      refine ⟨_, rfl, ?_⟩
      walk_at "len-"
      walk_at "len-"
      walk_at "len+"
      walk_at "str+"
      walk_at "name"
      walk_at "name"
      refine ⟨rfl, _, rfl, _, rfl, .int m, ?_⟩
      rw [isNum_t h1 h2]
      refine ⟨_, rfl, ?_⟩
      refine iteT ?_
      refine ⟨_, rfl, _, rfl, _, _, rfl, rfl, _, _, _, rfl, .int r, ?_⟩
      rw [isNum_t h3 (by omega)]
      exact k0
    | chance m r =>
      obtain ⟨h1, h2, h3, h4⟩ := ho
      obtain ⟨a, rfl, hs⟩ := dp_3i hv
      refine ⟨_, rfl, _, _, .type "tuple", _, true, rfl, .ty _, ty_tup hs, kit_ty (by decide +kernel), _, rfl, ?_⟩
      refine iteF ?_
      refine ⟨_, rfl, ?_⟩
      walk_at "len-"
      walk_at "len-"
      walk_at "len+"
      walk_at "str-"
      refine ⟨rfl, ifp rfl ?_⟩
      walk_at "name"
      walk_at "name"
      refine ⟨rfl, _, rfl, _, rfl, .int m, ?_⟩
      rw [isNum_t h1 h2]
      refine ⟨_, rfl, ?_⟩
      refine iteT ?_
      refine ⟨_, rfl, _, rfl, _, _, rfl, rfl, _, _, _, rfl, .int r, ?_⟩
      rw [isNum_t h3 (by omega)]
      exact k0
    | known ks =>
      obtain ⟨a, u, rfl, hs, hu⟩ := dp_2 hv
      obtain ⟨b, xs, rfl, hb, hx⟩ := dp_tup hu
      have e := dps_ints hx
      subst e
      refine ⟨_, rfl, _, _, .type "tuple", _, true, rfl, .ty _, ty_tup hs, kit_ty (by decide +kernel), _, rfl, ?_⟩
      refine iteF ?_
      refine ⟨_, rfl, ?_⟩
      walk_at "len-"
      walk_at "len+"
      walk_at "str-"
      walk_at "len-"
      walk_at "len+"
      walk_at "str+"
      walk_at "name"
      exact ⟨rfl, _, rfl, b, ks, rfl, hb, ho, k⟩
theorem ok_is_answer (T : Txt K mg A) : FnOk P w K mg base CX0 4 A.is_answer A.is_answer_ ["answer"] (spAsw K) := by
  refine T.is_answer.F.ok sc_is_answer (fun vs H Q E h => ?_) (fun cdv Ar outer s H vs Q E hr h => ?_)
  · obtain ⟨v, t, rfl, _⟩ := h
    rfl
  · obtain ⟨v, t, rfl, hv, ho, k⟩ := h
    have k0 := k H (Same.refl H)
    refine ⟨_, (pss_cons (ps_if (pt_not (pt_val (pe_callB call_isi (by rfl) T.n_isinstance PyProof.Rows.boot_isinstance (pa_cons (pv 0) (pa_cons (pe_bltn (v := .ty "tuple") (by rfl) T.n_tuple PyProof.Rows.boot_tuple rfl) pa_nil)))))
    (pss_one (ps_ret pe_bl))
    pss_nil)
    (pss_one (ps_match (pv 0) (pcs_cons [("number", 1)] sc_is_answer.nd (ownC ⟨rfl, Or.inl rfl, Or.inl rfl⟩ own0) (pp_seq (ppq_cons (pp_or (ppo_cons pp_str (ppo_cons pp_str (ppo_cons pp_str ppo_nil)))) (ppq_cons pp_name ppq_nil))) (pss_one (ps_ret (pe_call (ok_is_number T) (hr.mono (by decide)) (by rfl) T.is_number.n T.is_number.F.kp T.is_number.b .nil pass0 (pa_cons (pv 1) (pa_cons (pe_un un_neg (pe_gv (by rfl) T.c_MOST_IN_ANSWER)) (pa_cons (pe_gv (by rfl) T.c_MOST_IN_ANSWER) pa_nil))))))
    (pcs_cons [("divisor", 2)] sc_is_answer.nd (ownC ⟨rfl, Or.inl rfl, Or.inl rfl⟩ own0) (pp_seq (ppq_cons pp_str (ppq_cons pp_name ppq_nil))) (pss_one (ps_ret (pe_call (ok_is_divisor T) (hr.mono (by decide)) (by rfl) T.is_divisor.n T.is_divisor.F.kp T.is_divisor.b .nil pass0 (pa_cons (pv 2) pa_nil))))
    (pcs_cons [] sc_is_answer.nd own0 (pp_seq (ppq_cons pp_str ppq_nil)) (pss_one (ps_ret pe_bl))
    (pcs_cons [] sc_is_answer.nd own0 pp_any (pss_one (ps_ret pe_bl))
    pcs_nil))))))), ?_⟩
    cases t with
    | num n =>
      obtain ⟨a, rfl, hs⟩ := dp_2i hv
      refine ⟨_, rfl, _, _, .type "tuple", _, true, rfl, .ty _, ty_tup hs, kit_ty (by decide +kernel), _, rfl, ?_⟩
      refine iteF ?_
      refine ⟨_, rfl, ?_⟩
      walk_at "len+"
      walk_at "str+"
      walk_at "name"
      refine ⟨rfl, _, rfl, _, rfl, _, _, _, rfl, .int n, ?_⟩
      rw [isNum_t ho.1 ho.2]
      exact k0
    | plus n =>
      obtain ⟨a, rfl, hs⟩ := dp_2i hv
      refine ⟨_, rfl, _, _, .type "tuple", _, true, rfl, .ty _, ty_tup hs, kit_ty (by decide +kernel), _, rfl, ?_⟩
      refine iteF ?_
      refine ⟨_, rfl, ?_⟩
      walk_at "len+"
      walk_at "str-"
      refine ⟨rfl, ifp rfl ?_⟩
      walk_at "name"
      refine ⟨rfl, _, rfl, _, rfl, _, _, _, rfl, .int n, ?_⟩
      rw [isNum_t ho.1 ho.2]
      exact k0
    | times n =>
      obtain ⟨a, rfl, hs⟩ := dp_2i hv
      refine ⟨_, rfl, _, _, .type "tuple", _, true, rfl, .ty _, ty_tup hs, kit_ty (by decide +kernel), _, rfl, ?_⟩
      refine iteF ?_
      refine ⟨_, rfl, ?_⟩
      walk_at "len+"
      walk_at "str-"
      refine ⟨rfl, ifn (by decide +kernel) ?_⟩
      refine ⟨rfl, ifp rfl ?_⟩
      walk_at "name"
      refine ⟨rfl, _, rfl, _, rfl, _, _, _, rfl, .int n, ?_⟩
      rw [isNum_t ho.1 ho.2]
      exact k0
    | rest m =>
      obtain ⟨a, rfl, hs⟩ := dp_2i hv
      refine ⟨_, rfl, _, _, .type "tuple", _, true, rfl, .ty _, ty_tup hs, kit_ty (by decide +kernel), _, rfl, ?_⟩
      refine iteF ?_
      refine ⟨_, rfl, ?_⟩
      walk_at "len+"
      walk_at "str-"
      refine ⟨rfl, ifn (by decide +kernel) ?_⟩
      refine ⟨rfl, ifn (by decide +kernel) ?_⟩
      walk_at "len+"
      walk_at "str+"
      walk_at "name"
      refine ⟨rfl, _, rfl, _, rfl, .int m, ?_⟩
      rw [isNum_t ho.1 ho.2]
      exact k0
    | non =>
      obtain ⟨a, rfl, hs⟩ := dp_1 hv
      refine ⟨_, rfl, _, _, .type "tuple", _, true, rfl, .ty _, ty_tup hs, kit_ty (by decide +kernel), _, rfl, ?_⟩
      refine iteF ?_
      refine ⟨_, rfl, ?_⟩
      walk_at "len-"
      walk_at "len-"
      walk_at "len+"
      walk_at "str+"
      exact ⟨rfl, k0⟩
theorem ok_is_row (T : Txt K mg A) : FnOk P w K mg base CX0 5 A.is_row A.is_row_ ["row"] (spRow K) := by
  refine T.is_row.F.ok sc_is_row (fun vs H Q E h => ?_) (fun cdv Ar outer s H vs Q E hr h => ?_)
  · obtain ⟨v, t, rfl, _⟩ := h
    rfl
  · obtain ⟨v, ⟨t, a⟩, rfl, hv, ho1, ho2, k⟩ := h
    obtain ⟨b, u, z, rfl, hs, hu, hz⟩ := dp_pair hv
    refine ⟨_, (pss_cons (ps_if (PW.pt (pw_or (pt_not (pt_val (pe_callB call_isi (by rfl) T.n_isinstance PyProof.Rows.boot_isinstance (pa_cons (pv 0) (pa_cons (pe_bltn (v := .ty "tuple") (by rfl) T.n_tuple PyProof.Rows.boot_tuple rfl) pa_nil))))) (pw_or1 (pt_cmpR op_ne (pe_callB call_len_seq (by rfl) T.n_len PySem.boot_len (pa_cons (pv 0) pa_nil)) pe_int (nomark _)))))
    (pss_one (ps_ret pe_bl))
    pss_nil)
    (pss_one (ps_ret (pe_and (pe_call (ok_is_test T) (hr.mono (by decide)) (by rfl) T.is_test.n T.is_test.F.kp T.is_test.b .nil pass0 (pa_cons (pe_ix ix_tup (pv 0) pe_int (fun _ _ => rfl)) pa_nil)) (pe_one (pe_call (ok_is_answer T) (hr.mono (by decide)) (by rfl) T.is_answer.n T.is_answer.F.kp T.is_answer.b .nil pass0 (pa_cons (pe_ix ix_tup (pv 0) pe_int (fun _ _ => rfl)) pa_nil))))))), ?_⟩
    refine ⟨_, rfl, _, _, .type "tuple", _, true, rfl, .ty _, ty_tup hs, kit_ty (by decide +kernel), _, rfl, ?_⟩
    refine iteF ?_
    refine ⟨_, rfl, b, _, rfl, .inr hs, rfl, _, rfl, ?_⟩
    refine iteF ?_
    refine ⟨_, rfl, b, _, _, _, rfl, rfl, hs, at0, u, t, rfl, hu, ho1, fun H1 s1 => ⟨_, rfl, ?_⟩⟩
    refine iteT ?_
    exact ⟨_, rfl, b, _, _, _, rfl, rfl, KT.same s1 _ _ hs, at1, z, a, rfl, dp_keep (KT.same s1) _ _ a.td hz, ho2, fun H2 s2 => k H2 (s1.trans s2)⟩
end
end Mh
namespace Mh
open PySem L2
def spDice (K : PySem.W.Frag) : Sp := fun vs H Q _ => ∃ (a : Addr) (ns : List Int) (k0 : Int), vs = [.ref a, .int k0] ∧ SqL K H a (ns.map V.int) ∧ ns.length ≤ 63 ∧ 0 ≤ k0 ∧ k0 < 2147483647 ∧
  ∀ p H' xs, H p = none → Same H H' → H' p = some (.lst xs) → Dice xs → Q (.ref p) H'
section
variable {P : Program} {w : World} {K : PySem.W.Frag} {mg : Str → Option Value} {base : Heap} {A : Adr}
theorem ok_check_machine (T : Txt K mg A) : FnOk P w K mg base CX0 6 A.check_machine A.check_machine_ ["machine"] (spMach K) := by
  refine T.check_machine.F.ok sc_check_machine (fun vs H Q E h => ?_) (fun cdv Ar outer s H vs Q E hr h => ?_)
  · obtain ⟨v, t, rfl, _⟩ := h
    rfl
  · obtain ⟨v, m, rfl, hv, ⟨l1, l12, ho⟩, k⟩ := h
    obtain ⟨p, vs, rfl, hs, ha⟩ := dp_tup hv
    have hl : vs.length = m.length := by
      have e := dps_len ha
      rwa [List.length_map] at e
    refine ⟨_, (pss_cons (ps_if (PW.pt (pw_or (pt_not (pt_val (pe_callB call_isi (by rfl) T.n_isinstance PyProof.Rows.boot_isinstance (pa_cons (pv 0) (pa_cons (pe_bltn (v := .ty "tuple") (by rfl) T.n_tuple PyProof.Rows.boot_tuple rfl) pa_nil))))) (pw_or1 (pt_cmpR op_eq (pe_callB call_len_seq (by rfl) T.n_len PySem.boot_len (pa_cons (pv 0) pa_nil)) pe_int (nomark _)))))
    (pss_one ps_never)
    pss_nil)
    (pss_one (ps_for PassesOwn.never rfl (pi_enumT (by rfl) T.n_enumerate (pa_cons (pv 0) pa_nil)) (pg_tup rfl (pgs_cons (pg_name (i := 1) sc_check_machine.nd rfl (Or.inl rfl)) (pgs_cons (pg_name (i := 2) sc_check_machine.nd rfl (Or.inl rfl)) pgs_nil)))
    (pss_one (ps_if (PW.pt (pw_or (pt_cmpR op_eq (pv 1) (pe_gv (by rfl) T.c_MOST_ROWS) (nomark _)) (pw_or1 (pt_not (pt_val (pe_call (ok_is_row T) (hr.mono (by decide)) (by rfl) T.is_row.n T.is_row.F.kp T.is_row.b .nil pass0 (pa_cons (pv 2) pa_nil)))))))
    (pss_one ps_never)
    pss_nil))))), ?_⟩
    refine ⟨_, rfl, _, _, .type "tuple", _, true, rfl, .ty _, ty_tup hs, kit_ty (by decide +kernel), _, rfl, ?_⟩
    refine iteF ?_
    refine ⟨_, rfl, p, _, rfl, .inr hs, rfl, _, rfl, ?_⟩
    refine ifn (by rw [dI, decide_eq_false (by omega)]; simp) ?_
    refine ⟨_, rfl, p, _, rfl, hs, for_it (walk_enumT (xs := vs)) (fun i σ H' => Same H H' ∧ ∃ x y, σ = [some (.ref p), x, y]) ⟨Same.refl H, _, _, rfl⟩ (fun i σ H' _ ⟨e, _⟩ => KT.same e _ _ hs) ?_ ?_⟩
    · rintro i x σ H1 H2 hi ⟨sm, y1, y2, rfl⟩ ⟨b, x1, x2, rfl, hb, rfl, hx1, hx2⟩
      have e1 := Option.some.inj hx1
      subst e1
      obtain ⟨t, a, hm, c, u, z, rfl, hc, hu, hz⟩ := row_at ha hx2
      obtain ⟨ok1, ok2⟩ := ho _ (List.mem_of_getElem? hm)
      have sm2 : Same H (upd H1 b (.tup [.int (i : Nat), .ref c])) := same_put sm (sm.free hb)
      have kt := KT.same (K := K) sm2
      refine ⟨b, _, rfl, SqT.of upd_same, rfl, _, _, rfl, _, _, rfl, rfl, ?_⟩
      refine ⟨_, rfl, rfl, _, rfl, ?_⟩
      refine ifn (by rw [dI, decide_eq_false (by omega)]; simp) ?_
      refine ⟨_, rfl, .ref c, (t, a), rfl, .tup (kt _ _ hc) (.cons (dp_keep kt _ _ t.td hu) (.cons (dp_keep kt _ _ a.td hz) .nil)), ok1, ok2, fun H3 s3 => ⟨_, rfl, ?_⟩⟩
      refine iteF ?_
      exact ⟨sm2.trans s3, _, _, rfl⟩
    · rintro σ H1 ⟨sm, _⟩
      exact k H1 sm
theorem ok_check_seed (T : Txt K mg A) : FnOk P w K mg base CX0 3 A.check_seed A.check_seed_ ["seed"] (spChk 0 999) := by
  refine T.check_seed.F.ok sc_check_seed (fun vs H Q E h => ?_) (fun cdv Ar outer s H vs Q E hr h => ?_)
  · obtain ⟨v, rfl, _⟩ := h
    rfl
  · obtain ⟨v, rfl, h0, h1, k⟩ := h
    refine ⟨_, (pss_one (ps_if (pt_not (pt_val (pe_call (ok_is_seed T) (hr.mono (by decide)) (by rfl) T.is_seed.n T.is_seed.F.kp T.is_seed.b .nil pass0 (pa_cons (pv 0) pa_nil))))
    (pss_one ps_never)
    pss_nil)), ?_⟩
    refine ⟨_, rfl, _, rfl, .int v, ?_⟩
    rw [isNum_t h0 h1]
    refine ⟨_, rfl, ?_⟩
    exact iteF k
theorem ok_dice (T : Txt K mg A) : FnOk P w K mg base CX0 1 A.dice A.dice_ ["_law_script", "_law_k"] (spDice K) := by
  refine T.dice.F.ok sc_dice (fun vs H Q E h => ?_) (fun cdv Ar outer s H vs Q E hr h => ?_)
  · obtain ⟨a, ns, k0, rfl, _⟩ := h
    rfl
  · obtain ⟨a, ns, k0, rfl, hs, hl, h0, h1, k⟩ := h
    refine ⟨_, (pss_cons (ps_set (i := 2) sc_dice.nd rfl (Or.inl rfl) (pv 1))
    (pss_cons (ps_for PassesOwn.never rfl (pi_list (pv 0)) (pg_name (i := 3) sc_dice.nd rfl (Or.inl rfl))
    (pss_one (ps_set (i := 2) sc_dice.nd rfl (Or.inl rfl) (pe_op op_mod (pe_op op_add (pe_op op_mul (pv 2) pe_int) (pe_callB call_abs (by rfl) T.n_abs PyProof.Rows.boot_abs (pa_cons (pv 3) pa_nil))) pe_int))))
    (pss_one (ps_ret (pe_op op_cat (pe_lst (pa_cons (pv 2) (pa_cons pe_int pa_nil))) (pe_lc (own := [("_law_cell", 3)]) (g := gName 3)  rfl sc_dice.nd (pi_list (pv 0)) (blkOk_by (N := N_dice) (sc := defScope s_dice) (by decide +kernel)) (fun _ _ _ _ _ => pg_name (i := 3) sc_dice.nd rfl (Or.inl rfl) (hf := Or.inr rfl)) (fun _ _ _ _ _ => (pts_one (pt_cmpR op_ge (pv 3) (pe_op op_pow pe_int pe_int) (nomark _)))) (fun _ _ _ _ _ => (pv 3)))))))), ?_⟩
    refine ⟨_, rfl, _, rfl, a, rfl, ⟨_, hs⟩, for_list (K := K) (a := a) (xs := ns.map V.int) (fun i σ H' => H' = H ∧ ∃ f y, σ = [some (.ref a), some (.int k0), some (.int f), y] ∧ 0 ≤ f ∧ f < 2147483647) ⟨rfl, _, _, rfl, h0, h1⟩
      (fun i σ H' _ ⟨e, _⟩ => by rw [e]; exact hs) ?_ ?_⟩
    · rintro i x σ H1 hi ⟨rfl, f, y, rfl, f0, f1⟩
      obtain ⟨z, hz, rfl⟩ := int_at hi
      refine ⟨_, rfl, _, _, rfl, rfl, .inl ⟨by omega, by omega⟩, _, rfl, _, rfl, _, _, rfl, rfl, _, _, rfl, rfl, (by show (0 : Int) < 2147483647; decide), ?_⟩
      exact ⟨rfl, _, _, rfl, Int.emod_nonneg _ (by decide), Int.emod_lt_of_pos _ (by decide)⟩
    · rintro σ H1 ⟨rfl, f, y, rfl, f0, f1⟩
      refine ⟨_, rfl, (by show 2 ≤ sizeLine; decide), fun p hp => ?_⟩
      have sm := same_put (Same.refl H1) (o := .lst [.int f, .int 0]) hp
      refine ⟨_, rfl, a, rfl, ⟨_, sm.seq hs⟩, fun D hD => lc_list (K := K) (a := a) (xs := ns.map V.int) (fun i H' => Same (upd H1 p (.lst [.int f, .int 0])) H' ∧ ∃ r : List Int, H' D = some (.lst (r.map V.int)) ∧ r.length ≤ i ∧ ∀ z ∈ r, 0 ≤ z)
        ⟨(Bt.new (S := []) hD).same, [], upd_same, Nat.le_refl _, by simp⟩ (fun i H' _ q => (sm.trans q.1).seq hs) ?_ ?_⟩
      · rintro i x H2 hi ⟨sm2, r, hr2, hr3, hr4⟩
        obtain ⟨z, hz, rfl⟩ := int_at hi
        have il := (List.getElem?_eq_some_iff.mp hz).1
        refine ⟨rfl, _, rfl, _, _, rfl, rfl, ⟨by decide, by decide, by decide⟩, _, _, rfl, rfl, _, rfl, ?_⟩
        refine ite2 (fun e => ?_) (fun e => ?_)
        · refine ⟨_, rfl, _, hr2, ?_, same_put sm2 hD, r ++ [z], ?_, ?_, ?_⟩
          · rw [List.length_map, sizeLine_eq]
            omega
          · rw [upd_same, List.map_append]
            rfl
          · simp
            omega
          · intro y hy
            rcases List.mem_append.mp hy with h | h
            · exact hr4 y h
            · have e2 : y = z := by simpa using h
              have e3 := of_decide_eq_true e
              rw [e2]
              have e4 : (10 : Int) ^ (18 : Int).toNat = 1000000000000000000 := by decide
              rw [e4] at e3
              omega
        · exact ⟨sm2, r, hr2, by omega, hr4⟩
      · rintro H2 ⟨sm2, r, hr2, hr3, hr4⟩
        rw [List.length_map] at hr3
        refine ⟨p, D, _, _, rfl, rfl, sm2 _ _ upd_same, hr2, ?_, fun p2 hp2 => ?_⟩
        · rw [List.length_map, sizeLine_eq]
          simp
          omega
        · have smA := sm.trans sm2
          exact k p2 _ _ (smA.free hp2) (same_put smA (smA.free hp2)) upd_same ⟨f, 0, r, rfl, f0, f1, by decide, by omega, hr4⟩
end
end Mh
namespace Mh
open PySem L2
local macro_rules | `(tactic| walk_at "g") => `(tactic| repeat (first
  | refine ⟨_, rfl, ?_⟩
  | refine ⟨_, _, rfl, rfl, ?_⟩
  | refine ⟨_, _, _, _, rfl, rfl, SqL.of (by assumption), at0, ?_⟩
  | refine ⟨_, _, _, _, rfl, rfl, SqL.of (by assumption), at1, ?_⟩
  | refine ⟨_, _, rfl, .inl (SqL.of (by assumption)), ?_⟩
  | refine ⟨rfl, ?_⟩))
def spOff : Sp := fun vs H Q _ => ∃ (d : Addr) (n : Int) (xs : List V), vs = [.ref d, .int n] ∧ H d = some (.lst xs) ∧ Dice xs ∧ 0 < n ∧ n < 1073741824 ∧
  ∀ (r : Int) (ys : List V), 0 ≤ r → r < n → Dice ys → Q (.int r) (upd H d (.lst ys))
section
variable {P : Program} {w : World} {K : PySem.W.Frag} {mg : Str → Option Value} {base : Heap} {A : Adr}
theorem ok_off (T : Txt K mg A) : FnOk P w K mg base CX0 1 A.off A.off_ ["_law_d", "_law_upto"] spOff := by
  refine T.off.F.ok sc_off (fun vs H Q E h => ?_) (fun cdv Ar outer s H vs Q E hr h => ?_)
  · obtain ⟨d, n, xs, rfl, _⟩ := h
    rfl
  · obtain ⟨d, n, xs, rfl, hd, ⟨a, b, r, rfl, a0, a1, b0, hl, hz⟩, n0, n1, k⟩ := h
    refine ⟨_, (Evl.pss_cut (ps_if (PW.pt (pw_and (pt_cmpR op_eq (pe_ix ix_list (pv 0) pe_int (fun _ _ => rfl)) pe_int (nomark _)) (pw_and1 (pt_cmpR op_gt (pe_callB call_len_seq (by rfl) T.n_len PySem.boot_len (pa_cons (pv 0) pa_nil)) pe_int (nomark _)))))
    (pss_one (ps_asg (pe_bm PySem.F.plainAttrs_list PySem.F.slot_list_pop PySem.F.type_list_pop mt_popAt (pv 0) (pa_cons pe_int pa_nil)) (pg_sub (pv 0) pe_int set_list)))
    pss_nil)
    (pss_cons (ps_if (pt_cmpR op_gt (pe_ix ix_list (pv 0) pe_int (fun _ _ => rfl)) pe_int (nomark _))
    (pss_cons (ps_set (i := 2) sc_off.nd rfl (Or.inl rfl) (pe_op op_mod (pe_ix ix_list (pv 0) pe_int (fun _ _ => rfl)) (pv 1)))
    (pss_cons (ps_asg (pe_op op_fdiv (pe_ix ix_list (pv 0) pe_int (fun _ _ => rfl)) (pv 1)) (pg_sub (pv 0) pe_int set_list))
    (pss_one (ps_ret (pv 2)))))
    pss_nil)
    (pss_cons (ps_asg (pe_op op_mod (pe_op op_add (pe_op op_mul (pe_ix ix_list (pv 0) pe_int (fun _ _ => rfl)) pe_int) pe_int) pe_int) (pg_sub (pv 0) pe_int set_list))
    (pss_one (ps_ret (pe_op op_mod (pe_op op_fdiv (pe_ix ix_list (pv 0) pe_int (fun _ _ => rfl)) pe_int) (pv 1))))))), ?_⟩
    refine ⟨fun σ H1 => σ = [some (.ref d), some (.int n), none] ∧ (∀ ys, upd H1 d (.lst ys) = upd H d (.lst ys)) ∧ ∃ (b1 : Int) (r1 : List Int), H1 d = some (.lst (.int a :: .int b1 :: r1.map V.int)) ∧ 0 ≤ b1 ∧ r1.length ≤ 63 ∧ ∀ z ∈ r1, 0 ≤ z, ?_, ?_⟩
    · have here : (∀ ys, upd H d (.lst ys) = upd H d (.lst ys)) ∧ ∃ (b1 : Int) (r1 : List Int), H d = some (.lst (.int a :: .int b1 :: r1.map V.int)) ∧ 0 ≤ b1 ∧ r1.length ≤ 63 ∧ ∀ z ∈ r1, 0 ≤ z := ⟨fun _ => rfl, b, r, hd, b0, hl, hz⟩
      walk_at "g"
      refine ite2 (fun e => ?_) (fun e => ?_)
      · walk_at "g"
        refine ite2 (fun e2 => ?_) (fun e2 => ?_)
        · have l2 := of_decide_eq_true e2
          cases r with
          | nil => simp at l2
          | cons z r =>
            refine ⟨_, rfl, .inl ⟨rfl, _, SqL.of hd⟩, ?_⟩
            refine ⟨d, _, 2, 2, .int z, rfl, rfl, hd, by decide, by decide, by simp [seqIndex?]; omega, rfl, ?_⟩
            refine ⟨_, rfl, d, _, 1, 1, rfl, rfl, upd_same, by simp [ixN]; omega, ?_⟩
            refine ⟨rfl, fun ys => ?_, z, r, ?_, hz z (by simp), by simp at hl; omega, fun y hy => hz y (by simp [hy])⟩
            · rw [upd_upd, upd_upd]
            · rw [upd_same]
              rfl
        · exact ⟨rfl, here⟩
      · exact ⟨rfl, here⟩
    · rintro σ H1 ⟨rfl, hu1, b1, r1, h1, b10, hl1, hz1⟩
      walk_at "g"
      refine ite2 (fun e => ?_) (fun e => ?_)
      · walk_at "g"
        refine ⟨n0, ?_⟩
        walk_at "g"
        refine ⟨⟨n0, n1⟩, ?_⟩
        refine ⟨_, rfl, d, _, 1, 1, rfl, rfl, h1, by simp [ixN]; omega, ?_⟩
        walk_at "g"
        rw [hu1]
        exact k _ _ (Int.emod_nonneg _ (by omega)) (Int.emod_lt_of_pos _ n0) ⟨a, b1 / n, r1, rfl, a0, a1, Int.ediv_nonneg b10 (by omega), hl1, hz1⟩
      · walk_at "g"
        refine ⟨.inr (by decide), ?_⟩
        walk_at "g"
        refine ⟨by show (0 : Int) < 2147483647; decide, ?_⟩
        refine ⟨_, rfl, d, _, 0, 0, rfl, rfl, h1, by simp [ixN]; omega, ?_⟩
        have h2 : upd H1 d (.lst ((V.int a :: V.int b1 :: r1.map V.int).set 0 (V.int ((a * 48271 + 11) % 2147483647)))) d = some (.lst (.int ((a * 48271 + 11) % 2147483647) :: .int b1 :: r1.map V.int)) := upd_same
        walk_at "g"
        refine ⟨⟨by decide, by decide⟩, ?_⟩
        walk_at "g"
        refine ⟨n0, ?_⟩
        rw [hu1]
        exact k _ _ (Int.emod_nonneg _ (by omega)) (Int.emod_lt_of_pos _ n0) ⟨(a * 48271 + 11) % 2147483647, b1, r1, rfl, Int.emod_nonneg _ (by decide), Int.emod_lt_of_pos _ (by decide), b10, hl1, hz1⟩
end

/-! ### draws, as readings -/
/-- the dice stand at d -/
def DS (d : Addr) (H : Hp) : Prop := ∃ ys, H d = some (.lst ys) ∧ Dice ys
section
variable {K : PySem.W.Frag} {σ : St} {H : Hp} {Q : VK} {d : Addr} {i : Nat}
theorem DS.kt {H' : Hp} (h : DS d H) (b : Bt [d] H H') : KT K H H' := by
  obtain ⟨ys, h1, _⟩ := h
  exact b.kt1 h1
theorem DS.ne {p : Addr} (h : DS d H) (hp : H p = none) : d ≠ p := by
  obtain ⟨ys, h1, _⟩ := h
  exact ne_of_none h1 hp
theorem DS.new {p : Addr} {o : HO} (h : DS d H) (hp : H p = none) : DS d (upd H p o) := by
  have n := h.ne hp
  obtain ⟨ys, h1, h2⟩ := h
  exact ⟨ys, (upd_ne n).trans h1, h2⟩
abbrev tOffE (i : Nat) (t : TE) : TE := tCall spOff [] E0 (tCons (tVar i) (tCons t tNil))
theorem nil_ {σ : St} {H : Hp} {Q : List V → Hp → Prop} (h : Q [] H) : tNil σ H Q := h
theorem rd_offV {x : V} {n : Int} (hx : x = .int n) (hd : DS d H) (h0 : 0 < n) (h1 : n < 1073741824) (k : ∀ (r : Int) (H' : Hp), 0 ≤ r → r < n → Bt [d] H H' → DS d H' → Q (.int r) H') :
    spOff ([.ref d, x] ++ []) H Q E0 := by
  obtain ⟨ys, h2, h3⟩ := hd
  subst hx
  exact ⟨d, n, ys, rfl, h2, h3, h0, h1, fun r zs r0 r1 dz => k r _ r0 r1 (Bt.refl.set (by simp)) ⟨zs, upd_same, dz⟩⟩
theorem rd_off {n : Int} (hσ : σ[i]? = some (some (.ref d))) (hd : DS d H) (h0 : 0 < n) (h1 : n < 1073741824) (k : ∀ (r : Int) (H' : Hp), 0 ≤ r → r < n → Bt [d] H H' → DS d H' → Q (.int r) H') :
    tOffE i (tC (.int n)) σ H Q := ⟨_, hσ, rd_offV rfl hd h0 h1 k⟩
theorem at_two {x y : V} {r : Int} (r0 : 0 ≤ r) (r1 : r < 2) : ∃ z, atI [x, y] r = some z ∧ (z = x ∨ z = y) := by
  have h : r = 0 ∨ r = 1 := by omega
  rcases h with h | h
  · subst h
    exact ⟨x, at0, .inl rfl⟩
  · subst h
    exact ⟨y, at1, .inr rfl⟩
theorem at_three {x y u : V} {r : Int} (r0 : 0 ≤ r) (r1 : r < 3) : ∃ z, atI [x, y, u] r = some z ∧ (z = x ∨ z = y ∨ z = u) := by
  have h : r = 0 ∨ r = 1 ∨ r = 2 := by omega
  rcases h with h | h | h
  · subst h
    exact ⟨x, at0, .inl rfl⟩
  · subst h
    exact ⟨y, at1, .inr (.inl rfl)⟩
  · subst h
    exact ⟨u, at2, .inr (.inr rfl)⟩
/-- [off(a), off(b)][off(2)] -/
theorem rd_pick {a b : Int} (hσ : σ[i]? = some (some (.ref d))) (hd : DS d H) (a0 : 0 < a) (a1 : a < 1073741824) (b0 : 0 < b) (b1 : b < 1073741824)
    (k : ∀ (r : Int) (H' : Hp), 0 ≤ r → (r < a ∨ r < b) → Bt [d] H H' → DS d H' → Q (.int r) H') :
    tOp (rIxL K) (tLst (tCons (tOffE i (tC (.int a))) (tCons (tOffE i (tC (.int b))) tNil))) (tOffE i (tC (.int 2))) σ H Q := by
  refine rd_off hσ hd a0 a1 fun r1 H1 r10 r11 b1' d1 => ?_
  refine rd_off hσ d1 b0 b1 fun r2 H2 r20 r21 b2' d2 => ?_
  refine ⟨by show 2 ≤ sizeLine; decide, fun l hl => ?_⟩
  refine rd_off hσ (d2.new hl) (by decide) (by decide) fun r3 H3 r30 r31 b3' d3 => ?_
  obtain ⟨z, hz, hc⟩ := at_two (x := .int r1) (y := .int r2) r30 r31
  have nl : l ∉ [d] := by
    simp only [List.mem_singleton]
    exact (d2.ne hl).symm
  refine ⟨l, _, r3, z, rfl, rfl, SqL.of (b3' _ _ nl upd_same), hz, ?_⟩
  have bt : Bt [d] H H3 := ((b1'.trans b2').trans (Bt.new hl)).trans b3'
  rcases hc with rfl | rfl
  · exact k r1 H3 r10 (.inl r11) bt d3
  · exact k r2 H3 r20 (.inr r21) bt d3
/-- [x, y][off(2)], x and y written -/
theorem rd_two {x y : V} (hσ : σ[i]? = some (some (.ref d))) (hd : DS d H)
    (k : ∀ (z : V) (H' : Hp), (z = x ∨ z = y) → Bt [d] H H' → DS d H' → Q z H') :
    tOp (rIxL K) (tLst (tCons (tC x) (tCons (tC y) tNil))) (tOffE i (tC (.int 2))) σ H Q := by
  refine ⟨by show 2 ≤ sizeLine; decide, fun l hl => ?_⟩
  refine rd_off hσ (hd.new hl) (by decide) (by decide) fun r3 H3 r30 r31 b3' d3 => ?_
  obtain ⟨z, hz, hc⟩ := at_two (x := x) (y := y) r30 r31
  have nl : l ∉ [d] := by
    simp only [List.mem_singleton]
    exact (hd.ne hl).symm
  exact ⟨l, _, r3, z, rfl, rfl, SqL.of (b3' _ _ nl upd_same), hz, k z H3 hc ((Bt.new hl).trans b3') d3⟩
end
/-- what is drawn: a value that tells some datum that can be -/
def spGen (K : PySem.W.Frag) {α : Type} (dt : α → PyData) (ok : α → Prop) : Sp := fun vs H Q _ => ∃ (d : Addr), vs = [.ref d] ∧ DS d H ∧
  ∀ (v : V) (t : α) (H' : Hp), Bt [d] H H' → DS d H' → Dp K H' v (dt t) → ok t → Q v H'
end Mh
namespace Mh
open PySem L2
section
variable {P : Program} {w : World} {K : PySem.W.Frag} {mg : Str → Option Value} {base : Heap} {A : Adr}
theorem ok_test (T : Txt K mg A) : FnOk P w K mg base CX0 2 A.test A.test_ ["_law_d"] (spGen K Tst.dt Tst.Ok) := by
  refine T.test.F.ok sc_test (fun vs H Q E h => ?_) (fun cdv Ar outer s H vs Q E hr h => ?_)
  · obtain ⟨d, rfl, _⟩ := h
    rfl
  · obtain ⟨d, rfl, hd, k⟩ := h
    refine ⟨_, (pss_cons (ps_set (i := 1) sc_test.nd rfl (Or.inl rfl) (pe_call (ok_off T) (hr.mono (by decide)) (by rfl) T.off.n T.off.F.kp T.off.b .nil pass0 (pa_cons (pv 0) (pa_cons pe_int pa_nil))))
    (pss_cons (ps_if (pt_cmpR op_eq (pv 1) pe_int (nomark _))
    (pss_one (ps_ret (pe_tup (pa_cons pe_str (pa_cons (pe_ix ix_list (pe_lst (pa_cons (pe_call (ok_off T) (hr.mono (by decide)) (by rfl) T.off.n T.off.F.kp T.off.b .nil pass0 (pa_cons (pv 0) (pa_cons pe_int pa_nil))) (pa_cons (pe_call (ok_off T) (hr.mono (by decide)) (by rfl) T.off.n T.off.F.kp T.off.b .nil pass0 (pa_cons (pv 0) (pa_cons pe_int pa_nil))) pa_nil))) (pe_call (ok_off T) (hr.mono (by decide)) (by rfl) T.off.n T.off.F.kp T.off.b .nil pass0 (pa_cons (pv 0) (pa_cons pe_int pa_nil))) (fun _ _ => rfl)) pa_nil)))))
    pss_nil)
    (pss_cons (ps_if (pt_cmpR op_lt (pv 1) pe_int (nomark _))
    (pss_cons (ps_set (i := 2) sc_test.nd rfl (Or.inl rfl) (pe_op op_add pe_int (pe_call (ok_off T) (hr.mono (by decide)) (by rfl) T.off.n T.off.F.kp T.off.b .nil pass0 (pa_cons (pv 0) (pa_cons (pe_ix ix_list (pe_lst (pa_cons pe_int (pa_cons pe_int pa_nil))) (pe_call (ok_off T) (hr.mono (by decide)) (by rfl) T.off.n T.off.F.kp T.off.b .nil pass0 (pa_cons (pv 0) (pa_cons pe_int pa_nil))) (fun _ _ => rfl)) pa_nil)))))
    (pss_one (ps_ret (pe_tup (pa_cons (pe_ix ix_list (pe_lst (pa_cons pe_str (pa_cons pe_str pa_nil))) (pe_op op_sub (pv 1) pe_int) (fun _ _ => rfl)) (pa_cons (pv 2) (pa_cons (pe_call (ok_off T) (hr.mono (by decide)) (by rfl) T.off.n T.off.F.kp T.off.b .nil pass0 (pa_cons (pv 0) (pa_cons (pv 2) pa_nil))) pa_nil)))))))
    pss_nil)
    (pss_cons (ps_if (pt_cmpR op_eq (pv 1) pe_int (nomark _))
    (pss_one (ps_ret (pe_tup (pa_cons pe_str (pa_cons (pe_callTy call_tuple_of (by rfl) T.n_tuple PyProof.Rows.boot_tuple (pa_cons (pe_callB (cr_sortedSet rfl) (by rfl) T.n_sorted PyProof.Rows.boot_sorted (pa_cons (pe_callTy (cr_setL rfl) (by rfl) T.n_set PyProof.Rows.boot_set (pa_cons (pe_lc (own := [("_law_k", 3)]) (g := gName 3) (tt := tYes) rfl sc_test.nd (pi_range1 (by rfl) T.n_range (pa_cons (pe_op op_add pe_int (pe_call (ok_off T) (hr.mono (by decide)) (by rfl) T.off.n T.off.F.kp T.off.b .nil pass0 (pa_cons (pv 0) (pa_cons pe_int pa_nil)))) pa_nil)) (blkOk_by (N := N_test) (sc := defScope s_test) (by decide +kernel)) (fun _ _ _ _ _ => pg_name (i := 3) sc_test.nd rfl (Or.inl rfl) (hf := Or.inr rfl)) (fun _ _ _ _ _ => pts_nil) (fun _ _ _ _ _ => (pe_call (ok_off T) (hr.mono (by decide)) (by rfl) T.off.n T.off.F.kp T.off.b .nil pass0 (pa_cons (pv 0) (pa_cons pe_int pa_nil))))) pa_nil)) pa_nil)) pa_nil)) pa_nil)))))
    pss_nil)
    (pss_one (ps_ret (pe_ix ix_list (pe_lst (pa_cons (pe_tup (pa_cons pe_str pa_nil)) (pa_cons (pe_tup (pa_cons pe_str (pa_cons pe_int (pa_cons (pe_call (ok_off T) (hr.mono (by decide)) (by rfl) T.off.n T.off.F.kp T.off.b .nil pass0 (pa_cons (pv 0) (pa_cons pe_int pa_nil))) pa_nil)))) pa_nil))) (pe_op op_sub (pv 1) pe_int) (fun _ _ => rfl)))))))), ?_⟩
    refine rd_off rfl hd (by decide) (by decide) fun r H1 r0 r1 b1 d1 => ?_
    refine ⟨_, rfl, rfl, _, rfl, ite2 (fun e => ?_) (fun e => ?_)⟩
    · refine rd_pick (K := K) rfl d1 (by decide) (by decide) (by decide) (by decide) fun z H2 z0 z1 b2 d2 => ?_
      refine ⟨by show 2 ≤ sizeLine; decide, fun p hp => ?_⟩
      exact k (.ref p) (.below z) _ ((b1.trans b2).trans (Bt.new hp)) (d2.new hp) (.tup (SqT.of upd_same) (.cons (.str _) (.cons (.int _) .nil))) ⟨z0, by omega⟩
    · have r2 : r ≠ 0 := fun q => e (by rw [q]; decide)
      refine ⟨_, rfl, _, _, rfl, rfl, _, rfl, ite2 (fun e => ?_) (fun e => ?_)⟩
      · have e3 := of_decide_eq_true e
        refine ⟨_, rfl, rd_two (K := K) rfl d1 fun z H2 hz b2 d2 => ?_⟩
        have hz2 : ∃ n, z = .int n ∧ 0 < n ∧ n ≤ 98 := by
          rcases hz with rfl | rfl
          · exact ⟨3, rfl, by decide, by decide⟩
          · exact ⟨98, rfl, by decide, by decide⟩
        obtain ⟨n, en, n0, n1⟩ := hz2
        refine nil_ (rd_offV en d2 n0 (by omega) fun m H3 m0 m1 b3 d3 => ?_)
        refine ⟨_, _, rfl, rfl, ?_⟩
        refine ⟨by show 2 ≤ sizeLine; decide, fun l hl => ?_⟩
        obtain ⟨y, hy, hc⟩ := at_two (x := .str "rest") (y := .str "chance") (r := r - 1) (by omega) (by omega)
        refine ⟨_, rfl, _, _, rfl, rfl, l, _, _, y, rfl, rfl, SqL.of upd_same, hy, ?_⟩
        refine ⟨_, rfl, _, rfl, _, rfl, nil_ (rd_offV rfl (d3.new hl) (by omega) (by omega) fun x H4 x0 x1 b4 d4 => ?_)⟩
        refine ⟨by show 3 ≤ sizeLine; decide, fun p hp => ?_⟩
        have bt := ((((b1.trans b2).trans b3).trans (Bt.new hl)).trans b4).trans (Bt.new (o := .tup [y, .int (2 + m), .int x]) hp)
        rcases hc with rfl | rfl
        · exact k (.ref p) (.rest (2 + m) x) _ bt (d4.new hp) (.tup (SqT.of upd_same) (.cons (.str _) (.cons (.int _) (.cons (.int _) .nil)))) ⟨by omega, by omega, x0, x1⟩
        · exact k (.ref p) (.chance (2 + m) x) _ bt (d4.new hp) (.tup (SqT.of upd_same) (.cons (.str _) (.cons (.int _) (.cons (.int _) .nil)))) ⟨by omega, by omega, x0, x1⟩
      · have e3 := of_decide_eq_false (Bool.eq_false_iff.mpr e)
        refine ⟨_, rfl, rfl, _, rfl, ite2 (fun e => ?_) (fun e => ?_)⟩
        · refine rd_off rfl d1 (by decide) (by decide) fun n H2 n0 n1 b2 d2 => ?_
          refine ⟨_, _, rfl, rfl, _, rfl, by omega, by omega, fun D hD => ?_⟩
          have nD := d2.ne hD
          refine lc_range (lo := 0) (n := (1 + n).toNat) (fun i H' => Bt [d] H2 H' ∧ DS d H' ∧ ∃ ns : List Int, H' D = some (.lst (ns.map V.int)) ∧ ns.length = i ∧ ∀ z ∈ ns, 0 ≤ z ∧ z < 12)
            ⟨Bt.new hD, d2.new hD, [], upd_same, rfl, by simp⟩ ?_ ?_
          · rintro i H3 hi ⟨b3, d3, ns, h3, l3, z3⟩
            refine ⟨rfl, ?_⟩
            refine yes_ ?_
            refine iteT ?_
            refine rd_off rfl d3 (by decide) (by decide) fun x H4 x0 x1 b4 d4 => ?_
            have nD2 : D ∉ [d] := by
              simp only [List.mem_singleton]
              exact nD.symm
            refine ⟨_, b4 _ _ nD2 h3, ?_, (b3.trans b4).put hD, ?_, ns ++ [x], ?_, by simp [l3], ?_⟩
            · rw [List.length_map, sizeLine_eq]
              omega
            · obtain ⟨ys, g1, g2⟩ := d4
              exact ⟨ys, (upd_ne nD).trans g1, g2⟩
            · rw [upd_same, List.map_append]
              rfl
            · intro y hy
              rcases List.mem_append.mp hy with h | h
              · exact z3 y h
              · have e2 : y = x := by simpa using h
                rw [e2]
                exact ⟨x0, x1⟩
          · rintro H3 ⟨b3, d3, ns, h3, l3, z3⟩
            refine ⟨D, ns, rfl, SqL.of h3, by omega, fun p c hp hc => ?_⟩
            refine ⟨p, _, _, rfl, upd_same, by omega, fun ks p2 pw mem lk hp2 => ?_⟩
            refine ⟨p2, _, rfl, .inl ⟨SqL.of upd_same, fun p3 hp3 => ?_⟩⟩
            refine ⟨by show 2 ≤ sizeLine; decide, fun p4 hp4 => ?_⟩
            have h34 : p3 ≠ p4 := fun q => by rw [← q, upd_same] at hp4; cases hp4
            refine k (.ref p4) (.known ks) _ ((((((b1.trans b2).trans b3).trans (Bt.new hp)).trans (Bt.new hp2)).trans (Bt.new hp3)).trans (Bt.new hp4)) ((((d3.new hp).new hp2).new hp3).new hp4)
              (.tup (SqT.of upd_same) (.cons (.str _) (.cons (.tup (SqT.of ((upd_ne h34).trans upd_same)) (dps_of_ints ks)) .nil))) ⟨?_, by omega, pw, ?_⟩
            · cases ns with
              | nil => simp at l3; omega
              | cons z ns =>
                have q := (mem z).2 (by simp)
                cases ks with
                | nil => simp at q
                | cons _ _ => simp
            · intro y hy
              have q := (mem y).1 hy
              have q2 := z3 y (of_decide_eq_true q)
              omega
        · have r4 : r ≠ 3 := fun q => e (by rw [q]; decide)
          refine ⟨by show 1 ≤ sizeLine; decide, fun p1 hp1 => ?_⟩
          refine rd_off rfl (d1.new hp1) (by decide) (by decide) fun x H2 x0 x1 b2 d2 => ?_
          refine ⟨by show 3 ≤ sizeLine; decide, fun p2 hp2 => ?_⟩
          refine ⟨by show 2 ≤ sizeLine; decide, fun l hl => ?_⟩
          obtain ⟨y, hy, hc⟩ := at_two (x := .ref p1) (y := .ref p2) (r := r - 4) (by omega) (by omega)
          refine ⟨_, rfl, _, _, rfl, rfl, l, _, _, y, rfl, rfl, SqL.of upd_same, hy, ?_⟩
          have bt := (((b1.trans (Bt.new hp1)).trans b2).trans (Bt.new (o := .tup [.str "chance", .int 2, .int x]) hp2)).trans (Bt.new (o := .lst [.ref p1, .ref p2]) hl)
          have n1 : p1 ∉ [d] := by
            simp only [List.mem_singleton]
            exact (d1.ne hp1).symm
          rcases hc with rfl | rfl
          · have g : H2 p1 = some (.tup [.str "any"]) := b2 _ _ n1 upd_same
            refine k (.ref p1) .any _ bt ((d2.new hp2).new hl) (.tup (SqT.of ?_) (.cons (.str _) .nil)) True.intro
            have q2 : p1 ≠ p2 := ne_of_none g hp2
            have g2 := (upd_ne (o := .tup [.str "chance", .int 2, .int x]) q2).trans g
            exact (upd_ne (ne_of_none g2 hl)).trans g2
          · refine k (.ref p2) (.chance 2 x) _ bt ((d2.new hp2).new hl) (.tup (SqT.of ?_) (.cons (.str _) (.cons (.int _) (.cons (.int _) .nil)))) ⟨by decide, by decide, x0, x1⟩
            exact (upd_ne (ne_of_none upd_same hl)).trans upd_same
end
end Mh
namespace Mh
open PySem L2
section
variable {P : Program} {w : World} {K : PySem.W.Frag} {mg : Str → Option Value} {base : Heap} {A : Adr}
theorem ok_answer (T : Txt K mg A) : FnOk P w K mg base CX0 2 A.answer A.answer_ ["_law_d"] (spGen K Asw.dt Asw.Ok) := by
  refine T.answer.F.ok sc_answer (fun vs H Q E h => ?_) (fun cdv Ar outer s H vs Q E hr h => ?_)
  · obtain ⟨d, rfl, _⟩ := h
    rfl
  · obtain ⟨d, rfl, hd, k⟩ := h
    refine ⟨_, (pss_cons (ps_set (i := 1) sc_answer.nd rfl (Or.inl rfl) (pe_call (ok_off T) (hr.mono (by decide)) (by rfl) T.off.n T.off.F.kp T.off.b .nil pass0 (pa_cons (pv 0) (pa_cons pe_int pa_nil))))
    (pss_cons (ps_set (i := 2) sc_answer.nd rfl (Or.inl rfl) (pe_ix ix_list (pe_lst (pa_cons (pe_op op_sub (pe_call (ok_off T) (hr.mono (by decide)) (by rfl) T.off.n T.off.F.kp T.off.b .nil pass0 (pa_cons (pv 0) (pa_cons pe_int pa_nil))) pe_int) (pa_cons (pe_op op_sub (pe_call (ok_off T) (hr.mono (by decide)) (by rfl) T.off.n T.off.F.kp T.off.b .nil pass0 (pa_cons (pv 0) (pa_cons pe_int pa_nil))) pe_int) pa_nil))) (pe_callTy call_int1 (by rfl) T.n_int (by decide +kernel) (pa_cons (pe_cmpR op_eq (pe_call (ok_off T) (hr.mono (by decide)) (by rfl) T.off.n T.off.F.kp T.off.b .nil pass0 (pa_cons (pv 0) (pa_cons pe_int pa_nil))) pe_int (nomark _)) pa_nil)) (fun _ _ => rfl)))
    (pss_cons (ps_if (pt_cmpR op_eq (pv 1) pe_int (nomark _))
    (pss_one (ps_ret (pe_tup (pa_cons pe_str (pa_cons (pe_op op_add pe_int (pe_call (ok_off T) (hr.mono (by decide)) (by rfl) T.off.n T.off.F.kp T.off.b .nil pass0 (pa_cons (pv 0) (pa_cons pe_int pa_nil)))) pa_nil)))))
    pss_nil)
    (pss_one (ps_ret (pe_ifExp (pt_cmpR op_eq (pv 1) pe_int (nomark _)) (pe_tup (pa_cons pe_str pa_nil)) (pe_tup (pa_cons (pe_ix ix_list (pe_lst (pa_cons pe_str (pa_cons pe_str (pa_cons pe_str pa_nil)))) (pv 1) (fun _ _ => rfl)) (pa_cons (pv 2) pa_nil))))))))), ?_⟩
    refine rd_off rfl hd (by decide) (by decide) fun r H1 r0 r1 b1 d1 => ?_
    refine rd_off rfl d1 (by decide) (by decide) fun x H2 x0 x1 b2 d2 => ?_
    refine ⟨_, _, rfl, rfl, ?_⟩
    refine rd_off rfl d2 (by decide) (by decide) fun y H3 y0 y1 b3 d3 => ?_
    refine ⟨_, _, rfl, rfl, ?_⟩
    refine ⟨by show 2 ≤ sizeLine; decide, fun l hl => ?_⟩
    refine rd_off rfl (d3.new hl) (by decide) (by decide) fun z H4 z0 z1 b4 d4 => ?_
    refine ⟨rfl, .inr ⟨_, rfl, ?_⟩⟩
    obtain ⟨n, hn, hc⟩ := at_two (x := .int (x - 2)) (y := .int (y - 9999)) (r := if decide (V.int z = V.int 0) = true then 1 else 0) (by split <;> decide) (by split <;> decide)
    have nl : l ∉ [d] := by
      simp only [List.mem_singleton]
      exact (d3.ne hl).symm
    refine ⟨l, _, _, n, rfl, rfl, SqL.of (b4 _ _ nl upd_same), hn, ?_⟩
    have bt : Bt [d] H H4 := (((b1.trans b2).trans b3).trans (Bt.new hl)).trans b4
    have hn2 : ∃ m, n = .int m ∧ -9999 ≤ m ∧ m ≤ 9999 := by
      rcases hc with rfl | rfl
      · exact ⟨_, rfl, by omega, by omega⟩
      · exact ⟨_, rfl, by omega, by omega⟩
    obtain ⟨m, rfl, m0, m1⟩ := hn2
    refine ⟨_, rfl, rfl, _, rfl, ite2 (fun e => ?_) (fun e => ?_)⟩
    · refine rd_off rfl d4 (by decide) (by decide) fun u H5 u0 u1 b5 d5 => ?_
      refine ⟨_, _, rfl, rfl, by show 2 ≤ sizeLine; decide, fun p hp => ?_⟩
      exact k (.ref p) (.rest (2 + u)) _ ((bt.trans b5).trans (Bt.new hp)) (d5.new hp) (.tup (SqT.of upd_same) (.cons (.str _) (.cons (.int _) .nil))) ⟨by omega, by omega⟩
    · have r3 : r ≠ 3 := fun q => e (by rw [q]; decide)
      refine ⟨_, rfl, rfl, _, rfl, ite2 (fun e => ?_) (fun e => ?_)⟩
      · refine ⟨by show 1 ≤ sizeLine; decide, fun p hp => ?_⟩
        exact k (.ref p) .non _ (bt.trans (Bt.new hp)) (d4.new hp) (.tup (SqT.of upd_same) (.cons (.str _) .nil)) True.intro
      · have r4 : r ≠ 4 := fun q => e (by rw [q]; decide)
        refine ⟨by show 3 ≤ sizeLine; decide, fun l2 hl2 => ?_⟩
        obtain ⟨c, hc2, hc3⟩ := at_three (x := .str "num") (y := .str "plus") (u := .str "times") (r := r) r0 (by omega)
        refine ⟨_, rfl, l2, _, _, c, rfl, rfl, SqL.of upd_same, hc2, _, rfl, by show 2 ≤ sizeLine; decide, fun p hp => ?_⟩
        have bt2 := (bt.trans (Bt.new (o := .lst [.str "num", .str "plus", .str "times"]) hl2)).trans (Bt.new (o := .tup [c, .int m]) hp)
        rcases hc3 with rfl | rfl | rfl
        · exact k (.ref p) (.num m) _ bt2 ((d4.new hl2).new hp) (.tup (SqT.of upd_same) (.cons (.str _) (.cons (.int _) .nil))) ⟨m0, m1⟩
        · exact k (.ref p) (.plus m) _ bt2 ((d4.new hl2).new hp) (.tup (SqT.of upd_same) (.cons (.str _) (.cons (.int _) .nil))) ⟨m0, m1⟩
        · exact k (.ref p) (.times m) _ bt2 ((d4.new hl2).new hp) (.tup (SqT.of upd_same) (.cons (.str _) (.cons (.int _) .nil))) ⟨m0, m1⟩
theorem ok_machine (T : Txt K mg A) : FnOk P w K mg base CX0 3 A.machine A.machine_ ["_law_d"] (spGen K machDt MachOk) := by
  refine T.machine.F.ok sc_machine (fun vs H Q E h => ?_) (fun cdv Ar outer s H vs Q E hr h => ?_)
  · obtain ⟨d, rfl, _⟩ := h
    rfl
  · obtain ⟨d, rfl, hd, k⟩ := h
    refine ⟨_, (pss_one (ps_ret (pe_callTy call_tuple_of (by rfl) T.n_tuple PyProof.Rows.boot_tuple (pa_cons (pe_lc (own := [("_law_k", 1)]) (g := gName 1) (tt := tYes) rfl sc_machine.nd (pi_range1 (by rfl) T.n_range (pa_cons (pe_op op_add pe_int (pe_call (ok_off T) (hr.mono (by decide)) (by rfl) T.off.n T.off.F.kp T.off.b .nil pass0 (pa_cons (pv 0) (pa_cons (pe_ix ix_list (pe_lst (pa_cons pe_int (pa_cons pe_int pa_nil))) (pe_call (ok_off T) (hr.mono (by decide)) (by rfl) T.off.n T.off.F.kp T.off.b .nil pass0 (pa_cons (pv 0) (pa_cons pe_int pa_nil))) (fun _ _ => rfl)) pa_nil)))) pa_nil)) (blkOk_by (N := N_machine) (sc := defScope s_machine) (by decide +kernel)) (fun _ _ _ _ _ => pg_name (i := 1) sc_machine.nd rfl (Or.inl rfl) (hf := Or.inr rfl)) (fun _ _ _ _ _ => pts_nil) (fun _ _ _ _ _ => (pe_tup (pa_cons (pe_call (ok_test T) (hr.mono (by decide)) (by rfl) T.test.n T.test.F.kp T.test.b .nil pass0 (pa_cons (pv 0) pa_nil)) (pa_cons (pe_call (ok_answer T) (hr.mono (by decide)) (by rfl) T.answer.n T.answer.F.kp T.answer.b .nil pass0 (pa_cons (pv 0) pa_nil)) pa_nil))))) pa_nil)))), ?_⟩
    refine ⟨_, rfl, rd_two (K := K) rfl hd fun z H1 hz b1 d1 => ?_⟩
    have hz2 : ∃ n, z = .int n ∧ 0 < n ∧ n ≤ 12 := by
      rcases hz with rfl | rfl
      · exact ⟨3, rfl, by decide, by decide⟩
      · exact ⟨12, rfl, by decide, by decide⟩
    obtain ⟨n, en, n0, n1⟩ := hz2
    refine nil_ (rd_offV en d1 n0 (by omega) fun m H2 m0 m1 b2 d2 => ?_)
    refine ⟨_, _, rfl, rfl, _, rfl, by omega, by omega, fun D hD => ?_⟩
    have nD := d2.ne hD
    have nD2 : D ∉ [d] := by
      simp only [List.mem_singleton]
      exact nD.symm
    refine lc_range (lo := 0) (n := (1 + m).toNat) (fun i H' => Bt [d] H2 H' ∧ DS d H' ∧ ∃ (vs : List V) (ms : Mach), H' D = some (.lst vs) ∧ DpAll K H' vs (ms.map rowDt) ∧ ms.length = i ∧ ∀ r ∈ ms, r.1.Ok ∧ r.2.Ok)
      ⟨Bt.new hD, d2.new hD, [], [], upd_same, .nil, rfl, by simp⟩ ?_ ?_
    · rintro i H3 hi ⟨b3, d3, vs, ms, h3, a3, l3, z3⟩
      refine ⟨rfl, ?_⟩
      refine yes_ ?_
      refine iteT ?_
      refine ⟨_, rfl, d, rfl, d3, fun v1 t H4 b4 d4 p4 o4 => ?_⟩
      refine ⟨_, rfl, d, rfl, d4, fun v2 a H5 b5 d5 p5 o5 => ?_⟩
      refine ⟨by show 2 ≤ sizeLine; decide, fun p hp => ?_⟩
      have h5 : H5 D = some (.lst vs) := b5 _ _ nD2 (b4 _ _ nD2 h3)
      have nDp : D ≠ p := ne_of_none h5 hp
      have vl : vs.length = i := by
        rw [← l3]
        have e := dps_len a3
        rwa [List.length_map] at e
      have kt1 : KT K H5 (upd H5 p (.tup [v1, v2])) := KT.new hp
      have kt2 : KT K H3 H5 := (d3.kt b4).trans (d4.kt b5)
      have td : TDs (ms.map rowDt) = true := tds_mem.mpr fun x hx => by
        obtain ⟨r, _, rfl⟩ := List.mem_map.mp hx
        exact row_td r
      refine ⟨vs, (upd_ne nDp).trans h5, by rw [sizeLine_eq]; omega, ?_⟩
      have b6 : Bt [d] H2 (upd (upd H5 p (.tup [v1, v2])) D (.lst (vs ++ [.ref p]))) := (((b3.trans b4).trans b5).trans (Bt.new hp)).put hD
      have kt3 : KT K (upd H5 p (.tup [v1, v2])) (upd (upd H5 p (.tup [v1, v2])) D (.lst (vs ++ [.ref p]))) :=
        (Bt.refl.set (S := [D]) (by simp)).kt1 ((upd_ne nDp).trans h5)
      refine ⟨b6, ?_, vs ++ [.ref p], ms ++ [(t, a)], upd_same, ?_, by simp [l3], ?_⟩
      · obtain ⟨ys, g1, g2⟩ := d5.new (o := .tup [v1, v2]) hp
        exact ⟨ys, (upd_ne nD).trans g1, g2⟩
      · rw [List.map_append]
        refine dps_snoc (dps_keep (kt2.trans (kt1.trans kt3)) _ _ td a3) ?_
        exact .tup (kt3 _ _ (SqT.of upd_same)) (.cons (dp_keep ((d4.kt b5).trans (kt1.trans kt3)) _ _ t.td p4) (.cons (dp_keep (kt1.trans kt3) _ _ a.td p5) .nil))
      · intro r hr2
        rcases List.mem_append.mp hr2 with h | h
        · exact z3 r h
        · have e2 : r = (t, a) := by simpa using h
          rw [e2]
          exact ⟨o4, o5⟩
    · rintro H3 ⟨b3, d3, vs, ms, h3, a3, l3, z3⟩
      refine ⟨D, vs, rfl, .inl ⟨SqL.of h3, fun p hp => ?_⟩⟩
      have td : TDs (ms.map rowDt) = true := tds_mem.mpr fun x hx => by
        obtain ⟨r, _, rfl⟩ := List.mem_map.mp hx
        exact row_td r
      exact k (.ref p) ms _ (((b1.trans b2).trans b3).trans (Bt.new hp)) (d3.new hp) (.tup (SqT.of upd_same) (dps_keep (KT.new hp) _ _ td a3)) ⟨by omega, by omega, z3⟩
end
end Mh
namespace Mh
open PySem L2
theorem putK_len {κ : Type} [DecidableEq κ] (kvs : List (κ × V)) (k : κ) (v : V) : (putK kvs k v).length ≤ kvs.length + 1 := by
  unfold putK
  split
  · simp
  · simp
theorem at_neg1 {x y : V} : atI [x, y] (-1) = some y := by simp [atI, ixN]
theorem at_neg1' {x : V} : atI [x] (-1) = some x := by simp [atI, ixN]
def spTold (K : PySem.W.Frag) : Sp := fun vs H Q _ => ∃ (v : V) (m : Mach) (q s : Int), vs = [v, .int q, .int s] ∧ Dp K H v (machDt m) ∧ MachOk m ∧ ∀ H', Same H H' → Q (oV (tell q s m)) H'
section
variable {P : Program} {w : World} {K : PySem.W.Frag} {mg : Str → Option Value} {base : Heap} {A : Adr}
/-- the dict of an answer's outcomes, behind its making -/
abbrev kNum : Key := Sum.inr "num"
abbrev kNone : Key := Sum.inr "none"
abbrev kPlus : Key := Sum.inr "plus"
abbrev kTimes : Key := Sum.inr "times"
abbrev kRest : Key := Sum.inr "rest"
def toldD (x : V) : List (Key × V) := mergeK [] [(kNum, x), (kNone, .non)]
theorem toldD_len (x : V) : (toldD x).length ≤ 2 := by
  have h1 := putK_len (putK [] kNum x) kNone V.non
  have h2 := putK_len ([] : List (Key × V)) kNum x
  have h3 : (toldD x).length = (putK (putK [] kNum x) kNone V.non).length := rfl
  rw [h3]
  simp at h2
  omega
theorem toldD_at (x : V) (k : Key) : valV (toldD x) k = if k = kNone then some .non else if k = kNum then some x else none := by
  show valV (putK (putK [] kNum x) kNone V.non) k = _
  rw [valV_put, valV_put]
  rfl
theorem ok_told (T : Txt K mg A) : FnOk P w K mg base CX0 1 A.told A.told_ ["_law_machine_here", "_law_question", "_law_grain"] (spTold K) := by
  refine T.told.F.ok sc_told (fun vs H Q E h => ?_) (fun cdv Ar outer s H vs Q E hr h => ?_)
  · obtain ⟨v, m, q, z, rfl, _⟩ := h
    rfl
  · obtain ⟨v, m, q, z, rfl, hv, ⟨l1, l12, ho⟩, k⟩ := h
    obtain ⟨p, vs, rfl, hs, ha⟩ := dp_tup hv
    refine ⟨_, (pss_cons (ps_for PassesOwn.never rfl (pi_tup (pv 0)) (pg_tup rfl (pgs_cons (pg_name (i := 3) sc_told.nd rfl (Or.inl rfl)) (pgs_cons (pg_name (i := 4) sc_told.nd rfl (Or.inl rfl)) pgs_nil)))
    (pss_at 4 (pss_cons (ps_set (i := 5) sc_told.nd rfl (Or.inl rfl) (pe_ix ix_tup (pv 3) pe_int (fun _ _ => rfl)))
    (pss_cons (ps_set (i := 6) sc_told.nd rfl (Or.inl rfl) (pe_or (pe_cmpR op_eq (pv 5) pe_str (nomark _)) (pe_one (pe_and (pe_cmpR op_eq (pv 5) pe_str (nomark _)) (pe_one (pe_cmpR op_in_seq (pv 1) (pe_ix ix_tup (pv 3) pe_int (fun _ _ => rfl)) (by rfl)))))))
    (pss_cons (ps_if (pt_cmpR op_eq (pv 5) pe_str (nomark _))
    (pss_one (ps_set (i := 6) sc_told.nd rfl (Or.inl rfl) (pe_cmpR op_lt (pv 1) (pe_ix ix_tup (pv 3) pe_int (fun _ _ => rfl)) (nomark _))))
    pss_nil)
    (pss_one (ps_if (pt_cmpR op_in_seq (pv 5) (pe_tup (pa_cons pe_str (pa_cons pe_str pa_nil))) (by rfl))
    (pss_cons (ps_set (i := 7) sc_told.nd rfl (Or.inl rfl) (pe_ifExp (pt_cmpR op_eq (pv 5) pe_str (nomark _)) (pv 1) (pe_op op_add (pe_op op_mul pe_int (pv 1)) (pe_op op_mul pe_int (pv 2)))))
    (pss_one (ps_set (i := 6) sc_told.nd rfl (Or.inl rfl) (pe_cmpR op_eq (pe_op op_sub (pv 7) (pe_op op_mul (pe_op op_fdiv (pv 7) (pe_ix ix_tup (pv 3) pe_int (fun _ _ => rfl))) (pe_ix ix_tup (pv 3) pe_int (fun _ _ => rfl)))) (pe_ix ix_tup (pv 3) pe_int (fun _ _ => rfl)) (nomark _)))))
    pss_nil)))))
    (pss_one (ps_if (pt_val (pv 6))
    (pss_cons (ps_set (i := 8) sc_told.nd rfl (Or.inl rfl) (pe_disp (pps_cons pe_str (pe_ix ix_tup (pv 4) (pe_un un_neg pe_int) (fun _ _ => rfl)) (pps_cons pe_str pe_non pps_nil)) (by rfl) (by rfl) (fun z => by cases z) (by decide)))
    (pss_cons (ps_if (pt_cmp (pc_dnotin (hu_of hr) (pe_ix ix_tup (pv 4) pe_int (fun _ _ => rfl)) (pv 8)))
    (pss_cons (ps_dput (hu_of hr) (pv 8) pe_str (pe_op op_add (pv 1) (pe_ix ix_tup (pv 4) pe_int (fun _ _ => rfl))) rfl)
    (pss_cons (ps_dput (hu_of hr) (pv 8) pe_str (pe_op op_mul (pv 1) (pe_ix ix_tup (pv 4) pe_int (fun _ _ => rfl))) rfl)
    (pss_one (ps_dput (hu_of hr) (pv 8) pe_str (pe_op op_sub (pv 1) (pe_op op_mul (pe_op op_fdiv (pv 1) (pe_callB (call_max2 rfl) (by rfl) T.n_max (by decide +kernel) (pa_cons pe_int (pa_cons (pe_ix ix_tup (pv 4) pe_int (fun _ _ => rfl)) pa_nil)))) (pe_ix ix_tup (pv 4) pe_int (fun _ _ => rfl)))) rfl))))
    pss_nil)
    (pss_one (ps_ret (pe_dget (hu_of hr) (pv 8) (pe_ix ix_tup (pv 4) pe_int (fun _ _ => rfl)) (fun _ _ => rfl))))))
    pss_nil))))
    (pss_one (ps_ret pe_non))), ?_⟩
    refine ⟨_, rfl, p, rfl, ⟨vs, hs⟩, for_tup (K := K) (a := p) (xs := vs) (fun i σ H' => Same H H' ∧ (∃ x3 x4 x5 x6 x7 x8, σ = [some (.ref p), some (.int q), some (.int z), x3, x4, x5, x6, x7, x8]) ∧ tell q z m = tell q z (m.drop i)) ⟨Same.refl H, ⟨_, _, _, _, _, _, rfl⟩, rfl⟩
      (fun i σ H' _ ⟨e, _⟩ => KT.same e _ _ hs) ?_ ?_⟩
    · rintro i x σ H1 hi ⟨sm, ⟨x3, x4, x5, x6, x7, x8, rfl⟩, et⟩
      obtain ⟨t, a, hm, b, u, y, rfl, hb, hu, hy⟩ := row_at ha hi
      obtain ⟨ok1, ok2⟩ := ho _ (List.mem_of_getElem? hm)
      rw [drop_at hm] at et
      have kt := KT.same (K := K) sm
      have hu1 := dp_keep kt _ _ t.td hu
      have hy1 := dp_keep kt _ _ a.td hy
      refine ⟨b, _, rfl, kt _ _ hb, rfl, _, _, rfl, _, _, rfl, rfl, ?_⟩
      have hw : ∃ wd ar, t.dt = .tuple (.str wd :: ar) := by cases t <;> exact ⟨_, _, rfl⟩
      have tb : ∃ b1 xs, u = .ref b1 ∧ SqT K H1 b1 xs := by
        obtain ⟨wd, ar, e⟩ := hw
        rw [e] at hu1
        obtain ⟨b1, xs, e1, e2, _⟩ := dp_tup hu1
        exact ⟨b1, xs, e1, e2⟩
      refine ⟨fun σ' H' => Same H H' ∧ ∃ x5 x7 x8, σ' = [some (.ref p), some (.int q), some (.int z), some u, some y, x5, some (.bl (t.holds q z)), x7, x8], ?_, ?_⟩
      · clear hm et ok2 hy hy1
        cases t with
        | any =>
          obtain ⟨b1, rfl, hb1⟩ := dp_1 hu1
          refine ⟨_, rfl, b1, _, _, _, rfl, rfl, hb1, at0, ?_⟩
          refine ⟨_, rfl, rfl, _, rfl, ifp (by decide +kernel) ?_⟩
          refine ⟨_, rfl, rfl, _, rfl, ifn (by decide +kernel) ?_⟩
          refine ⟨_, rfl, by show 2 ≤ sizeLine; decide, fun tp htp => ⟨tp, _, rfl, .inr (SqT.of upd_same), rfl, rfl, _, rfl, ifn (by decide +kernel) ?_⟩⟩
          exact ⟨same_put sm (sm.free htp), _, _, _, rfl⟩
        | below n =>
          obtain ⟨b1, rfl, hb1⟩ := dp_2i hu1
          refine ⟨_, rfl, b1, _, _, _, rfl, rfl, hb1, at0, ?_⟩
          refine ⟨_, rfl, rfl, _, rfl, ifn (by decide +kernel) ?_⟩
          refine ⟨_, rfl, rfl, _, rfl, ifn (by decide +kernel) ?_⟩
          refine ⟨_, rfl, rfl, _, rfl, ifp (by decide +kernel) ?_⟩
          refine ⟨_, rfl, _, rfl, b1, _, _, _, rfl, rfl, hb1, at1, _, _, rfl, rfl, ?_⟩
          refine ⟨_, rfl, by show 2 ≤ sizeLine; decide, fun tp htp => ⟨tp, _, rfl, .inr (SqT.of upd_same), rfl, rfl, _, rfl, ifn (by decide +kernel) ?_⟩⟩
          exact ⟨same_put sm (sm.free htp), _, _, _, rfl⟩
        | rest m r =>
          obtain ⟨h1, h2, h3, h4⟩ := ok1
          obtain ⟨b1, rfl, hb1⟩ := dp_3i hu1
          refine ⟨_, rfl, b1, _, _, _, rfl, rfl, hb1, at0, ?_⟩
          refine ⟨_, rfl, rfl, _, rfl, ifn (by decide +kernel) ?_⟩
          refine ⟨_, rfl, rfl, _, rfl, ifn (by decide +kernel) ?_⟩
          refine ⟨_, rfl, rfl, _, rfl, ifn (by decide +kernel) ?_⟩
          refine ⟨_, rfl, by show 2 ≤ sizeLine; decide, fun tp htp => ⟨tp, _, rfl, .inr (SqT.of upd_same), rfl, rfl, _, rfl, ifp (by decide +kernel) ?_⟩⟩
          have hb2 := KT.new (K := K) (o := .tup [.str "rest", .str "chance"]) htp _ _ hb1
          refine ⟨_, rfl, rfl, _, rfl, ifp (by decide +kernel) ?_⟩
          refine ⟨_, rfl, ?_⟩
          refine ⟨_, rfl, _, rfl, _, rfl, b1, _, _, _, rfl, rfl, hb2, at1, _, _, rfl, rfl, ⟨by omega, by omega⟩, _, rfl, b1, _, _, _, rfl, rfl, hb2, at1, _, _, rfl, rfl, .inr ⟨by omega, by omega⟩, _, _, rfl, rfl, ?_⟩
          refine ⟨_, rfl, b1, _, _, _, rfl, rfl, hb2, at2, rfl, ?_⟩
          refine ⟨same_put sm (sm.free htp), ?_⟩
          have e : decide (V.int (q - q / m * m) = V.int r) = Tst.holds q z (.rest m r) := by
            rw [dI]
            show _ = decide (q % m = r)
            rw [Int.emod_def, Int.mul_comm m]
          rw [← e]
          exact ⟨_, _, _, rfl⟩
        | chance m r =>
          obtain ⟨h1, h2, h3, h4⟩ := ok1
          obtain ⟨b1, rfl, hb1⟩ := dp_3i hu1
          refine ⟨_, rfl, b1, _, _, _, rfl, rfl, hb1, at0, ?_⟩
          refine ⟨_, rfl, rfl, _, rfl, ifn (by decide +kernel) ?_⟩
          refine ⟨_, rfl, rfl, _, rfl, ifn (by decide +kernel) ?_⟩
          refine ⟨_, rfl, rfl, _, rfl, ifn (by decide +kernel) ?_⟩
          refine ⟨_, rfl, by show 2 ≤ sizeLine; decide, fun tp htp => ⟨tp, _, rfl, .inr (SqT.of upd_same), rfl, rfl, _, rfl, ifp (by decide +kernel) ?_⟩⟩
          have hb2 := KT.new (K := K) (o := .tup [.str "rest", .str "chance"]) htp _ _ hb1
          refine ⟨_, rfl, rfl, _, rfl, ifn (by decide +kernel) ?_⟩
          refine ⟨_, rfl, _, _, rfl, rfl, .inl (by decide), _, rfl, _, _, rfl, rfl, .inl (by decide), _, _, rfl, rfl, ?_⟩
          refine ⟨_, rfl, _, rfl, _, rfl, b1, _, _, _, rfl, rfl, hb2, at1, _, _, rfl, rfl, ⟨by omega, by omega⟩, _, rfl, b1, _, _, _, rfl, rfl, hb2, at1, _, _, rfl, rfl, .inr ⟨by omega, by omega⟩, _, _, rfl, rfl, ?_⟩
          refine ⟨_, rfl, b1, _, _, _, rfl, rfl, hb2, at2, rfl, ?_⟩
          refine ⟨same_put sm (sm.free htp), ?_⟩
          have e : decide (V.int ((7 * q + 13 * z) - (7 * q + 13 * z) / m * m) = V.int r) = Tst.holds q z (.chance m r) := by
            rw [dI]
            show _ = decide ((7 * q + 13 * z) % m = r)
            rw [Int.emod_def, Int.mul_comm m]
          rw [← e]
          exact ⟨_, _, _, rfl⟩
        | known ks =>
          obtain ⟨b1, u2, rfl, hb1, hu2⟩ := dp_2 hu1
          obtain ⟨b2, xs, rfl, hb2, hx⟩ := dp_tup hu2
          have e := dps_ints hx
          subst e
          refine ⟨_, rfl, b1, _, _, _, rfl, rfl, hb1, at0, ?_⟩
          refine ⟨_, rfl, rfl, _, rfl, ifn (by decide +kernel) ?_⟩
          refine ⟨_, rfl, rfl, _, rfl, ifp (by decide +kernel) ?_⟩
          refine ⟨_, rfl, _, rfl, b1, _, _, _, rfl, rfl, hb1, at1, b2, _, rfl, .inr hb2, rfl, flat_ints, ?_⟩
          refine ⟨_, rfl, rfl, _, rfl, ifn (by decide +kernel) ?_⟩
          refine ⟨_, rfl, by show 2 ≤ sizeLine; decide, fun tp htp => ⟨tp, _, rfl, .inr (SqT.of upd_same), rfl, rfl, _, rfl, ifn (by decide +kernel) ?_⟩⟩
          refine ⟨same_put sm (sm.free htp), ?_⟩
          have e : (if false = true then !inV (.int q) (ks.map V.int) else inV (.int q) (ks.map V.int)) = Tst.holds q z (.known ks) := by
            rw [if_neg Bool.false_ne_true, inV_ints]
            rfl
          rw [← e]
          exact ⟨_, _, _, rfl⟩
      · rintro σ2 H2 ⟨sm2, x5', x7', x8', rfl⟩
        clear hw tb hu1
        have hy2 := dp_keep (KT.same (K := K) sm2) _ _ a.td hy
        refine ⟨_, rfl, _, rfl, ite2 (fun e => ?_) (fun e => ?_)⟩
        · have et2 : tell q z m = a.out q := by
            rw [et]
            show (if t.holds q z = true then a.out q else _) = _
            rw [if_pos e]
          rw [et2] at k
          have cases3 : (∃ c x, y = .ref c ∧ (∃ r, SqT K H2 c (.str "num" :: r) ∧ atI (V.str "num" :: r) (-1) = some x) ∧ oV (a.out q) = x) ∨ (∃ c, y = .ref c ∧ SqT K H2 c [.str "none"] ∧ oV (a.out q) = .non) ∨
              ∃ c wd n, y = .ref c ∧ SqT K H2 c [.str wd, .int n] ∧ -9999 ≤ n ∧ n ≤ 9999 ∧ ((wd = "plus" ∧ oV (a.out q) = .int (q + n)) ∨ (wd = "times" ∧ oV (a.out q) = .int (q * n)) ∨ (wd = "rest" ∧ oV (a.out q) = .int (q - q / (if n > 1 then n else 1) * n))) := by
            cases a with
            | num n =>
              obtain ⟨c, rfl, hc⟩ := dp_2i hy2
              exact .inl ⟨c, .int n, rfl, ⟨_, hc, at_neg1⟩, rfl⟩
            | plus n =>
              obtain ⟨c, rfl, hc⟩ := dp_2i hy2
              exact .inr (.inr ⟨c, _, n, rfl, hc, ok2.1, ok2.2, .inl ⟨rfl, rfl⟩⟩)
            | times n =>
              obtain ⟨c, rfl, hc⟩ := dp_2i hy2
              exact .inr (.inr ⟨c, _, n, rfl, hc, ok2.1, ok2.2, .inr (.inl ⟨rfl, rfl⟩)⟩)
            | rest n =>
              obtain ⟨c, rfl, hc⟩ := dp_2i hy2
              have h2 := ok2.1
              have h3 := ok2.2
              refine .inr (.inr ⟨c, _, n, rfl, hc, by omega, by omega, .inr (.inr ⟨rfl, ?_⟩)⟩)
              rw [if_pos (by omega)]
              show V.int (q % n) = _
              rw [Int.emod_def, Int.mul_comm n]
            | non =>
              obtain ⟨c, rfl, hc⟩ := dp_1 hy2
              exact .inr (.inl ⟨c, rfl, hc, rfl⟩)
          clear hy2 hy et et2
          rcases cases3 with ⟨c, x, rfl, ⟨r, hc, hx⟩, ev⟩ | ⟨c, rfl, hc, ev⟩ | ⟨c, wd, n, rfl, hc, n0, n1, ev⟩
          · rw [ev] at k
            refine fun p2 hp2 => ⟨_, rfl, _, rfl, c, _, _, _, rfl, rfl, KT.new hp2 _ _ hc, hx, upd_same, [(kNum, x), (kNone, .non)], rfl, by show 2 ≤ 15; decide, ?_⟩
            have s3 : Same H2 (upd (upd H2 p2 (.dK [])) p2 (.dK (toldD x))) := same_put (same_put (Same.refl H2) hp2) hp2
            have hd : upd (upd H2 p2 (.dK [])) p2 (.dK (toldD x)) p2 = some (.dK (toldD x)) := upd_same
            have hc3 := KT.same (K := K) s3 _ _ hc
            have ex : valV (toldD x) kNum = some x := by rw [toldD_at, if_neg (by decide +kernel), if_pos rfl]
            have gd : DGet (upd (upd H2 p2 (.dK [])) p2 (.dK (toldD x))) p2 (.str "num") (some x) := by
              have g := DGet.k (k := kNum) hd
              rwa [ex] at g
            refine ⟨_, rfl, c, _, _, _, rfl, rfl, hc3, at0, _, rfl, p2, _, rfl, gd, _, rfl, ?_⟩
            refine ifn (by simp) ?_
            exact ⟨_, rfl, _, rfl, c, _, _, _, rfl, rfl, hc3, at0, p2, x, rfl, gd, k _ (sm2.trans s3)⟩
          · rw [ev] at k
            refine fun p2 hp2 => ⟨_, rfl, _, rfl, c, _, _, _, rfl, rfl, KT.new hp2 _ _ hc, at_neg1', upd_same, [(kNum, .str "none"), (kNone, .non)], rfl, by show 2 ≤ 15; decide, ?_⟩
            have s3 : Same H2 (upd (upd H2 p2 (.dK [])) p2 (.dK (toldD (.str "none")))) := same_put (same_put (Same.refl H2) hp2) hp2
            have hd : upd (upd H2 p2 (.dK [])) p2 (.dK (toldD (.str "none"))) p2 = some (.dK (toldD (.str "none"))) := upd_same
            have hc3 := KT.same (K := K) s3 _ _ hc
            have ex : valV (toldD (.str "none")) kNone = some .non := by rw [toldD_at, if_pos rfl]
            have gd : DGet (upd (upd H2 p2 (.dK [])) p2 (.dK (toldD (.str "none")))) p2 (.str "none") (some .non) := by
              have g := DGet.k (k := kNone) hd
              rwa [ex] at g
            refine ⟨_, rfl, c, _, _, _, rfl, rfl, hc3, at0, _, rfl, p2, _, rfl, gd, _, rfl, ?_⟩
            refine ifn (by simp) ?_
            exact ⟨_, rfl, _, rfl, c, _, _, _, rfl, rfl, hc3, at0, p2, .non, rfl, gd, k _ (sm2.trans s3)⟩
          · refine fun p2 hp2 => ⟨_, rfl, _, rfl, c, _, _, _, rfl, rfl, KT.new hp2 _ _ hc, at_neg1, upd_same, [(kNum, .int n), (kNone, .non)], rfl, by show 2 ≤ 15; decide, ?_⟩
            have s3 : Same H2 (upd (upd H2 p2 (.dK [])) p2 (.dK (toldD (.int n)))) := same_put (same_put (Same.refl H2) hp2) hp2
            have hd : upd (upd H2 p2 (.dK [])) p2 (.dK (toldD (.int n))) p2 = some (.dK (toldD (.int n))) := upd_same
            have hc3 := KT.same (K := K) s3 _ _ hc
            have ex : valV (toldD (.int n)) (Sum.inr wd) = none := by
              rw [toldD_at]
              rcases ev with ⟨rfl, _⟩ | ⟨rfl, _⟩ | ⟨rfl, _⟩
              · rw [if_neg (by decide +kernel), if_neg (by decide +kernel)]
              · rw [if_neg (by decide +kernel), if_neg (by decide +kernel)]
              · rw [if_neg (by decide +kernel), if_neg (by decide +kernel)]
            have gd : DGet (upd (upd H2 p2 (.dK [])) p2 (.dK (toldD (.int n)))) p2 (.str wd) none := by
              have g := DGet.k (k := Sum.inr wd) hd
              rwa [ex] at g
            refine ⟨_, rfl, c, _, _, _, rfl, rfl, hc3, at0, _, rfl, p2, _, rfl, gd, _, rfl, ?_⟩
            refine ifp rfl ?_
            have L0 := toldD_len (.int n)
            have L1 := putK_len (toldD (.int n)) kPlus (.int (q + n))
            have L2 := putK_len (putK (toldD (.int n)) kPlus (.int (q + n))) kTimes (.int (q * n))
            have hL : sizeLine = 16777216 := sizeLine_eq
            have B1 : (putK (toldD (.int n)) kPlus (.int (q + n))).length < sizeLine := by omega
            have B2 : (putK (putK (toldD (.int n)) kPlus (.int (q + n))) kTimes (.int (q * n))).length < sizeLine := by omega
            refine ⟨_, rfl, _, rfl, c, _, _, _, rfl, rfl, hc3, at1, _, _, rfl, rfl, _, rfl, p2, _, rfl, DPut.k (k := kPlus) hd (by omega), ?_⟩
            have s4 := same_put (Same.trans (Same.refl H2) s3) (o := .dK (putK (toldD (.int n)) kPlus (.int (q + n)))) hp2
            have hc4 := KT.same (K := K) s4 _ _ hc
            refine ⟨_, rfl, _, rfl, c, _, _, _, rfl, rfl, hc4, at1, _, _, rfl, rfl, .inr ⟨by omega, by omega⟩, _, rfl, p2, _, rfl, DPut.k (k := kTimes) upd_same B1, ?_⟩
            have s5 := same_put s4 (o := .dK (putK (putK (toldD (.int n)) kPlus (.int (q + n))) kTimes (.int (q * n)))) hp2
            have hc5 := KT.same (K := K) s5 _ _ hc
            refine ⟨_, rfl, _, rfl, _, rfl, c, _, _, _, rfl, rfl, hc5, at1, _, _, rfl, _, _, rfl, rfl, ⟨by split <;> omega, by split <;> omega⟩, _, rfl, c, _, _, _, rfl, rfl, hc5, at1, _, _, rfl, rfl, .inr ⟨by omega, by omega⟩, _, _, rfl, rfl, _, rfl, p2, _, rfl,
              DPut.k (k := kRest) upd_same B2, ?_⟩
            have s6 := same_put s5 (o := .dK (putK (putK (putK (toldD (.int n)) kPlus (.int (q + n))) kTimes (.int (q * n))) kRest (.int (q - q / (if n > 1 then n else 1) * n)))) hp2
            have hc6 := KT.same (K := K) s6 _ _ hc
            have ex6 : valV (putK (putK (putK (toldD (.int n)) kPlus (.int (q + n))) kTimes (.int (q * n))) kRest (.int (q - q / (if n > 1 then n else 1) * n))) (Sum.inr wd) = some (oV (a.out q)) := by
              rw [valV_put, valV_put, valV_put]
              rcases ev with ⟨rfl, ev⟩ | ⟨rfl, ev⟩ | ⟨rfl, ev⟩
              · rw [if_neg (by decide +kernel), if_neg (by decide +kernel), if_pos rfl, ev]
              · rw [if_neg (by decide +kernel), if_pos rfl, ev]
              · rw [if_pos rfl, ev]
            have g : ∀ H9 : Hp, DGet (upd H9 p2 (.dK (putK (putK (putK (toldD (.int n)) kPlus (.int (q + n))) kTimes (.int (q * n))) kRest (.int (q - q / (if n > 1 then n else 1) * n))))) p2 (.str wd) (some (oV (a.out q))) := fun H9 => by
              have g0 := DGet.k (k := Sum.inr wd) (upd_same (H := H9) (a := p2) (o := .dK (putK (putK (putK (toldD (.int n)) kPlus (.int (q + n))) kTimes (.int (q * n))) kRest (.int (q - q / (if n > 1 then n else 1) * n)))))
              rwa [ex6] at g0
            exact ⟨_, rfl, _, rfl, c, _, _, _, rfl, rfl, hc6, at0, p2, _, rfl, g _, k _ (sm2.trans s6)⟩
        · refine ⟨sm2, ⟨_, _, _, _, _, _, rfl⟩, ?_⟩
          rw [et]
          show (if t.holds q z = true then a.out q else _) = _
          rw [if_neg e]
    · rintro σ H1 ⟨sm, _, et⟩
      have hl : vs.length = m.length := by
        have e := dps_len ha
        rwa [List.length_map] at e
      rw [hl, List.drop_length] at et
      have e := k H1 sm
      rw [et] at e
      exact e
end
end Mh
namespace Mh
open PySem L2
def spAlike (K : PySem.W.Frag) (n : Nat) : Sp := fun vs H Q _ => ∃ (x y : V) (dd : PyData), vs = [x, y] ∧ Dp K H x dd ∧ Dp K H y dd ∧ deep n dd = true ∧ ∀ H', Same H H' → Q (.bl true) H'
section
variable {P : Program} {w : World} {K : PySem.W.Frag} {mg : Str → Option Value} {base : Heap} {A : Adr}
end
end Mh
namespace Mh
open PySem L2
theorem seqIx {i : Int} {n : Nat} (h0 : 0 ≤ i) (h1 : i < n) : seqIndex? i n = some i.toNat := by
  unfold seqIndex?
  have e : (if i < 0 then i + (n : Int) else i) = i := if_neg (by omega)
  simp only [e]
  rw [if_pos (by simp [h0, h1])]
/-- what may be mixed -/
def Mixable (K : PySem.W.Frag) (H : Hp) (zs : List (V × PyData)) : Prop := ∀ z ∈ zs, Dp K H z.1 z.2 ∧ TD z.2 = true ∧ Sh 20 z.2
theorem Mixable.kt {K : PySem.W.Frag} {H H' : Hp} {zs : List (V × PyData)} (h : Mixable K H zs) (kt : KT K H H') : Mixable K H' zs := fun z hz =>
  ⟨dp_keep kt _ _ (h z hz).2.1 (h z hz).1, (h z hz).2⟩
theorem Mixable.perm {K : PySem.W.Frag} {H : Hp} {zs ys : List (V × PyData)} (h : Mixable K H zs) (p : ys.Perm zs) : Mixable K H ys := fun z hz => h z (p.mem_iff.mp hz)
def spMixed (K : PySem.W.Frag) : Sp := fun vs H Q _ => ∃ (d a : Addr) (zs : List (V × PyData)), vs = [.ref d, .ref a] ∧ DS d H ∧ SqL K H a (zs.map (·.1)) ∧ zs.length ≤ 1000 ∧ Mixable K H zs ∧
  ∀ (p : Addr) (ys : List (V × PyData)) (H' : Hp), H p = none → Bt [d] H H' → DS d H' → H' p = some (.lst (ys.map (·.1))) → ys.Perm zs → Mixable K H' ys → Q (.ref p) H'
section
variable {P : Program} {w : World} {K : PySem.W.Frag} {mg : Str → Option Value} {base : Heap} {A : Adr}
theorem ok_mixed (T : Txt K mg A) : FnOk P w K mg base CX0 2 A.mixed A.mixed_ ["_law_d", "_law_row"] (spMixed K) := by
  refine T.mixed.F.ok sc_mixed (fun vs H Q E h => ?_) (fun cdv Ar outer s H vs Q E hr h => ?_)
  · obtain ⟨d, a, zs, rfl, _⟩ := h
    rfl
  · obtain ⟨d, a, zs, rfl, hd, hs, hz, mx, k⟩ := h
    refine ⟨_, (pss_cons (ps_set (i := 2) sc_mixed.nd rfl (Or.inl rfl) (pe_callTy call_list_of (by rfl) T.n_list (by decide +kernel) (pa_cons (pv 1) pa_nil)))
    (pss_cons (ps_set (i := 3) sc_mixed.nd rfl (Or.inl rfl) (pe_lst pa_nil))
    (pss_cons (ps_while PassesOwn.never (pt_cmpR (op_neD hr.units) (pv 2) (pe_lst pa_nil) (nomark _))
    (pss_one (ps_expr (pe_bm PySem.F.plainAttrs_list PySem.F.slot_list_append PySem.F.type_list_append mt_append (pv 3) (pa_cons (pe_bm PySem.F.plainAttrs_list PySem.F.slot_list_pop PySem.F.type_list_pop mt_popAt (pv 2) (pa_cons (pe_call (ok_off T) (hr.mono (by decide)) (by rfl) T.off.n T.off.F.kp T.off.b .nil pass0 (pa_cons (pv 0) (pa_cons (pe_callB call_len_seq (by rfl) T.n_len PySem.boot_len (pa_cons (pv 2) pa_nil)) pa_nil))) pa_nil)) pa_nil)))))
    (pss_one (ps_ret (pv 3)))))), ?_⟩
    refine ⟨_, rfl, a, _, rfl, .inl hs, fun l hl => ?_⟩
    refine ⟨Nat.zero_le _, fun f hf => ?_⟩
    have ndl := hd.ne hl
    have hd1 := hd.new (o := .lst (zs.map (·.1))) hl
    have ndf := hd1.ne hf
    have nlf : l ≠ f := ne_of_none upd_same hf
    have hf0 : H f = none := (Bt.new (S := []) hl).free (by simp) hf
    refine ⟨fun m σ H' => ∃ zs1 zs2 : List (V × PyData), m = zs1.length ∧ σ = [some (.ref d), some (.ref a), some (.ref l), some (.ref f)] ∧ H' l = some (.lst (zs1.map (·.1))) ∧ H' f = some (.lst (zs2.map (·.1))) ∧ (zs2 ++ zs1).Perm zs ∧ DS d H' ∧ Bt [d] H H' ∧ Mixable K H' (zs2 ++ zs1),
      ⟨_, zs, [], rfl, rfl, (upd_ne nlf).trans upd_same, upd_same, List.Perm.refl _, hd1.new hf, (Bt.new hl).trans (Bt.new hf), mx.kt ((KT.new hl).trans (KT.new hf))⟩, ?_⟩
    rintro m σ H1 ⟨zs1, zs2, rfl, rfl, h1, h2, pm, d1, b1, mx1⟩
    have len2 : zs2.length + zs1.length ≤ 1000 := by
      have e := pm.length_eq
      rw [List.length_append] at e
      omega
    refine ⟨_, rfl, Nat.zero_le _, fun e he => ?_⟩
    have mxe := (mx1.kt (KT.new (o := .lst []) he))
    refine ⟨.list (zs1.map fun z : V × PyData => z.2), .list [], .lst (SqL.of ((upd_ne (ne_of_none h1 he)).trans h1)) (dps_zip fun z hz => (mxe z (List.mem_append_right _ hz)).1), .lst (SqL.of upd_same) .nil,
      (sh_list (n := 20) fun x hx => by
        obtain ⟨z, hz, rfl⟩ := List.mem_map.mp hx
        exact (mx1 z (List.mem_append_right _ hz)).2.2).shaped (by decide), (sh_list (n := 20) (ds := []) (by simp)).shaped (by decide), _, rfl, ?_⟩
    rw [eqv_nil]
    have h1' := (upd_ne (o := .lst []) (ne_of_none h1 he)).trans h1
    have h2' := (upd_ne (o := .lst []) (ne_of_none h2 he)).trans h2
    cases zs1 with
    | nil =>
      refine ifn (by simp) ?_
      have d1e := d1.new (o := .lst []) he
      refine ⟨_, rfl, k f zs2 _ hf0 (b1.trans (Bt.new he)) d1e h2' (by simpa using pm) (by simpa using mxe)⟩
    | cons z0 zr =>
      refine ifp (by simp) ?_
      refine ⟨fun σ H' => ∃ zs1 zs2 : List (V × PyData), zr.length = zs1.length ∧ σ = [some (.ref d), some (.ref a), some (.ref l), some (.ref f)] ∧ H' l = some (.lst (zs1.map (·.1))) ∧ H' f = some (.lst (zs2.map (·.1))) ∧ (zs2 ++ zs1).Perm zs ∧ DS d H' ∧ Bt [d] H H' ∧ Mixable K H' (zs2 ++ zs1),
        fun σ' H' w' => ⟨zr.length, by simp, w'⟩, ?_⟩
      refine ⟨_, rfl, .inl ⟨rfl, _, SqL.of h2'⟩, ?_⟩
      refine ⟨_, rfl, .inl ⟨rfl, _, SqL.of h1'⟩, ?_⟩
      simp only [List.length_cons] at len2
      refine ⟨_, rfl, _, rfl, l, _, rfl, .inl (SqL.of h1'), nil_ (rd_offV rfl (d1.new he) (by show (0 : Int) < (((z0 :: zr).map (·.1)).length : Nat); simp only [List.length_map, List.length_cons]; omega) (by simp only [List.length_map, List.length_cons]; omega) fun r H2 r0 r1 b2 d2 => ?_)⟩
      simp only [List.length_map, List.length_cons] at r1
      have nl : l ∉ [d] := by
        simp only [List.mem_singleton]
        exact ndl.symm
      have nf : f ∉ [d] := by
        simp only [List.mem_singleton]
        exact ndf.symm
      have g1 := b2 _ _ nl h1'
      have g2 := b2 _ _ nf h2'
      have hlt : r.toNat < (z0 :: zr).length := by simp only [List.length_cons]; omega
      refine ⟨l, _, r, r.toNat, ((z0 :: zr)[r.toNat]).1, rfl, rfl, g1, by omega, by omega, ?_, ?_, ?_⟩
      · exact seqIx r0 (by simp only [List.length_map, List.length_cons]; omega)
      · rw [List.getElem?_map, List.getElem?_eq_getElem hlt]
        rfl
      have g2' : upd H2 l (.lst (((z0 :: zr).map (·.1)).eraseIdx r.toNat)) f = some (.lst (zs2.map (·.1))) := (upd_ne nlf.symm).trans g2
      refine ⟨f, _, _, rfl, rfl, g2', by rw [List.length_map, sizeLine_eq]; omega, ?_⟩
      have pm2 : ((zs2 ++ [(z0 :: zr)[r.toNat]]) ++ (z0 :: zr).eraseIdx r.toNat).Perm (zs2 ++ z0 :: zr) := by
        rw [List.append_assoc]
        exact List.Perm.append_left zs2 (perm_erase (List.getElem?_eq_getElem hlt))
      have hl0 : H l = none := hl
      have btAll : Bt [d] H (upd (upd H2 l (.lst (((z0 :: zr).map (·.1)).eraseIdx r.toNat))) f (.lst (zs2.map (·.1) ++ [((z0 :: zr)[r.toNat]).1]))) :=
        (((b1.trans (Bt.new he)).trans b2).put hl0).put hf0
      have kt2 : KT K H2 (upd (upd H2 l (.lst (((z0 :: zr).map (·.1)).eraseIdx r.toNat))) f (.lst (zs2.map (·.1) ++ [((z0 :: zr)[r.toNat]).1]))) :=
        ((Bt.refl.set (S := [l]) (by simp)).kt1 g1).trans ((Bt.refl.set (S := [f]) (by simp)).kt1 g2')
      refine ⟨(z0 :: zr).eraseIdx r.toNat, zs2 ++ [(z0 :: zr)[r.toNat]], ?_, rfl, ?_, ?_, pm2.trans pm, ?_, btAll, ?_⟩
      · rw [List.length_eraseIdx_of_lt hlt]
        simp
      · rw [upd_ne nlf, upd_same, eraseIdx_map]
      · rw [upd_same, List.map_append]
        rfl
      · obtain ⟨ys, q1, q2⟩ := d2
        exact ⟨ys, by rw [upd_ne ndf, upd_ne ndl]; exact q1, q2⟩
      · exact ((mxe.kt ((d1.new he).kt b2)).kt kt2).perm pm2
end
end Mh
namespace Mh
open PySem L2
theorem DS.same {d : Addr} {H H' : Hp} (h : DS d H) (e : Same H H') : DS d H' := by
  obtain ⟨ys, h1, h2⟩ := h
  exact ⟨ys, e _ _ h1, h2⟩
theorem cut_take {xs : List V} {v : Int} (h : 0 ≤ v) : cutV xs none (some v) = xs.take v.toNat := by
  obtain ⟨k, rfl⟩ : ∃ k : Nat, v = (k : Int) := ⟨v.toNat, by omega⟩
  unfold cutV
  rw [HT.sIx_none, HT.sIx_nat, List.drop_zero, Int.toNat_natCast, Nat.sub_zero, List.take_eq_take_iff]
  omega
/-- what stands while a task's rows are drawn -/
def TaskHF (K : PySem.W.Frag) (d l rw : Addr) (nums : List Int) (v : V) (m : Mach) (H H' : Hp) (rs : List Qn) : Prop :=
  DS d H' ∧ Bt [d] H H' ∧ H' l = some (.lst (nums.map V.int)) ∧ Dp K H' v (machDt m) ∧ ∃ vs, H' rw = some (.lst vs) ∧ DpAll K H' vs (rs.map Qn.dt)
theorem TaskHF.step {K : PySem.W.Frag} {d l rw : Addr} {nums : List Int} {v : V} {m : Mach} {H H1 H2 : Hp} {rs : List Qn} (h : TaskHF K d l rw nums v m H H1 rs) (nl : l ∉ [d]) (nr : rw ∉ [d]) (b : Bt [d] H1 H2) (d2 : DS d H2) :
    TaskHF K d l rw nums v m H H2 rs := by
  obtain ⟨h1, h2, h3, h4, vs, h5, h6⟩ := h
  exact ⟨d2, h2.trans b, b _ _ nl h3, dp_keep (h1.kt b) _ _ (mach_td m) h4, vs, b _ _ nr h5, dps_keep (h1.kt b) _ _ (tds_map qn_td rs) h6⟩
section
variable {K : PySem.W.Frag} {σ : St} {H : Hp} {d : Addr} {i j : Nat}
theorem rd_orN {x : V} {n c : Int} {Q : Bool → Hp → Prop} (hj : σ[j]? = some (some x)) (hσ : σ[i]? = some (some (.ref d))) (hd : DS d H) (n0 : 0 < n) (n1 : n < 1073741824)
    (k : ∀ (b : Bool) (H' : Hp), (b = false → x ≠ .non) → Bt [d] H H' → DS d H' → Q b H') :
    tOr (tTest (tOp (fun x y H Q => y = V.non ∧ Q (.bl (decide (x = .non))) H) (tVar j) (tC .non))) (tTest (tOp rEq (tOffE i (tC (.int n))) (tC (.int c)))) σ H Q := by
  refine ⟨_, hj, rfl, _, rfl, ?_⟩
  refine ite2 (fun e => ?_) (fun e => ?_)
  · exact k true H (fun z => by cases z) Bt.refl hd
  · refine rd_off hσ hd n0 n1 fun r H1 r0 r1 b1 d1 => ⟨rfl, _, rfl, ?_⟩
    exact k _ H1 (fun _ z => e (decide_eq_true z)) b1 d1
theorem rd_orE {x : V} {n c c1 : Int} {Q : Bool → Hp → Prop} (hj : σ[j]? = some (some x)) (hx : ∃ y, x = .int y) (hσ : σ[i]? = some (some (.ref d))) (hd : DS d H) (n0 : 0 < n) (n1 : n < 1073741824)
    (k : ∀ (b : Bool) (H' : Hp), Bt [d] H H' → DS d H' → Q b H') :
    tOr (tTest (tOp rEq (tVar j) (tC (.int c1)))) (tTest (tOp rEq (tOffE i (tC (.int n))) (tC (.int c)))) σ H Q := by
  obtain ⟨y, rfl⟩ := hx
  refine ⟨_, hj, rfl, _, rfl, ?_⟩
  refine ite2 (fun e => ?_) (fun e => ?_)
  · exact k true H Bt.refl hd
  · exact rd_off hσ hd n0 n1 fun r H1 r0 r1 b1 d1 => ⟨rfl, _, rfl, k _ H1 b1 d1⟩
end
/-- a task drawn for a machine -/
def spGenTask (K : PySem.W.Frag) : Sp := fun vs H Q _ => ∃ (d : Addr) (v : V) (m : Mach), vs = [.ref d, v] ∧ DS d H ∧ Dp K H v (machDt m) ∧ MachOk m ∧
  ∀ (u : V) (t : Task) (H' : Hp), Bt [d] H H' → DS d H' → Dp K H' u t.dt → t.Ok → Q u H'
def n16 : List (V × PyData) := (List.range 16).map fun i => (V.int (0 + (i : Nat)), PyData.int (0 + (i : Nat)))
def vI : V × PyData → Int := fun z => match z.1 with
  | .int i => i
  | _ => 0
section
variable {P : Program} {w : World} {K : PySem.W.Frag} {mg : Str → Option Value} {base : Heap} {A : Adr}
theorem ok_task (T : Txt K mg A) : FnOk P w K mg base CX0 3 A.task A.task_ ["_law_d", "_law_machine_here"] (spGenTask K) := by
  refine T.task.F.ok sc_task (fun vs H Q E h => ?_) (fun cdv Ar outer s H vs Q E hr h => ?_)
  · obtain ⟨d, v, m, rfl, _⟩ := h
    rfl
  · obtain ⟨d, v, m, rfl, hd, hv, ho, k⟩ := h
    refine ⟨_, (pss_cons (ps_set (i := 2) sc_task.nd rfl (Or.inl rfl) (pe_slice sl_list (pe_call (ok_mixed T) (hr.mono (by decide)) (by rfl) T.mixed.n T.mixed.F.kp T.mixed.b .nil pass0 (pa_cons (pv 0) (pa_cons (pe_listRg rfl (by rfl) T.n_list (prg_1 (by rfl) T.n_range pe_int)) pa_nil))) po_none (po_some (pe_op op_add pe_int (pe_call (ok_off T) (hr.mono (by decide)) (by rfl) T.off.n T.off.F.kp T.off.b .nil pass0 (pa_cons (pv 0) (pa_cons (pe_ix ix_list (pe_lst (pa_cons pe_int (pa_cons pe_int pa_nil))) (pe_call (ok_off T) (hr.mono (by decide)) (by rfl) T.off.n T.off.F.kp T.off.b .nil pass0 (pa_cons (pv 0) (pa_cons pe_int pa_nil))) (fun _ _ => rfl)) pa_nil)))))))
    (pss_cons (ps_set (i := 3) sc_task.nd rfl (Or.inl rfl) (pe_call (ok_off T) (hr.mono (by decide)) (by rfl) T.off.n T.off.F.kp T.off.b .nil pass0 (pa_cons (pv 0) (pa_cons pe_int pa_nil))))
    (pss_cons (ps_set (i := 4) sc_task.nd rfl (Or.inl rfl) (pe_lst pa_nil))
    (pss_cons (ps_for PassesOwn.never rfl (pi_list (pv 2)) (pg_name (i := 5) sc_task.nd rfl (Or.inl rfl))
    (pss_cons (ps_set (i := 6) sc_task.nd rfl (Or.inl rfl) (pe_call (ok_told T) (hr.mono (by decide)) (by rfl) T.told.n T.told.F.kp T.told.b .nil pass0 (pa_cons (pv 1) (pa_cons (pv 5) (pa_cons (pe_call (ok_off T) (hr.mono (by decide)) (by rfl) T.off.n T.off.F.kp T.off.b .nil pass0 (pa_cons (pv 0) (pa_cons pe_int pa_nil))) pa_nil)))))
    (Evl.pss_cut (ps_if (PW.pt (pw_or (pt_cmpR op_isN (pv 6) pe_non (nomark _)) (pw_or1 (pt_cmpR op_eq (pe_call (ok_off T) (hr.mono (by decide)) (by rfl) T.off.n T.off.F.kp T.off.b .nil pass0 (pa_cons (pv 0) (pa_cons pe_int pa_nil))) pe_int (nomark _)))))
    (pss_one (ps_set (i := 6) sc_task.nd rfl (Or.inl rfl) (pe_op op_sub (pe_call (ok_off T) (hr.mono (by decide)) (by rfl) T.off.n T.off.F.kp T.off.b .nil pass0 (pa_cons (pv 0) (pa_cons pe_int pa_nil))) pe_int)))
    pss_nil)
    (pss_cons (ps_set (i := 7) sc_task.nd rfl (Or.inl rfl) pe_non)
    (Evl.pss_cut (ps_if (PW.pt (pw_or (pt_cmpR op_eq (pv 3) pe_int (nomark _)) (pw_or1 (pt_cmpR op_eq (pe_call (ok_off T) (hr.mono (by decide)) (by rfl) T.off.n T.off.F.kp T.off.b .nil pass0 (pa_cons (pv 0) (pa_cons pe_int pa_nil))) pe_int (nomark _)))))
    (pss_cons (ps_set (i := 8) sc_task.nd rfl (Or.inl rfl) (pe_ix ix_list (pe_lst (pa_cons (pv 5) (pa_cons (pe_call (ok_off T) (hr.mono (by decide)) (by rfl) T.off.n T.off.F.kp T.off.b .nil pass0 (pa_cons (pv 0) (pa_cons pe_int pa_nil))) pa_nil))) (pe_call (ok_off T) (hr.mono (by decide)) (by rfl) T.off.n T.off.F.kp T.off.b .nil pass0 (pa_cons (pv 0) (pa_cons pe_int pa_nil))) (fun _ _ => rfl)))
    (pss_one (ps_set (i := 7) sc_task.nd rfl (Or.inl rfl) (pe_tup (pa_cons (pv 8) (pa_cons (pe_ix ix_list (pe_lst (pa_cons (pe_call (ok_off T) (hr.mono (by decide)) (by rfl) T.off.n T.off.F.kp T.off.b .nil pass0 (pa_cons (pv 0) (pa_cons pe_int pa_nil))) (pa_cons (pv 5) pa_nil))) (pe_call (ok_off T) (hr.mono (by decide)) (by rfl) T.off.n T.off.F.kp T.off.b .nil pass0 (pa_cons (pv 0) (pa_cons pe_int pa_nil))) (fun _ _ => rfl)) pa_nil))))))
    pss_nil)
    (pss_one (ps_expr (pe_bm PySem.F.plainAttrs_list PySem.F.slot_list_append PySem.F.type_list_append mt_append (pv 4) (pa_cons (pe_tup (pa_cons (pv 5) (pa_cons (pv 6) (pa_cons (pv 7) pa_nil)))) pa_nil)))))))))
    (pss_one (ps_ret (pe_tup (pa_cons (pe_callTy call_tuple_of (by rfl) T.n_tuple PyProof.Rows.boot_tuple (pa_cons (pv 4) pa_nil)) (pa_cons (pe_op op_add pe_int (pe_call (ok_off T) (hr.mono (by decide)) (by rfl) T.off.n T.off.F.kp T.off.b .nil pass0 (pa_cons (pv 0) (pa_cons pe_int pa_nil)))) pa_nil))))))))), ?_⟩
    refine ⟨_, rfl, 16, rfl, RgOk.of_le (by decide) (by decide) (by decide) (by decide), fun q hq => nil_ ?_⟩
    have eq16 : n16.map (·.1) = rgV 0 16 := by
      unfold n16 rgV
      rw [List.map_map]
      rfl
    have mx16 : Mixable K (upd H q (.lst (rgV 0 16))) n16 := fun z hz => by
      obtain ⟨i, _, rfl⟩ := List.mem_map.mp hz
      exact ⟨.int _, rfl, sh_int _⟩
    refine ⟨d, q, n16, rfl, hd.new hq, SqL.of (by rw [eq16]; exact upd_same), by simp [n16], mx16, fun l0 ys H1 hl0 b1 d1 h1 pm mx1 => ?_⟩
    have nl0 : l0 ∉ [d] := by
      simp only [List.mem_singleton]
      exact ((hd.new (o := .lst (rgV 0 16)) hq).ne hl0).symm
    -- the numbers
    have ev : ∀ z ∈ n16, z.1 = .int (vI z) ∧ 0 ≤ vI z ∧ vI z ≤ 15 := fun z hz => by
      obtain ⟨i, hi, rfl⟩ := List.mem_map.mp hz
      have hi2 := List.mem_range.mp hi
      refine ⟨rfl, ?_, ?_⟩
      · show (0 : Int) ≤ 0 + (i : Nat)
        omega
      · show (0 : Int) + (i : Nat) ≤ 15
        omega
    have en : ys.map (·.1) = (ys.map vI).map V.int := by
      rw [List.map_map]
      exact List.map_congr_left fun z hz => (ev z (pm.mem_iff.mp hz)).1
    have nd : (ys.map vI).Nodup := by
      refine (pm.map vI).nodup_iff.mpr ?_
      have e : n16.map vI = (List.range 16).map fun i : Nat => (0 : Int) + (i : Int) := by
        unfold n16
        rw [List.map_map]
        rfl
      rw [e]
      decide
    have bd : ∀ x ∈ ys.map vI, 0 ≤ x ∧ x ≤ 15 := fun x hx => by
      obtain ⟨z, hz, rfl⟩ := List.mem_map.mp hx
      exact (ev z (pm.mem_iff.mp hz)).2
    have len16 : (ys.map vI).length = 16 := by
      rw [List.length_map, pm.length_eq]
      rfl
    rw [en] at h1
    generalize ys.map vI = ns at h1 nd bd len16
    refine ⟨_, rfl, rd_two (K := K) rfl d1 fun z H2 hz b2 d2 => ?_⟩
    have hz2 : ∃ n, z = .int n ∧ 0 < n ∧ n ≤ 16 := by
      rcases hz with rfl | rfl
      · exact ⟨4, rfl, by decide, by decide⟩
      · exact ⟨16, rfl, by decide, by decide⟩
    obtain ⟨n, en2, n0, n1⟩ := hz2
    refine nil_ (rd_offV en2 d2 n0 (by omega) fun c H3 c0 c1 b3 d3 => ?_)
    refine ⟨_, _, rfl, rfl, _, rfl, l0, _, rfl, SqL.of (b3 _ _ nl0 (b2 _ _ nl0 h1)), fun l hl => ?_⟩
    rw [cut_take (by omega), ← List.map_take]
    have ndl : l ∉ [d] := by
      simp only [List.mem_singleton]
      exact (d3.ne hl).symm
    refine rd_off rfl (d3.new hl) (by decide) (by decide) fun often H4 o0 o1 b4 d4 => ?_
    refine ⟨Nat.zero_le _, fun rw hrw => ?_⟩
    have ndr : rw ∉ [d] := by
      simp only [List.mem_singleton]
      exact (d4.ne hrw).symm
    have h4l := b4 _ _ ndl (upd_same (H := H3) (a := l) (o := .lst ((ns.take (1 + c).toNat).map V.int)))
    have nlr : l ≠ rw := ne_of_none h4l hrw
    have btA : Bt [d] H H4 := ((((Bt.new hq).trans b1).trans b2).trans b3).trans ((Bt.new hl).trans b4)
    have hv4 : Dp K H4 v (machDt m) := dp_keep (hd.kt btA) _ _ (mach_td m) hv
    have hrw0 : H rw = none := btA.free ndr hrw
    have nums0 : ∀ x ∈ ns.take (1 + c).toNat, 0 ≤ x ∧ x ≤ 15 := fun x hx => bd x (List.mem_of_mem_take hx)
    have numsL : (ns.take (1 + c).toNat).length ≤ 16 := by
      rw [List.length_take]
      omega
    have numsL1 : 1 ≤ (ns.take (1 + c).toNat).length := by
      rw [List.length_take]
      omega
    have numsN : (ns.take (1 + c).toNat).Nodup := nd.sublist (List.take_sublist _ _)
    generalize ns.take (1 + c).toNat = nums at h4l nums0 numsL numsL1 numsN
    refine ⟨_, rfl, l, rfl, ⟨_, SqL.of ((upd_ne nlr).trans h4l)⟩, for_list (K := K) (a := l) (xs := nums.map V.int)
      (fun i σ H' => (∃ x5 x6 x7 x8, σ = [some (.ref d), some v, some (.ref l), some (.int often), some (.ref rw), x5, x6, x7, x8]) ∧ ∃ rs : List Qn, TaskHF K d l rw nums v m H H' rs ∧ rs.map Qn.q = nums.take i ∧ ∀ r ∈ rs, r.Ok)
      ⟨⟨_, _, _, _, rfl⟩, [], ⟨d4.new hrw, btA.trans (Bt.new hrw), (upd_ne nlr).trans h4l, dp_keep (KT.new hrw) _ _ (mach_td m) hv4, [], upd_same, .nil⟩, by simp, by simp⟩
      (fun i σ H' _ ⟨_, rs, hf, _⟩ => SqL.of hf.2.2.1) ?_ ?_⟩
    · rintro i xv σ H5 hi ⟨⟨x5, x6, x7, x8, rfl⟩, rs, hf, hq1, hok⟩
      obtain ⟨x, hx, rfl⟩ := int_at hi
      have xb := nums0 x (List.mem_of_getElem? hx)
      refine ⟨_, rfl, _, rfl, rd_off rfl hf.1 (by decide) (by decide) fun sd H6 s0 s1 b6 d6 => nil_ ?_⟩
      have hf6 := hf.step ndl ndr b6 d6
      refine ⟨v, m, x, sd, rfl, hf6.2.2.2.1, ho, fun H7 sm7 => ?_⟩
      have hf7 := hf6.step ndl ndr (Bt.of_same sm7) (d6.same sm7)
      refine ⟨fun σ' H' => TaskHF K d l rw nums v m H H' rs ∧ ∃ due, dueOk due ∧ σ' = [some (.ref d), some v, some (.ref l), some (.int often), some (.ref rw), some (.int x), some (.int due), x7, x8], ?_, ?_⟩
      · refine rd_orN (j := 6) (i := 0) (d := d) rfl rfl hf7.1 (by decide) (by decide) fun b H8 hb b8 d8 => ?_
        have hf8 := hf7.step ndl ndr b8 d8
        refine ite2 (fun e => ?_) (fun e => ?_)
        · refine rd_off rfl d8 (by decide) (by decide) fun y H9 y0 y1 b9 d9 => ?_
          refine ⟨_, _, rfl, rfl, hf8.step ndl ndr b9 d9, y - 2, ⟨by omega, by omega⟩, rfl⟩
        · have hn := hb (by simpa using e)
          cases et : tell x sd m with
          | none =>
            rw [et] at hn
            exact absurd rfl hn
          | some y =>
            exact ⟨hf8, y, tell_bound ho.2.2 xb.1 (by omega) et, rfl⟩
      rintro σ8 H8 ⟨hf8, due, hdue, rfl⟩
      refine ⟨fun σ' H' => TaskHF K d l rw nums v m H H' rs ∧ ∃ (tv : V) (tw : Option (Int × Int)) (y8 : Option V), Dp K H' tv (twinDt tw) ∧ (∀ y e, tw = some (y, e) → 0 ≤ y ∧ y ≤ 9999 ∧ dueOk e) ∧ σ' = [some (.ref d), some v, some (.ref l), some (.int often), some (.ref rw), some (.int x), some (.int due), some tv, y8], ?_, ?_⟩
      · refine rd_orE (j := 3) (i := 0) (d := d) rfl ⟨_, rfl⟩ rfl hf8.1 (by decide) (by decide) fun b H9 b9 d9 => ?_
        have hf9 := hf8.step ndl ndr b9 d9
        refine ite2 (fun e => ?_) (fun e => ?_)
        · refine ⟨_, rfl, rd_off rfl d9 (by decide) (by decide) fun y1 H10 y10 y11 b10 d10 => ?_⟩
          refine ⟨by show 2 ≤ sizeLine; decide, fun l2 hl2 => ?_⟩
          refine rd_off rfl (d10.new hl2) (by decide) (by decide) fun r1 H11 r10 r11 b11 d11 => ?_
          obtain ⟨z1, hz1, hc1⟩ := at_two (x := .int x) (y := .int y1) r10 r11
          have nl2 : l2 ∉ [d] := by
            simp only [List.mem_singleton]
            exact (d10.ne hl2).symm
          refine ⟨l2, _, _, z1, rfl, rfl, SqL.of (b11 _ _ nl2 upd_same), hz1, ?_⟩
          have hz1' : ∃ a, z1 = .int a ∧ 0 ≤ a ∧ a ≤ 9999 := by
            rcases hc1 with rfl | rfl
            · exact ⟨x, rfl, xb.1, by omega⟩
            · exact ⟨y1, rfl, y10, by omega⟩
          obtain ⟨a, rfl, a0, a1⟩ := hz1'
          refine ⟨_, rfl, rd_off rfl d11 (by decide) (by decide) fun y2 H12 y20 y21 b12 d12 => ?_⟩
          refine ⟨_, rfl, by show 2 ≤ sizeLine; decide, fun l3 hl3 => ?_⟩
          refine rd_off rfl (d12.new hl3) (by decide) (by decide) fun r2 H13 r20 r21 b13 d13 => ?_
          obtain ⟨z2, hz2, hc2⟩ := at_two (x := .int y2) (y := .int x) r20 r21
          have nl3 : l3 ∉ [d] := by
            simp only [List.mem_singleton]
            exact (d12.ne hl3).symm
          refine ⟨l3, _, _, z2, rfl, rfl, SqL.of (b13 _ _ nl3 upd_same), hz2, by show 2 ≤ sizeLine; decide, fun p hp => ?_⟩
          have hz2' : ∃ e, z2 = .int e ∧ 0 ≤ e ∧ e ≤ 9999 := by
            rcases hc2 with rfl | rfl
            · exact ⟨y2, rfl, y20, by omega⟩
            · exact ⟨x, rfl, xb.1, by omega⟩
          obtain ⟨e2, rfl, e0, e1⟩ := hz2'
          have bt : Bt [d] H9 (upd H13 p (.tup [.int a, .int e2])) := (((((b10.trans (Bt.new hl2)).trans b11).trans b12).trans (Bt.new hl3)).trans b13).trans (Bt.new hp)
          refine ⟨hf9.step ndl ndr bt (d13.new hp), .ref p, some (a, e2), _, .tup (SqT.of upd_same) (.cons (.int _) (.cons (.int _) .nil)), ?_, rfl⟩
          intro y e h
          have h := Option.some.inj h
          injection h with h1 h2
          subst h1 h2
          exact ⟨a0, a1, ⟨by omega, by omega⟩⟩
        · refine ⟨hf9, .non, none, _, .non, ?_, rfl⟩; intro _ _ h; cases h
      rintro σ9 H9 ⟨hf9, tv, tw, y8, htv, htw, rfl⟩
      obtain ⟨d9, b9, g1, g2, vs9, g3, g4⟩ := id hf9
      refine ⟨_, rfl, .inl ⟨rfl, _, SqL.of g3⟩, _, rfl, _, rfl, _, rfl, by show 3 ≤ sizeLine; decide, fun p hp => ?_⟩
      have npr : rw ≠ p := ne_of_none g3 hp
      have lenr : rs.length ≤ 16 := by
        have e := congrArg List.length hq1
        rw [List.length_map, List.length_take] at e
        omega
      have lenv : vs9.length = rs.length := by
        have e := dps_len g4
        rwa [List.length_map] at e
      refine ⟨rw, vs9, _, rfl, rfl, (upd_ne npr).trans g3, by rw [sizeLine_eq]; omega, ?_⟩
      have hf10 := hf9.step ndl ndr (Bt.new (o := .tup [.int x, .int due, tv]) hp) (d9.new hp)
      obtain ⟨d10, b10, q1, q2, vs10, q3, q4⟩ := hf10
      have evs : vs10 = vs9 := by
        have e := q3.symm.trans ((upd_ne npr).trans g3)
        injection e with e
        injection e
      subst evs
      have kt : KT K (upd H9 p (.tup [.int x, .int due, tv])) (upd (upd H9 p (.tup [.int x, .int due, tv])) rw (.lst (vs10 ++ [.ref p]))) := (Bt.refl.set (S := [rw]) (by simp)).kt1 q3
      refine ⟨⟨_, _, _, _, rfl⟩, rs ++ [⟨x, due, tw⟩], ⟨?_, b10.put hrw0, (upd_ne nlr).trans q1, dp_keep kt _ _ (mach_td m) q2, _, upd_same, ?_⟩, ?_, ?_⟩
      · obtain ⟨ys, e1, e2⟩ := d10
        exact ⟨ys, (upd_ne (fun z => ndr (by rw [z]; simp))).trans e1, e2⟩
      · rw [List.map_append]
        refine dps_snoc (dps_keep kt _ _ (tds_map qn_td rs) q4) ?_
        exact .tup (kt _ _ (SqT.of upd_same)) (.cons (.int _) (.cons (.int _) (.cons (dp_keep ((KT.new hp).trans kt) _ _ (twin_td tw) htv) .nil)))
      · rw [List.map_append, hq1, List.take_add_one, hx]
        rfl
      · intro r hr2
        rcases List.mem_append.mp hr2 with h | h
        · exact hok r h
        · have e2 : r = ⟨x, due, tw⟩ := by simpa using h
          rw [e2]
          exact ⟨xb.1, by show x ≤ 9999; omega, hdue, htw⟩
    · rintro σ H5 ⟨⟨x5, x6, x7, x8, rfl⟩, rs, ⟨d5, b5, g1, g2, vs5, g3, g4⟩, hq1, hok⟩
      rw [List.length_map, List.take_length] at hq1
      refine ⟨_, rfl, rw, vs5, rfl, .inl ⟨SqL.of g3, fun p hp => ?_⟩⟩
      refine rd_off rfl (d5.new hp) (by decide) (by decide) fun wt H6 w0 w1 b6 d6 => ?_
      refine ⟨_, _, rfl, rfl, by show 2 ≤ sizeLine; decide, fun p2 hp2 => ?_⟩
      have lenr : rs.length = nums.length := by
        rw [← hq1, List.length_map]
      have ndp : p ∉ [d] := by
        simp only [List.mem_singleton]
        exact (d5.ne hp).symm
      have t6 := b6 _ _ ndp (upd_same (H := H5) (a := p) (o := .tup vs5))
      have npp : p ≠ p2 := ne_of_none t6 hp2
      have kt6 : KT K (upd H5 p (.tup vs5)) H6 := (d5.new hp).kt b6
      refine k (.ref p2) ⟨rs, 1 + wt⟩ _ (((b5.trans (Bt.new hp)).trans b6).trans (Bt.new hp2)) (d6.new hp2) ?_ ⟨by show 1 ≤ rs.length; omega, by show rs.length ≤ 16; omega, hok, by show (rs.map Qn.q).Nodup; rw [hq1]; exact numsN, by show 1 ≤ 1 + wt; omega, by show 1 + wt ≤ 9; omega⟩
      exact .tup (SqT.of upd_same) (.cons (.tup (SqT.of ((upd_ne npp).trans t6)) (dps_keep (((KT.new hp).trans kt6).trans (KT.new hp2)) _ _ (tds_map qn_td rs) g4)) (.cons (.int _) .nil))
end
end Mh
namespace Mh
open PySem L2
/-- the numbers of the questions among the first n that a machine does -/
def rightN (m : Mach) (s : Int) (qs : List Qn) (n : Nat) : List Int := ((List.range n).filter fun k => (qs[k]?.any (Qn.good m s))).map fun k : Nat => ((k : Nat) : Int)
def rightL (m : Mach) (s : Int) (qs : List Qn) : List Int := rightN m s qs qs.length
/-- law: the numbers of the right ones -/
def spRightL (K : PySem.W.Frag) : Sp := fun vs H Q _ => ∃ (v t : V) (m : Mach) (tk : Task) (s : Int), vs = [v, t, .int s] ∧ Dp K H v (machDt m) ∧ Dp K H t tk.dt ∧ MachOk m ∧ tk.Ok ∧
  ∀ p H', H p = none → Same H H' → H' p = some (.lst ((rightL m s tk.qs).map V.int)) → Q (.ref p) H'
/-- program: the numbers of the right ones, and how many -/
def spRight (K : PySem.W.Frag) : Sp := fun vs H Q _ => ∃ (v t : V) (m : Mach) (tk : Task) (s : Int), vs = [v, t, .int s] ∧ Dp K H v (machDt m) ∧ Dp K H t tk.dt ∧ MachOk m ∧ tk.Ok ∧ 0 ≤ s ∧ s ≤ 999 ∧
  ∀ u H', Same H H' → Dp K H' u (.tuple ((rightL m s tk.qs).map PyData.int)) → Q u H'
def spScore (K : PySem.W.Frag) : Sp := fun vs H Q _ => ∃ (v t : V) (m : Mach) (tk : Task) (s : Int), vs = [v, t, .int s] ∧ Dp K H v (machDt m) ∧ Dp K H t tk.dt ∧ MachOk m ∧ tk.Ok ∧ 0 ≤ s ∧ s ≤ 999 ∧
  ∀ H', Same H H' → Q (.int (rightL m s tk.qs).length) H'
theorem same_none {H H' : Hp} {p : Addr} (s : Same H H') (h : H' p = none) : H p = none := by
  cases e : H p with
  | none => rfl
  | some o => rw [s _ _ e] at h; cases h
theorem rightL_len (m : Mach) (s : Int) (qs : List Qn) : (rightL m s qs).length ≤ qs.length := by
  unfold rightL rightN
  rw [List.length_map]
  have := List.length_filter_le (fun k => (qs[k]?.any (Qn.good m s))) (List.range qs.length)
  rwa [List.length_range] at this
theorem deep_ints {n : Nat} {ns : List Int} (h : ns.length ≤ 1000) : deep (n + 1) (.tuple (ns.map PyData.int)) = true := by
  have e : (ns.map PyData.int).all (deep n) = true := List.all_eq_true.mpr fun d hd => by
    obtain ⟨i, _, rfl⟩ := List.mem_map.mp hd
    cases n <;> rfl
  show (decide ((ns.map PyData.int).length ≤ 1000) && (ns.map PyData.int).all (deep n)) = true
  rw [e, List.length_map, decide_eq_true h]
  rfl
section
variable {P : Program} {w : World} {K : PySem.W.Frag} {mg : Str → Option Value} {base : Heap} {A : Adr}
end
end Mh
namespace Mh
open PySem L2
/-- what a machine tells, as data -/
def oDt : Option Int → PyData
  | none => .none
  | some i => .int i
theorem dp_oV {K : PySem.W.Frag} {H : Hp} (o : Option Int) : Dp K H (oV o) (oDt o) := by
  cases o with
  | none => exact .non
  | some i => exact .int i
theorem deep_oDt {n : Nat} (o : Option Int) : deep n (oDt o) = true := by cases o <;> cases n <;> rfl
theorem sh_oDt {n : Nat} (o : Option Int) : Sh n (oDt o) := by
  cases o with
  | none => exact sh_non
  | some i => exact sh_int i
end Mh
namespace Mh
open PySem L2
/-- law: a share as small as can be -/
def smallDt (a b : Nat) : PyData := .tuple [.int ((a / Nat.gcd a b : Nat) : Int), .int ((b / Nat.gcd a b : Nat) : Int)]
def spSmall (K : PySem.W.Frag) : Sp := fun vs H Q _ => ∃ a b : Nat, vs = [.int a, .int b] ∧ 0 < b ∧ a < 2 ^ 200 ∧ b < 2 ^ 200 ∧ ∀ p H', H p = none → Same H H' → H' p = some (.tup [.int ((a / Nat.gcd a b : Nat) : Int), .int ((b / Nat.gcd a b : Nat) : Int)]) → Q (.ref p) H'
theorem cdw {i : Int} {j : Nat} (h : 0 < j) (l : j < 2 ^ 200) : CDivW i (j : Int) := wide_div (by omega) (b := 200) (by rw [Int.natAbs_natCast]; exact l) (by decide) (by decide)
theorem cmw {x m : Nat} (hx : x < 2 ^ 200) (hm : m < 2 ^ 200) : CMulW ((x : Int) / (m : Int)) (m : Int) := wide_mul (a := 200) (b := 200) (by rw [← Int.natCast_ediv, Int.natAbs_natCast]; exact Nat.lt_of_le_of_lt (Nat.div_le_self _ _) hx) (by rw [Int.natAbs_natCast]; exact hm) (by decide) (by decide) (by decide)
section
variable {P : Program} {w : World} {K : PySem.W.Frag} {mg : Str → Option Value} {base : Heap} {A : Adr}
end
end Mh
namespace Mh
open PySem L2
/-! the law's own hall -/
structure Run where
  who : Str
  goal : Str
  seed : Int
  score : Int
  counts : Bool
structure LHall where
  tasks : List (Str × Task)
  machines : List (Str × Mach)
  runs : List Run
  pages : List (List PyData)
  deeds : List PyData
def kk (x : Str) : Key := Sum.inr x
def RunAt (H : Hp) (a : Addr) (r : Run) : Prop := H a = some (.lst [.str r.who, .str r.goal, .int r.seed, .int r.score, .bl r.counts])
/-- a dict from names to data, in the order in which they came -/
def DictAt (K : PySem.W.Frag) (H : Hp) (a : Addr) (l : List (Str × PyData)) : Prop := ∃ kv : List (Key × V), Rd H a (.dK kv) ∧ kv.map (·.1) = l.map (fun z => kk z.1) ∧ DpAll K H (kv.map (·.2)) (l.map (·.2))
/-- where the law's own hall stands: its dict, those of tasks and machines, the lists of runs, pages and deeds; the runs -/
structure LAd where
  M : Addr
  T : Addr
  G : Addr
  R : Addr
  P : Addr
  D : Addr
  rs : List Addr
structure LCore (K : PySem.W.Frag) (H : Hp) (L : LAd) (st : LHall) : Prop where
  top : ∃ kv, Rd H L.M (.dK kv) ∧ valV kv (kk "tasks") = some (.ref L.T) ∧ valV kv (kk "machines") = some (.ref L.G) ∧ valV kv (kk "runs") = some (.ref L.R) ∧ valV kv (kk "pages") = some (.ref L.P) ∧ valV kv (kk "deeds") = some (.ref L.D)
  tasks : DictAt K H L.T (st.tasks.map fun z => (z.1, z.2.dt))
  machines : DictAt K H L.G (st.machines.map fun z => (z.1, machDt z.2))
  runs : H L.R = some (.lst (L.rs.map V.ref)) ∧ L.rs.length = st.runs.length ∧ ∀ (i : Nat) (r : Run), st.runs[i]? = some r → ∃ a, L.rs[i]? = some a ∧ RunAt H a r
theorem tds_fst {α : Type} {f : α → PyData} (h : ∀ a, TD (f a) = true) {l : List (Str × α)} : TDs ((l.map fun z => (z.1, f z.2)).map (·.2)) = true := by
  rw [List.map_map]
  exact tds_map (f := (fun z : Str × PyData => z.2) ∘ fun z : Str × α => (z.1, f z.2)) (fun z => h z.2) l
section
variable {K : PySem.W.Frag} {H H' : Hp} {L : LAd} {st : LHall}
theorem rd_same {a : Addr} {u : HO} (s : Same H H') (h : Rd H a u) : Rd H' a u := by
  rcases h with h | ⟨o, h⟩
  · exact .inl (s _ _ h)
  · exact .inr ⟨o, s _ _ h⟩
theorem dget_rd {a : Addr} {kvs : List (Key × V)} {k : Key} (e : Rd H a (.dK kvs)) : DGet H a (kV k) (valV kvs k) := .inl ⟨kvs, k, e, rfl, rfl⟩
theorem DictAt.same {a : Addr} {l : List (Str × PyData)} (h : DictAt K H a l) (s : Same H H') : DictAt K H' a l := by
  obtain ⟨kv, h1, h2, h3⟩ := h
  exact ⟨kv, rd_same s h1, h2, dps_same s _ _ h3⟩
theorem LCore.same (h : LCore K H L st) (s : Same H H') : LCore K H' L st := by
  obtain ⟨⟨kv, h1, h2⟩, h3, h4, ⟨h5, h6, h7⟩⟩ := h
  exact ⟨⟨kv, rd_same s h1, h2⟩, h3.same s, h4.same s, ⟨s _ _ h5, h6, fun i r e => by
    obtain ⟨a, e1, e2⟩ := h7 i r e
    exact ⟨a, e1, s _ _ e2⟩⟩⟩
/-- under a lock on the dict at d -/
theorem rd_lock {a d : Addr} {u v : HO} {od : Obj} (hd : H d = some v) (nf : ∀ o w, v ≠ .frz o w) (h : Rd H a u) : Rd (upd H d (.frz od v)) a u := by
  by_cases e : a = d
  · subst e
    rcases h with h | ⟨o, h⟩
    · rw [hd] at h
      have h := Option.some.inj h
      subst h
      exact .inr ⟨od, upd_same⟩
    · rw [hd] at h
      exact absurd (Option.some.inj h) (nf o u)
  · rcases h with h | ⟨o, h⟩
    · exact .inl ((upd_ne e).trans h)
    · exact .inr ⟨o, (upd_ne e).trans h⟩
theorem kt_lock {d : Addr} {kv : List (Key × V)} {od : Obj} (hd : H d = some (.dK kv)) : KT K H (upd H d (.frz od (.dK kv))) := fun a xs h => by
  rcases h with h | h
  · exact .inl (rd_lock hd (fun o w z => by cases z) h)
  · exact .inr h
theorem LCore.lock {d : Addr} {kv : List (Key × V)} {od : Obj} (h : LCore K H L st) (hd : H d = some (.dK kv)) : LCore K (upd H d (.frz od (.dK kv))) L st := by
  have nf : ∀ o w, HO.dK kv ≠ .frz o w := fun o w z => by cases z
  have ne : ∀ a xs, H a = some (.lst xs) → a ≠ d := fun a xs e z => by
    rw [z, hd] at e
    cases e
  obtain ⟨⟨kv1, h1, h2⟩, ⟨k1, a1, b1, c1⟩, ⟨k2, a2, b2, c2⟩, ⟨h5, h6, h7⟩⟩ := h
  exact ⟨⟨kv1, rd_lock hd nf h1, h2⟩, ⟨k1, rd_lock hd nf a1, b1, dps_keep (kt_lock hd) _ _ (tds_fst fun t => task_td t) c1⟩, ⟨k2, rd_lock hd nf a2, b2, dps_keep (kt_lock hd) _ _ (tds_fst fun m => mach_td m) c2⟩,
    ⟨(upd_ne (ne _ _ h5)).trans h5, h6, fun i r e => by
      obtain ⟨a, e1, e2⟩ := h7 i r e
      exact ⟨a, e1, (upd_ne (ne _ _ e2)).trans e2⟩⟩⟩
/-- behind the lock -/
theorem same_unlock {d : Addr} {u : HO} {od : Obj} (hd : H d = some u) (s : Same (upd H d (.frz od u)) H') : Same H (upd H' d u) := fun b o e => by
  by_cases q : b = d
  · rw [q] at e ⊢
    rw [upd_same]
    exact hd.symm.trans e
  · rw [upd_ne q]
    exact s _ _ ((upd_ne q).trans e)
theorem LCore.getRuns (h : LCore K H L st) : DGet H L.M (.str "runs") (some (.ref L.R)) := by
  obtain ⟨kv, h1, h2, h3, h4, h5, h6⟩ := h.top
  have g := dget_rd (k := kk "runs") h1
  rwa [h4] at g
theorem LCore.getTasks (h : LCore K H L st) : DGet H L.M (.str "tasks") (some (.ref L.T)) := by
  obtain ⟨kv, h1, h2, h3, h4, h5, h6⟩ := h.top
  have g := dget_rd (k := kk "tasks") h1
  rwa [h2] at g
theorem LCore.getMachines (h : LCore K H L st) : DGet H L.M (.str "machines") (some (.ref L.G)) := by
  obtain ⟨kv, h1, h2, h3, h4, h5, h6⟩ := h.top
  have g := dget_rd (k := kk "machines") h1
  rwa [h3] at g
theorem LCore.run (h : LCore K H L st) {i : Nat} {x : V} (e : (L.rs.map V.ref)[i]? = some x) : ∃ r a, st.runs[i]? = some r ∧ x = .ref a ∧ RunAt H a r := by
  obtain ⟨h5, h6, h7⟩ := h.runs
  have il := (List.getElem?_eq_some_iff.mp e).1
  rw [List.length_map, h6] at il
  obtain ⟨a, e1, e2⟩ := h7 i _ (List.getElem?_eq_getElem il)
  rw [List.getElem?_map, e1] at e
  exact ⟨_, a, List.getElem?_eq_getElem il, (Option.some.inj e).symm, e2⟩
end
def Run.isOf (n g : Str) (r : Run) : Bool := r.counts && (decide (r.who = n) && decide (r.goal = g))
def scoresL (rs : List Run) (n g : Str) : List Int := (rs.filter (Run.isOf n g)).map (·.score)
/-- law: the scores of a machine's runs in a task that count -/
def spScores (K : PySem.W.Frag) : Sp := fun vs H Q _ => ∃ (L : LAd) (st : LHall) (n g : Str), vs = [.ref L.M, .str n, .str g] ∧ LCore K H L st ∧ st.runs.length ≤ 1000 ∧
  ∀ p H', H p = none → Same H H' → H' p = some (.lst ((scoresL st.runs n g).map V.int)) → Q (.ref p) H'
theorem scal_str {x y : Str} {H : Hp} {Q : V → Hp → Prop} (h : Q (.bl (decide (x = y))) H) : rEq (.str x) (.str y) H Q := by
  refine ⟨rfl, ?_⟩
  have e : decide (V.str x = V.str y) = decide (x = y) := by
    rw [decide_eq_decide]
    exact ⟨fun z => by injection z, fun z => by rw [z]⟩
  show Q (.bl (decide (V.str x = V.str y))) H
  rw [e]
  exact h
section
variable {P : Program} {w : World} {K : PySem.W.Frag} {mg : Str → Option Value} {base : Heap} {A : Adr}
end
/-! a name's value -/
def getL {α : Type} (l : List (Str × α)) (n : Str) : Option α := (l.find? fun z => decide (z.1 = n)).map (·.2)
theorem kk_inj {x y : Str} : kk x = kk y ↔ x = y := ⟨fun h => by injection h, fun h => by rw [h]⟩
theorem getL_map {α β : Type} (f : α → β) (l : List (Str × α)) (n : Str) : getL (l.map fun z => (z.1, f z.2)) n = (getL l n).map f := by
  unfold getL
  induction l with
  | nil => rfl
  | cons z l ih =>
    simp only [List.map_cons, List.find?_cons]
    by_cases e : z.1 = n
    · simp [e]
    · simp only [e, decide_false]
      exact ih
theorem val_get {K : PySem.W.Frag} {H : Hp} {n : Str} {d : PyData} : ∀ {kv : List (Key × V)} {l : List (Str × PyData)}, kv.map (·.1) = l.map (fun z => kk z.1) → DpAll K H (kv.map (·.2)) (l.map (·.2)) → getL l n = some d →
    ∃ v, valV kv (kk n) = some v ∧ Dp K H v d
  | [], [], _, _, h => by cases h
  | [], _ :: _, e, _, _ => by cases e
  | _ :: _, [], e, _, _ => by cases e
  | (k, v) :: kv, (m, x) :: l, e, a, h => by
    have e1 : k = kk m := by
      simp only [List.map_cons] at e
      injection e
    have e2 : kv.map (·.1) = l.map (fun z => kk z.1) := by
      simp only [List.map_cons] at e
      injection e
    subst e1
    cases a with
    | cons a1 a2 =>
      unfold getL at h
      unfold valV
      by_cases q : m = n
      · subst q
        simp only [List.find?_cons, decide_true] at h ⊢
        have h := Option.some.inj h
        rw [← h]
        exact ⟨v, rfl, a1⟩
      · have q2 : ¬ kk m = kk n := fun z => q (kk_inj.mp z)
        simp only [List.find?_cons, q, q2, decide_false] at h ⊢
        exact val_get e2 a2 h
theorem DictAt.get {K : PySem.W.Frag} {H : Hp} {a : Addr} {l : List (Str × PyData)} {n : Str} {d : PyData} (h : DictAt K H a l) (e : getL l n = some d) : ∃ v, DGet H a (.str n) (some v) ∧ Dp K H v d := by
  obtain ⟨kv, h1, h2, h3⟩ := h
  obtain ⟨v, e1, e2⟩ := val_get h2 h3 e
  have g := dget_rd (k := kk n) h1
  rw [e1] at g
  exact ⟨v, g, e2⟩
/-- the score to which a run comes -/
def scoreOf (st : LHall) (who goal : Str) (seed : Int) : Int := match getL st.machines who, getL st.tasks goal with
  | some m, some t => ((rightL m seed t.qs).length : Nat)
  | _, _ => 0
def spLscore (K : PySem.W.Frag) : Sp := fun vs H Q _ => ∃ (L : LAd) (st : LHall) (a : Addr) (who goal : Str) (seed : Int) (rest : List V) (m : Mach) (t : Task), vs = [.ref L.M, .ref a] ∧ LCore K H L st ∧ H a = some (.lst (.str who :: .str goal :: .int seed :: rest)) ∧
  getL st.machines who = some m ∧ getL st.tasks goal = some t ∧ MachOk m ∧ t.Ok ∧ ∀ H', Same H H' → Q (.int (scoreOf st who goal seed)) H'
section
variable {P : Program} {w : World} {K : PySem.W.Frag} {mg : Str → Option Value} {base : Heap} {A : Adr}
end
end Mh
namespace Mh
open PySem L2
def wtOf (st : LHall) (g : Str) : Int := ((getL st.tasks g).map (·.wt)).getD 0
/-- sixty times a machine's mean, by the tasks named -/
def overL (st : LHall) (n : Str) (gs : List Str) : Int := (gs.map fun g => wtOf st g * (scoresL st.runs n g).sum * (60 / ((scoresL st.runs n g).length : Int))).sum
def namesT (st : LHall) : List Str := st.tasks.map (·.1)
theorem getL_some {α : Type} {l : List (Str × α)} {n : Str} (h : n ∈ l.map (·.1)) : ∃ x, getL l n = some x := by
  obtain ⟨z, hz, rfl⟩ := List.mem_map.mp h
  unfold getL
  cases e : l.find? (fun y => decide (y.1 = z.1)) with
  | none =>
    have q := List.find?_eq_none.mp e z hz
    simp at q
  | some y => exact ⟨y.2, rfl⟩
/-- what is wished of the hall where a mean is asked -/
structure MeanOk (st : LHall) (n : Str) : Prop where
  runs : st.runs.length ≤ 1000
  few : st.tasks.length ≤ 4
  wts : ∀ z ∈ st.tasks, z.2.Ok
  some : ∀ g ∈ namesT st, 1 ≤ (scoresL st.runs n g).length ∧ (scoresL st.runs n g).length ≤ 5 ∧ ∀ x ∈ scoresL st.runs n g, 0 ≤ x ∧ x ≤ 16
theorem sum_bound {l : List Int} {b : Int} (h : ∀ x ∈ l, 0 ≤ x ∧ x ≤ b) : 0 ≤ l.sum ∧ l.sum ≤ l.length * b := by
  induction l with
  | nil => simp
  | cons x l ih =>
    obtain ⟨h1, h2⟩ := ih fun y hy => h y (List.mem_cons_of_mem _ hy)
    obtain ⟨h3, h4⟩ := h x List.mem_cons_self
    simp only [List.sum_cons, List.length_cons]
    have e : ((l.length + 1 : Nat) : Int) * b = (l.length : Int) * b + b := by
      rw [Int.natCast_add, Int.add_mul]
      simp
    omega
theorem mem_wt {st : LHall} {n g : Str} (h : MeanOk st n) (hg : g ∈ namesT st) : 1 ≤ wtOf st g ∧ wtOf st g ≤ 9 := by
  obtain ⟨t, ht⟩ := getL_some hg
  have m : (∃ z ∈ st.tasks, z.2 = t) := by
    unfold getL at ht
    cases e : st.tasks.find? (fun y => decide (y.1 = g)) with
    | none => rw [e] at ht; cases ht
    | some y =>
      rw [e] at ht
      exact ⟨y, List.mem_of_find?_eq_some e, Option.some.inj ht⟩
  obtain ⟨z, hz, rfl⟩ := m
  have o := h.wts z hz
  unfold wtOf
  rw [ht]
  exact ⟨o.2.2.2.2.1, o.2.2.2.2.2⟩
theorem part_bound {st : LHall} {n g : Str} (h : MeanOk st n) (hg : g ∈ namesT st) : 0 ≤ wtOf st g * (scoresL st.runs n g).sum * (60 / ((scoresL st.runs n g).length : Int)) ∧ wtOf st g * (scoresL st.runs n g).sum * (60 / ((scoresL st.runs n g).length : Int)) ≤ 43200 := by
  obtain ⟨w0, w1⟩ := mem_wt h hg
  obtain ⟨l0, l1, hs⟩ := h.some g hg
  obtain ⟨s0, s1⟩ := sum_bound hs
  generalize wtOf st g = w at *
  generalize (scoresL st.runs n g).sum = s at *
  generalize (scoresL st.runs n g).length = l at *
  have d0 : (0 : Int) ≤ 60 / (l : Int) := Int.ediv_nonneg (by decide) (by omega)
  have d1 : (60 : Int) / (l : Int) ≤ 60 := Int.ediv_le_self _ (by decide)
  generalize (60 : Int) / (l : Int) = q at *
  have s80 : s ≤ 80 := by omega
  have p0 : 0 ≤ w * s := Int.mul_nonneg (by omega) s0
  have p1 : w * s ≤ 9 * 80 := Int.mul_le_mul w1 s80 s0 (by decide)
  refine ⟨Int.mul_nonneg p0 d0, ?_⟩
  exact Int.le_trans (Int.mul_le_mul p1 d1 d0 (by decide)) (by decide)
theorem over_bound {st : LHall} {n : Str} (h : MeanOk st n) (gs : List Str) (hg : ∀ g ∈ gs, g ∈ namesT st) : 0 ≤ overL st n gs ∧ overL st n gs ≤ gs.length * 43200 := by
  unfold overL
  have q := sum_bound (l := gs.map fun g => wtOf st g * (scoresL st.runs n g).sum * (60 / ((scoresL st.runs n g).length : Int))) (b := 43200) fun x hx => by
    obtain ⟨g, hm, rfl⟩ := List.mem_map.mp hx
    exact part_bound h (hg g hm)
  rwa [List.length_map] at q
def meanV (st : LHall) (n : Str) : List V := [.int (((overL st n (namesT st)).toNat / Nat.gcd (overL st n (namesT st)).toNat 60 : Nat) : Int), .int ((60 / Nat.gcd (overL st n (namesT st)).toNat 60 : Nat) : Int)]
def spMean (K : PySem.W.Frag) : Sp := fun vs H Q _ => ∃ (L : LAd) (st : LHall) (n : Str), vs = [.ref L.M, .str n] ∧ LCore K H L st ∧ MeanOk st n ∧
  ∀ p H', H p = none → Same H H' → H' p = some (.tup (meanV st n)) → Q (.ref p) H'
section
variable {P : Program} {w : World} {K : PySem.W.Frag} {mg : Str → Option Value} {base : Heap} {A : Adr}
end
end Mh
namespace Mh
open PySem L2
/-- whether a machine is ranked -/
def isRanked (st : LHall) (n : Str) : Bool := !((namesT st).length == 0) && (namesT st).all fun g => !((scoresL st.runs n g).length == 0)
def namesG (st : LHall) : List Str := st.machines.map (·.1)
def emptyL (st : LHall) (n : Str) (gs : List Str) : List Str := gs.filter fun g => (scoresL st.runs n g).length == 0
theorem ranked_empty (st : LHall) (n : Str) : isRanked st n = (!((namesT st).length == 0) && ((emptyL st n (namesT st)).length == 0)) := by
  unfold isRanked emptyL
  congr 1
  rw [Bool.eq_iff_iff, List.all_eq_true, beq_iff_eq, List.length_eq_zero_iff, List.filter_eq_nil_iff]
  constructor
  · intro h g hg
    have := h g hg
    simpa using this
  · intro h g hg
    have := h g hg
    simpa using this
theorem sh_str {n : Nat} {x : Str} (h : PyData.strOk x = true) : Sh n (.str x) := ⟨by simp [PyData.canLay0, h], by simp [PyData.depth]⟩
theorem dps_of_strs {K : PySem.W.Frag} {H : Hp} : ∀ xs : List Str, DpAll K H (xs.map V.str) (xs.map PyData.str)
  | [] => .nil
  | x :: xs => .cons (.str x) (dps_of_strs xs)
/-- the machines that are ranked, rising -/
def rankedL (st : LHall) : List Str := (sortN (namesG st)).filter (isRanked st)
def spRanked (K : PySem.W.Frag) : Sp := fun vs H Q _ => ∃ (L : LAd) (st : LHall), vs = [.ref L.M] ∧ LCore K H L st ∧ st.runs.length ≤ 1000 ∧ st.tasks.length ≤ 4 ∧ st.machines.length ≤ 6 ∧ (∀ g ∈ namesT st, PyData.strOk g = true) ∧
  ∀ (p : Addr) (H' : Hp), H p = none → Same H H' → H' p = some (.lst ((rankedL st).map V.str)) → Q (.ref p) H'
section
variable {P : Program} {w : World} {K : PySem.W.Frag} {mg : Str → Option Value} {base : Heap} {A : Adr}
end
end Mh
namespace Mh
open PySem L2
/-- a run that parts: its number, what was told, what is found -/
structure Prt where
  k : Nat
  told : Int
  found : Int
def Prt.dt (p : Prt) : PyData := .tuple [.int p.k, .int p.told, .int p.found]
theorem prt_td (p : Prt) : TD p.dt = true := by simp [Prt.dt, TD, TDs]
def Prt.off (p : Prt) : Bool := !decide (p.told = p.found)
def countsAt (st : LHall) (k : Nat) : Bool := st.runs[k]?.any (·.counts)
def countNs (st : LHall) (i : Nat) : List Nat := (List.range i).filter (countsAt st)
def prtAt (st : LHall) (k : Nat) : Prt := match st.runs[k]? with
  | some r => ⟨k, r.score, scoreOf st r.who r.goal r.seed⟩
  | none => ⟨k, 0, 0⟩
def partedL (st : LHall) : List Prt := ((countNs st st.runs.length).map (prtAt st)).filter Prt.off
/-- each run that counts has its machine and its task -/
def RunsOk (st : LHall) : Prop := ∀ r ∈ st.runs, r.counts = true → ∃ m t, getL st.machines r.who = some m ∧ getL st.tasks r.goal = some t ∧ MachOk m ∧ t.Ok
def spParted (K : PySem.W.Frag) : Sp := fun vs H Q _ => ∃ (L : LAd) (st : LHall), vs = [.ref L.M] ∧ LCore K H L st ∧ RunsOk st ∧ st.runs.length ≤ 1000 ∧
  ∀ (p : Addr) (H' : Hp) (xs : List V), H p = none → Same H H' → H' p = some (.lst xs) → DpAll K H' xs ((partedL st).map Prt.dt) → Q (.ref p) H'
theorem dps_take {K : PySem.W.Frag} {H : Hp} : ∀ {vs : List V} {ds : List PyData} (i : Nat), DpAll K H vs ds → DpAll K H (vs.take i) (ds.take i)
  | [], [], i, .nil => by simp; exact .nil
  | v :: vs, d :: ds, 0, _ => by simp; exact .nil
  | v :: vs, d :: ds, i + 1, .cons h t => by
    simp only [List.take_succ_cons]
    exact .cons h (dps_take i t)
section
variable {P : Program} {w : World} {K : PySem.W.Frag} {mg : Str → Option Value} {base : Heap} {A : Adr}
end
end Mh
namespace Mh
open PySem L2
def LHall.none : LHall := ⟨[], [], [], [], []⟩
/-- law: a hall of its own, new -/
def spHall (K : PySem.W.Frag) : Sp := fun vs H Q _ => vs = [] ∧ ∀ (L : LAd) (H' : Hp), Same H H' → LCore K H' L LHall.none → L.rs = [] → (∀ a ∈ [L.M, L.T, L.G, L.R, L.P, L.D], H a = Option.none) → [L.M, L.T, L.G, L.R, L.P, L.D].Nodup →
  (∃ kv, H' L.M = some (.dK kv)) → H' L.T = some (.dK []) → H' L.G = some (.dK []) → H' L.P = some (.lst []) → H' L.D = some (.lst []) → Q (.ref L.M) H'
section
variable {P : Program} {w : World} {K : PySem.W.Frag} {mg : Str → Option Value} {base : Heap} {A : Adr}
end
end Mh
namespace Mh
open PySem L2
def pairDt (z : Str × Str) : PyData := .tuple [.str z.1, .str z.2]
theorem pair_td (z : Str × Str) : TD (pairDt z) = true := by simp [pairDt, TD, TDs]
def hasRoom (st : LHall) (n g : Str) : Bool := decide ((scoresL st.runs n g).length < 5)
def freeOf (st : LHall) (n : Str) (gs : List Str) : List (Str × Str) := (gs.filter (hasRoom st n)).map fun g => (n, g)
/-- all (machine, task) that have room for a run more -/
def freeL (st : LHall) (ns : List Str) : List (Str × Str) := ns.flatMap fun n => freeOf st n (sortN (namesT st))
theorem freeL_snoc (st : LHall) (ns : List Str) (n : Str) : freeL st (ns ++ [n]) = freeL st ns ++ freeOf st n (sortN (namesT st)) := by
  unfold freeL
  rw [List.flatMap_append]
  simp
def spFree (K : PySem.W.Frag) : Sp := fun vs H Q _ => ∃ (L : LAd) (st : LHall), vs = [.ref L.M] ∧ LCore K H L st ∧ st.runs.length ≤ 1000 ∧ st.tasks.length ≤ 4 ∧ st.machines.length ≤ 6 ∧
  ∀ (p : Addr) (H' : Hp) (xs : List V), H p = none → Same H H' → H' p = some (.lst xs) → DpAll K H' xs ((freeL st (sortN (namesG st))).map pairDt) → Q (.ref p) H'
theorem free_len (st : LHall) (h : st.tasks.length ≤ 4) : ∀ ns : List Str, (freeL st ns).length ≤ ns.length * 4
  | [] => by simp [freeL]
  | n :: ns => by
    have ih := free_len st h ns
    have e : freeL st (n :: ns) = freeOf st n (sortN (namesT st)) ++ freeL st ns := by
      unfold freeL
      rw [List.flatMap_cons]
    have l1 : (freeOf st n (sortN (namesT st))).length ≤ 4 := by
      unfold freeOf
      rw [List.length_map]
      refine Nat.le_trans (List.length_filter_le _ _) ?_
      rw [sortN_len]
      unfold namesT
      rw [List.length_map]
      exact h
    rw [e, List.length_append, List.length_cons]
    omega
theorem dps_append {K : PySem.W.Frag} {H : Hp} : ∀ {vs ws : List V} {ds es : List PyData}, DpAll K H vs ds → DpAll K H ws es → DpAll K H (vs ++ ws) (ds ++ es)
  | _, _, _, _, .nil, h => h
  | _, _, _, _, .cons a t, h => .cons a (dps_append t h)
theorem str_at {ks : List Str} {i : Nat} {x : V} (h : (ks.map V.str)[i]? = some x) : ∃ z, ks[i]? = some z ∧ x = .str z := by
  rw [List.getElem?_map] at h
  cases e : ks[i]? with
  | none =>
    rw [e] at h
    cases h
  | some z =>
    rw [e] at h
    exact ⟨z, rfl, (Option.some.inj h).symm⟩
theorem DictAt.keys {α : Type} {K : PySem.W.Frag} {H : Hp} {a : Addr} {l : List (Str × α)} {f : α → PyData} (h : DictAt K H a (l.map fun z => (z.1, f z.2))) : ∃ kv : List (Key × V), Rd H a (.dK kv) ∧ kv.map (·.1) = (l.map (·.1)).map Sum.inr := by
  obtain ⟨kv, h1, h2, _⟩ := h
  refine ⟨kv, h1, ?_⟩
  rw [h2, List.map_map, List.map_map]
  rfl
end Mh
namespace Mh
open PySem L2
section
variable {P : Program} {w : World} {K : PySem.W.Frag} {mg : Str → Option Value} {base : Heap} {A : Adr}
end
end Mh
namespace Mh
open PySem L2
def spTwin (K : PySem.W.Frag) : Sp := fun vs H Q _ => ∃ (v : V) (o : Option (Int × Int)), vs = [v] ∧ Dp K H v (twinDt o) ∧ (∀ y e, o = some (y, e) → 0 ≤ y ∧ y ≤ 9999 ∧ dueOk e) ∧ Q (.bl true) H
def spQn (K : PySem.W.Frag) : Sp := fun vs H Q _ => ∃ (v : V) (r : Qn), vs = [v] ∧ Dp K H v r.dt ∧ r.Ok ∧ Q (.bl true) H
def spTk (K : PySem.W.Frag) : Sp := fun vs H Q _ => ∃ (v : V) (t : Task), vs = [v] ∧ Dp K H v t.dt ∧ t.Ok ∧ Q (.bl true) H
def spTask (K : PySem.W.Frag) : Sp := fun vs H Q _ => ∃ (v : V) (t : Task), vs = [v] ∧ Dp K H v t.dt ∧ t.Ok ∧ ∀ H', Same H H' → Q .non H'
/-- what a question stands as -/
theorem dp_qn {K : PySem.W.Frag} {H : Hp} {v : V} {r : Qn} (h : Dp K H v r.dt) : ∃ a u, v = .ref a ∧ SqT K H a [.int r.q, .int r.due, u] ∧ Dp K H u (twinDt r.twin) := by
  obtain ⟨a, xs, rfl, hs, ha⟩ := dp_tup h
  obtain ⟨u1, xs, rfl, h1, ha⟩ := dps_cons ha
  obtain ⟨u2, xs, rfl, h2, ha⟩ := dps_cons ha
  obtain ⟨u3, xs, rfl, h3, ha⟩ := dps_cons ha
  have e := dps_nil ha
  subst e
  rw [dp_int h1, dp_int h2] at hs
  exact ⟨a, u3, rfl, hs, h3⟩
theorem dp_tk {K : PySem.W.Frag} {H : Hp} {v : V} {t : Task} (h : Dp K H v t.dt) : ∃ a b us, v = .ref a ∧ SqT K H a [.ref b, .int t.wt] ∧ SqT K H b us ∧ DpAll K H us (t.qs.map Qn.dt) ∧ us.length = t.qs.length := by
  obtain ⟨a, xs, rfl, hs, ha⟩ := dp_tup h
  obtain ⟨u1, xs, rfl, h1, ha⟩ := dps_cons ha
  obtain ⟨u2, xs, rfl, h2, ha⟩ := dps_cons ha
  have e := dps_nil ha
  subst e
  obtain ⟨b, us, rfl, hb, hu⟩ := dp_tup h1
  rw [dp_int h2] at hs
  refine ⟨a, b, us, rfl, hs, hb, hu, ?_⟩
  have e := dps_len hu
  rwa [List.length_map] at e
theorem at2' {x y z : V} {r : List V} : atI (x :: y :: z :: r) 2 = some z := atI_nat (j := 2) rfl
section
variable {P : Program} {w : World} {K : PySem.W.Frag} {mg : Str → Option Value} {base : Heap} {A : Adr}
theorem ok_is_due (T : Txt K mg A) : FnOk P w K mg base CX0 2 A.is_due A.is_due_ ["value"] (spIs K (-99999999) 99999999) := by
  refine T.is_due.F.ok sc_is_due (fun vs H Q E h => ?_) (fun cdv Ar outer s H vs Q E hr h => ?_)
  · obtain ⟨v, rfl, _⟩ := h
    rfl
  · obtain ⟨v, rfl, od, k⟩ := h
    refine ⟨_, (pss_one (ps_ret (pe_call (ok_is_number T) (hr.mono (by decide)) (by rfl) T.is_number.n T.is_number.F.kp T.is_number.b .nil pass0 (pa_cons (pv 0) (pa_cons (pe_un un_neg (pe_gv (by rfl) T.c_MOST_DUE)) (pa_cons (pe_gv (by rfl) T.c_MOST_DUE) pa_nil)))))), ?_⟩
    exact ⟨_, rfl, _, rfl, v, _, _, rfl, od, k⟩
theorem ok_is_twin (T : Txt K mg A) : FnOk P w K mg base CX0 3 A.is_twin A.is_twin_ ["twin"] (spTwin K) := by
  refine T.is_twin.F.ok sc_is_twin (fun vs H Q E h => ?_) (fun cdv Ar outer s H vs Q E hr h => ?_)
  · obtain ⟨v, o, rfl, _⟩ := h
    rfl
  · obtain ⟨v, o, rfl, hv, ok, k⟩ := h
    refine ⟨_, (pss_cons (ps_if (pt_cmpR op_isN (pv 0) pe_non (nomark _))
    (pss_one (ps_ret pe_bl))
    pss_nil)
    (pss_cons (ps_if (PW.pt (pw_or (pt_not (pt_val (pe_callB call_isi (by rfl) T.n_isinstance PyProof.Rows.boot_isinstance (pa_cons (pv 0) (pa_cons (pe_bltn (v := .ty "tuple") (by rfl) T.n_tuple PyProof.Rows.boot_tuple rfl) pa_nil))))) (pw_or1 (pt_cmpR op_ne (pe_callB call_len_seq (by rfl) T.n_len PySem.boot_len (pa_cons (pv 0) pa_nil)) pe_int (nomark _)))))
    (pss_one (ps_ret pe_bl))
    pss_nil)
    (pss_one (ps_ret (pe_and (pe_call (ok_is_question T) (hr.mono (by decide)) (by rfl) T.is_question.n T.is_question.F.kp T.is_question.b .nil pass0 (pa_cons (pe_ix ix_tup (pv 0) pe_int (fun _ _ => rfl)) pa_nil)) (pe_one (pe_call (ok_is_due T) (hr.mono (by decide)) (by rfl) T.is_due.n T.is_due.F.kp T.is_due.b .nil pass0 (pa_cons (pe_ix ix_tup (pv 0) pe_int (fun _ _ => rfl)) pa_nil)))))))), ?_⟩
    cases o with
    | none =>
      cases hv
      exact ⟨_, rfl, rfl, _, rfl, k⟩
    | some p =>
      obtain ⟨y, e⟩ := p
      obtain ⟨y0, y1, e0, e1⟩ := ok y e rfl
      obtain ⟨a, u, z, rfl, hs, hu, hz⟩ := dp_pair hv
      have eu := dp_int hu
      have ez := dp_int hz
      subst eu ez
      refine ⟨_, rfl, rfl, _, rfl, ?_⟩
      refine iteF ?_
      refine ⟨_, rfl, _, _, .type "tuple", _, true, rfl, .ty _, ty_tupD hs, kit_ty (by decide +kernel), _, rfl, ?_⟩
      refine iteF ?_
      refine ⟨_, rfl, a, _, rfl, .inr hs, rfl, _, rfl, ?_⟩
      refine iteF ?_
      refine ⟨_, rfl, a, _, _, _, rfl, rfl, hs, at0, _, rfl, .int y, _, rfl, ?_⟩
      refine ifp (isNum_t y0 y1) ?_
      refine ⟨_, rfl, a, _, _, _, rfl, rfl, hs, at1, _, rfl, .int e, ?_⟩
      rw [isNum_t e0 e1]
      exact k
theorem ok_is_asked (T : Txt K mg A) : FnOk P w K mg base CX0 4 A.is_asked A.is_asked_ ["asked"] (spQn K) := by
  refine T.is_asked.F.ok sc_is_asked (fun vs H Q E h => ?_) (fun cdv Ar outer s H vs Q E hr h => ?_)
  · obtain ⟨v, o, rfl, _⟩ := h
    rfl
  · obtain ⟨v, r, rfl, hv, ⟨q0, q1, d, tw⟩, k⟩ := h
    obtain ⟨a, u, rfl, hs, hu⟩ := dp_qn hv
    refine ⟨_, (pss_cons (ps_if (PW.pt (pw_or (pt_not (pt_val (pe_callB call_isi (by rfl) T.n_isinstance PyProof.Rows.boot_isinstance (pa_cons (pv 0) (pa_cons (pe_bltn (v := .ty "tuple") (by rfl) T.n_tuple PyProof.Rows.boot_tuple rfl) pa_nil))))) (pw_or1 (pt_cmpR op_ne (pe_callB call_len_seq (by rfl) T.n_len PySem.boot_len (pa_cons (pv 0) pa_nil)) pe_int (nomark _)))))
    (pss_one (ps_ret pe_bl))
    pss_nil)
    (pss_one (ps_ret (pe_and (pe_call (ok_is_question T) (hr.mono (by decide)) (by rfl) T.is_question.n T.is_question.F.kp T.is_question.b .nil pass0 (pa_cons (pe_ix ix_tup (pv 0) pe_int (fun _ _ => rfl)) pa_nil)) (pe_and (pe_call (ok_is_due T) (hr.mono (by decide)) (by rfl) T.is_due.n T.is_due.F.kp T.is_due.b .nil pass0 (pa_cons (pe_ix ix_tup (pv 0) pe_int (fun _ _ => rfl)) pa_nil)) (pe_one (pe_call (ok_is_twin T) (hr.mono (by decide)) (by rfl) T.is_twin.n T.is_twin.F.kp T.is_twin.b .nil pass0 (pa_cons (pe_ix ix_tup (pv 0) pe_int (fun _ _ => rfl)) pa_nil)))))))), ?_⟩
    refine ⟨_, rfl, _, _, .type "tuple", _, true, rfl, .ty _, ty_tupD hs, kit_ty (by decide +kernel), _, rfl, ?_⟩
    refine iteF ?_
    refine ⟨_, rfl, a, _, rfl, .inr hs, rfl, _, rfl, ?_⟩
    refine iteF ?_
    refine ⟨_, rfl, a, _, _, _, rfl, rfl, hs, at0, _, rfl, .int _, _, rfl, ?_⟩
    refine ifp (isNum_t q0 q1) ?_
    refine ⟨_, rfl, a, _, _, _, rfl, rfl, hs, at1, _, rfl, .int _, _, rfl, ?_⟩
    refine ifp (isNum_t d.1 d.2) ?_
    exact ⟨_, rfl, a, _, _, _, rfl, rfl, hs, at2, u, r.twin, rfl, hu, tw, k⟩
theorem ok_is_framed (T : Txt K mg A) : FnOk P w K mg base CX0 2 A.is_framed A.is_framed_ ["task"] (spTk K) := by
  refine T.is_framed.F.ok sc_is_framed (fun vs H Q E h => ?_) (fun cdv Ar outer s H vs Q E hr h => ?_)
  · obtain ⟨v, o, rfl, _⟩ := h
    rfl
  · obtain ⟨v, t, rfl, hv, ok, k⟩ := h
    obtain ⟨a, b, us, rfl, hs, hb, hu, hl⟩ := dp_tk hv
    refine ⟨_, (pss_cons (ps_if (PW.pt (pw_or (pt_not (pt_val (pe_callB call_isi (by rfl) T.n_isinstance PyProof.Rows.boot_isinstance (pa_cons (pv 0) (pa_cons (pe_bltn (v := .ty "tuple") (by rfl) T.n_tuple PyProof.Rows.boot_tuple rfl) pa_nil))))) (pw_or1 (pt_cmpR op_ne (pe_callB call_len_seq (by rfl) T.n_len PySem.boot_len (pa_cons (pv 0) pa_nil)) pe_int (nomark _)))))
    (pss_one (ps_ret pe_bl))
    pss_nil)
    (pss_cons (ps_asg (pv 0) (pg_tup rfl (pgs_cons (pg_name (i := 1) sc_is_framed.nd rfl (Or.inl rfl)) (pgs_cons (pg_name (i := 2) sc_is_framed.nd rfl (Or.inl rfl)) pgs_nil))))
    (pss_cons (ps_if (PW.pt (pw_or (pt_not (pt_val (pe_callB call_isi (by rfl) T.n_isinstance PyProof.Rows.boot_isinstance (pa_cons (pv 1) (pa_cons (pe_bltn (v := .ty "tuple") (by rfl) T.n_tuple PyProof.Rows.boot_tuple rfl) pa_nil))))) (pw_or1 (pt_cmpR op_eq (pe_callB call_len_seq (by rfl) T.n_len PySem.boot_len (pa_cons (pv 1) pa_nil)) pe_int (nomark _)))))
    (pss_one (ps_ret pe_bl))
    pss_nil)
    (pss_one (ps_ret (pe_call (ok_is_number T) (hr.mono (by decide)) (by rfl) T.is_number.n T.is_number.F.kp T.is_number.b .nil pass0 (pa_cons (pv 2) (pa_cons pe_int (pa_cons (pe_gv (by rfl) T.c_MOST_WEIGHT) pa_nil))))))))), ?_⟩
    refine ⟨_, rfl, _, _, .type "tuple", _, true, rfl, .ty _, ty_tupD hs, kit_ty (by decide +kernel), _, rfl, ?_⟩
    refine iteF ?_
    refine ⟨_, rfl, a, _, rfl, .inr hs, rfl, _, rfl, ?_⟩
    refine iteF ?_
    refine ⟨_, rfl, a, _, rfl, hs, rfl, ?_⟩
    refine ⟨_, _, rfl, _, _, rfl, rfl, ?_⟩
    refine ⟨_, rfl, _, _, .type "tuple", _, true, rfl, .ty _, ty_tupD hb, kit_ty (by decide +kernel), _, rfl, ?_⟩
    refine iteF ?_
    have h1 := ok.1
    refine ⟨_, rfl, b, _, rfl, .inr hb, rfl, _, rfl, ?_⟩
    refine ifn (by rw [dI, decide_eq_false (by omega)]; simp) ?_
    refine ⟨_, rfl, _, _, _, rfl, .int _, ?_⟩
    rw [isNum_t ok.2.2.2.2.1 ok.2.2.2.2.2]
    exact k
theorem ok_check_task (T : Txt K mg A) : FnOk P w K mg base CX0 5 A.check_task A.check_task_ ["task"] (spTask K) := by
  refine T.check_task.F.ok sc_check_task (fun vs H Q E h => ?_) (fun cdv Ar outer s H vs Q E hr h => ?_)
  · obtain ⟨v, o, rfl, _⟩ := h
    rfl
  · obtain ⟨v, t, rfl, hv, ok, k⟩ := h
    obtain ⟨a, b, us, rfl, hs, hb, hu, hl⟩ := dp_tk hv
    have hb0 := hb
    refine ⟨_, (pss_cons (ps_if (pt_not (pt_val (pe_call (ok_is_framed T) (hr.mono (by decide)) (by rfl) T.is_framed.n T.is_framed.F.kp T.is_framed.b .nil pass0 (pa_cons (pv 0) pa_nil))))
    (pss_one ps_never)
    pss_nil)
    (pss_cons (ps_set (i := 1) sc_check_task.nd rfl (Or.inl rfl) (pe_callTy0 cr_set0 (by rfl) T.n_set PyProof.Rows.boot_set))
    (pss_one (ps_for PassesOwn.never rfl (pi_enumT (by rfl) T.n_enumerate (pa_cons (pe_ix ix_tup (pv 0) pe_int (fun _ _ => rfl)) pa_nil)) (pg_tup rfl (pgs_cons (pg_name (i := 2) sc_check_task.nd rfl (Or.inl rfl)) (pgs_cons (pg_name (i := 3) sc_check_task.nd rfl (Or.inl rfl)) pgs_nil)))
    (pss_cons (ps_if (PW.pt (pw_or (pt_cmpR op_eq (pv 2) (pe_gv (by rfl) T.c_MOST_QUESTIONS) (nomark _)) (pw_or (pt_not (pt_val (pe_call (ok_is_asked T) (hr.mono (by decide)) (by rfl) T.is_asked.n T.is_asked.F.kp T.is_asked.b .nil pass0 (pa_cons (pv 3) pa_nil)))) (pw_or1 (pt_cmpR or_sin (pe_ix ix_tup (pv 3) pe_int (fun _ _ => rfl)) (pv 1) (by rfl))))))
    (pss_one ps_never)
    pss_nil)
    (pss_one (ps_expr (pe_sadd (pv 1) (pa_cons (pe_ix ix_tup (pv 3) pe_int (fun _ _ => rfl)) pa_nil))))))))), ?_⟩
    refine ⟨_, rfl, _, t, rfl, hv, ok, _, rfl, ?_⟩
    refine iteF ?_
    refine ⟨rfl, fun p hp => ?_⟩
    have sm := same_put (Same.refl H) (o := SetO w p (fun _ => false) 0) hp
    refine ⟨_, rfl, a, _, _, _, rfl, rfl, KT.same sm _ _ hs, at0, b, _, rfl, KT.same sm _ _ hb, for_it (walk_enumT (xs := us)) (fun i σ H' => Same H H' ∧ (∃ n, n ≤ i ∧ H' p = some (SetO w p (fun z => decide (z ∈ (t.qs.take i).map Qn.q)) n)) ∧ ∃ x y, σ = [some (.ref a), some (.ref p), x, y])
      ⟨sm, ⟨0, Nat.le_refl _, ?_⟩, _, _, rfl⟩ (fun i σ H' _ ⟨e, _⟩ => KT.same e _ _ hb) ?_ ?_⟩
    · rw [upd_same]
      simp
      rfl
    · rintro i x σ H1 H2 hi ⟨s1, ⟨n, hn, h1⟩, y1, y2, rfl⟩ ⟨c, x1, x2, rfl, hc, rfl, hx1, hx2⟩
      have e1 := Option.some.inj hx1
      subst e1
      have i16 := ok.2.1
      obtain ⟨r, hr2⟩ : ∃ r, t.qs[i]? = some r := ⟨_, List.getElem?_eq_getElem (by omega)⟩
      obtain ⟨d, hd, hx⟩ := dps_get hu hx2
      rw [List.getElem?_map, hr2] at hd
      have hd := Option.some.inj hd
      subst hd
      have ro := ok.2.2.1 _ (List.mem_of_getElem? hr2)
      have s2 : Same H (upd H1 c (.tup [.int (i : Nat), x2])) := same_put s1 (s1.free hc)
      have hx' := dp_same s2 _ _ hx
      obtain ⟨ra, ru, rfl, hrs, hru⟩ := dp_qn hx'
      have h2 : upd H1 c (.tup [.int (i : Nat), .ref ra]) p = some (SetO w p (fun z => decide (z ∈ (t.qs.take i).map Qn.q)) n) := by
        rw [upd_ne (ne_of_none h1 hc)]
        exact h1
      refine ⟨c, _, rfl, SqT.of upd_same, rfl, _, _, rfl, _, _, rfl, rfl, ?_⟩
      refine ⟨_, rfl, rfl, _, rfl, ?_⟩
      refine ifn (by rw [dI, decide_eq_false (by omega)]; simp) ?_
      refine ⟨_, rfl, _, r, rfl, hx', ro, _, rfl, ?_⟩
      refine iteF ?_
      have fresh : r.q ∉ (t.qs.take i).map Qn.q := by
        have nd := ok.2.2.2.1
        rw [← List.take_append_drop i t.qs, List.map_append, List.nodup_append] at nd
        intro z
        refine nd.2.2 _ z r.q ?_ rfl
        rw [drop_at hr2]
        exact List.mem_cons_self
      refine ⟨_, rfl, ra, _, _, _, rfl, rfl, hrs, at0, _, rfl, r.q, p, _, n, rfl, rfl, h2, _, rfl, ?_⟩
      refine ifn (by rw [decide_eq_false fresh]; simp) ?_
      refine ⟨_, rfl, ⟨p, _, n, rfl, h2⟩, _, rfl, ra, _, _, _, rfl, rfl, hrs, at0, p, r.q, _, n, rfl, rfl, h2, by unfold scanBound; omega, ?_⟩
      refine ⟨fun q o e => ?_, ⟨n + 1, by omega, ?_⟩, _, _, rfl⟩
      · rw [upd_ne (ne_of_none e hp)]
        exact s2 q o e
      · rw [upd_same, decide_eq_false fresh]
        simp only [List.take_add_one, hr2, List.map_append, Bool.false_eq_true, if_false]
        congr 3
        funext z
        simp
    · rintro σ H1 ⟨s1, _⟩
      exact k H1 s1
end
end Mh
namespace Mh
open PySem L2
theorem rightN_step (m : Mach) (s : Int) {qs : List Qn} {i : Nat} {r : Qn} (h : qs[i]? = some r) : rightN m s qs (i + 1) = rightN m s qs i ++ if r.good m s = true then [((i : Nat) : Int)] else [] := by
  unfold rightN
  rw [List.range_succ, List.filter_append, List.map_append]
  congr 1
  by_cases e : r.good m s = true
  · rw [if_pos e]
    simp [h, e]
  · rw [if_neg e]
    simp [h, e]
theorem rightN_le (m : Mach) (s : Int) (qs : List Qn) (i : Nat) : (rightN m s qs i).length ≤ i := by
  unfold rightN
  rw [List.length_map]
  have := List.length_filter_le (fun k => (qs[k]?.any (Qn.good m s))) (List.range i)
  rwa [List.length_range] at this
/-- what a machine tells, compared with a number -/
theorem eq_tell {o : Option Int} {i : Int} {H : Hp} {Q : V → Hp → Prop} (h : Q (.bl (decide (o = some i))) H) : rEq (oV o) (.int i) H Q := by
  cases o with
  | none =>
    refine ⟨rfl, ?_⟩
    have e : decide (oV none = V.int i) = decide ((none : Option Int) = some i) := rfl
    show Q (.bl (decide (oV none = V.int i))) H
    rw [e]
    exact h
  | some j =>
    refine ⟨rfl, ?_⟩
    have e : decide (V.int j = V.int i) = decide (some j = some i) := by
      rw [decide_eq_decide]
      exact ⟨fun z => by injection z with z; rw [z], fun z => by injection z with z; rw [z]⟩
    show Q (.bl (decide (V.int j = V.int i))) H
    rw [e]
    exact h
def spRun3 (K : PySem.W.Frag) : Sp := fun vs H Q _ => ∃ (v t : V) (m : Mach) (tk : Task) (s : Int), vs = [v, t, .int s] ∧ Dp K H v (machDt m) ∧ Dp K H t tk.dt ∧ MachOk m ∧ tk.Ok ∧ 0 ≤ s ∧ s ≤ 999 ∧ ∀ H', Same H H' → Q .non H'
def spCount (K : PySem.W.Frag) : Sp := fun vs H Q _ => ∃ (v t : V) (m : Mach) (tk : Task) (s : Int), vs = [v, t, .int s] ∧ Dp K H v (machDt m) ∧ Dp K H t tk.dt ∧ MachOk m ∧ tk.Ok ∧
  ∀ H', Same H H' → Q (.int (rightL m s tk.qs).length) H'
section
variable {P : Program} {w : World} {K : PySem.W.Frag} {mg : Str → Option Value} {base : Heap} {A : Adr}
theorem ok_right_ones (T : Txt K mg A) : FnOk P w K mg base CX0 3 A.right_ones A.right_ones_ ["machine", "task", "seed"] (spRightL K) := by
  refine T.right_ones.F.ok sc_right_ones (fun vs H Q E h => ?_) (fun cdv Ar outer s H vs Q E hr h => ?_)
  · obtain ⟨v, t, m, tk, s, rfl, _⟩ := h
    rfl
  · obtain ⟨v, t, m, tk, s, rfl, hv, ht, ho, to, k⟩ := h
    obtain ⟨a, b, us, rfl, hs, hb, hu, hl⟩ := dp_tk ht
    have hL := sizeLine_eq
    have l16 := to.2.1
    refine ⟨_, (pss_one (ps_ret (pe_lc (own := [("at", 3), ("question", 4), ("due", 5), ("_", 6)]) (g := gTup K 2 (gCons (gName 3) (gCons (gTup K 3 (gCons (gName 4) (gCons (gName 5) (gCons (gName 6) gNil)))) gNil)))  rfl sc_right_ones.nd (pi_enumT (by rfl) T.n_enumerate (pa_cons (pe_ix ix_tup (pv 1) pe_int (fun _ _ => rfl)) pa_nil)) (blkOk_by (N := N_right_ones) (sc := defScope s_right_ones) (by decide +kernel)) (fun _ _ _ _ _ => pg_tup rfl (pgs_cons (pg_name (i := 3) sc_right_ones.nd rfl (Or.inl rfl) (hf := Or.inr rfl)) (pgs_cons (pg_tup rfl (pgs_cons (pg_name (i := 4) sc_right_ones.nd rfl (Or.inl rfl) (hf := Or.inr rfl)) (pgs_cons (pg_name (i := 5) sc_right_ones.nd rfl (Or.inl rfl) (hf := Or.inr rfl)) (pgs_cons (pg_name (i := 6) sc_right_ones.nd rfl (Or.inl rfl) (hf := Or.inr rfl)) pgs_nil)))) pgs_nil))) (fun _ _ _ _ _ => (pts_one (pt_cmpR op_eq (pe_call (ok_run T) (hr.mono (by decide)) (by rfl) T.run.n T.run.F.kp T.run.b .nil pass0 (pa_cons (pv 0) (pa_cons (pv 4) (pa_cons (pv 2) pa_nil)))) (pv 5) (nomark _)))) (fun _ _ _ _ _ => (pv 3))))), ?_⟩
    refine ⟨_, rfl, a, _, _, _, rfl, rfl, hs, at0, b, us, rfl, hb, fun D hD => lc_it (walk_enumT (xs := us)) (fun i H' => Same H H' ∧ H' D = some (.lst ((rightN m s tk.qs i).map V.int)))
      ⟨same_put (Same.refl H) hD, upd_same⟩ (fun i H' _ z => KT.same z.1 _ _ hb) ?_ ?_⟩
    · rintro i x H1 H2 hi ⟨s1, h1⟩ ⟨c, x1, x2, rfl, hc, rfl, hx1, hx2⟩
      have e1 := Option.some.inj hx1
      subst e1
      obtain ⟨r, hr2⟩ : ∃ r, tk.qs[i]? = some r := ⟨_, List.getElem?_eq_getElem (by omega)⟩
      obtain ⟨d, hd, hx⟩ := dps_get hu hx2
      rw [List.getElem?_map, hr2] at hd
      have hd := Option.some.inj hd
      subst hd
      have s2 : Same H (upd H1 c (.tup [.int (i : Nat), x2])) := same_put s1 (s1.free hc)
      have hx' := dp_same s2 _ _ hx
      obtain ⟨ra, ru, rfl, hrs, hru⟩ := dp_qn hx'
      have ne := ne_of_none h1 hc
      have le := rightN_le m s tk.qs i
      refine ⟨c, _, rfl, SqT.of upd_same, rfl, _, _, rfl, _, _, rfl, ra, _, rfl, hrs, rfl, _, _, rfl, _, _, rfl, _, _, rfl, rfl, rfl, rfl, ?_⟩
      refine ⟨_, rfl, _, rfl, _, rfl, v, m, r.q, s, rfl, dp_same s2 _ _ hv, ho, _, rfl, ?_⟩
      refine eq_tell ?_
      refine ⟨_, rfl, ?_⟩
      have eg : r.good m s = decide (tell r.q s m = some r.due) := rfl
      rw [← eg]
      refine ite2 (fun e => ?_) (fun e => ?_)
      · refine ⟨_, rfl, _, (upd_ne ne).trans h1, by rw [List.length_map]; omega, ?_, ?_⟩
        · intro q o z
          rw [upd_ne (ne_of_none z hD)]
          exact s2 q o z
        · rw [upd_same, rightN_step m s hr2, if_pos e, List.map_append]
          rfl
      · refine ⟨s2, ?_⟩
        rw [rightN_step m s hr2, if_neg e, List.append_nil]
        exact (upd_ne ne).trans h1
    · rintro H1 ⟨s1, h1⟩
      rw [hl] at h1
      exact k D H1 hD s1 h1
theorem ok_count_right (T : Txt K mg A) : FnOk P w K mg base CX0 4 A.count_right A.count_right_ ["machine", "task", "seed"] (spCount K) := by
  refine T.count_right.F.ok sc_count_right (fun vs H Q E h => ?_) (fun cdv Ar outer s H vs Q E hr h => ?_)
  · obtain ⟨v, t, m, tk, s, rfl, _⟩ := h
    rfl
  · obtain ⟨v, t, m, tk, s, rfl, hv, ht, ho, to, k⟩ := h
    refine ⟨_, (pss_one (ps_ret (pe_callB call_len_seq (by rfl) T.n_len PySem.boot_len (pa_cons (pe_call (ok_right_ones T) (hr.mono (by decide)) (by rfl) T.right_ones.n T.right_ones.F.kp T.right_ones.b .nil pass0 (pa_cons (pv 0) (pa_cons (pv 1) (pa_cons (pv 2) pa_nil)))) pa_nil)))), ?_⟩
    refine ⟨_, rfl, _, rfl, _, rfl, v, t, m, tk, s, rfl, hv, ht, ho, to, fun p H1 hp s1 h1 => ?_⟩
    refine ⟨p, _, rfl, .inl (SqL.of h1), ?_⟩
    rw [List.length_map]
    exact k H1 s1
end
end Mh
namespace Mh
open PySem L2
local macro_rules | `(tactic| walk_at "z") => `(tactic| simp only [List.set_cons_succ, List.set_cons_zero])
local macro_rules | `(tactic| walk_at "w") => `(tactic| simp only [wipe, List.map, List.set_cons_succ, List.set_cons_zero])
/-! the program's hall -/
structure PAd where
  h : Addr
  dx : Addr
  T : Addr
  G : Addr
  R : Addr
  P : Addr
  D : Addr
  dl : Bool
def hflds (a : PAd) (n : Nat) (dl : Bool) : List (Str × V) := [("tasks", .ref a.T), ("machines", .ref a.G), ("runs", .ref a.R), ("next_run", .int n), ("pages", .ref a.P), ("done", .ref a.D), ("dealing", .bl dl)]
theorem look_cons {x y : Str} {v : V} {r : List (Str × V)} : List.lookup x ((y, v) :: r) = if x = y then some v else List.lookup x r := by
  rw [List.lookup_cons]
  by_cases e : x = y
  · subst e
    simp
  · rw [if_neg e]
    have e2 : (x == y) = false := by simpa using e
    rw [e2]
section
variable {a : PAd} {n : Nat} {dl : Bool}
theorem f_tasks : (hflds a n dl).lookup ("tasks" : Str) = some (.ref a.T) := by
  unfold hflds
  rw [look_cons, if_pos rfl]
theorem f_machines : (hflds a n dl).lookup ("machines" : Str) = some (.ref a.G) := by
  unfold hflds
  rw [look_cons, if_neg (by decide +kernel), look_cons, if_pos rfl]
theorem f_runs : (hflds a n dl).lookup ("runs" : Str) = some (.ref a.R) := by
  unfold hflds
  rw [look_cons, if_neg (by decide +kernel), look_cons, if_neg (by decide +kernel), look_cons, if_pos rfl]
theorem f_next : (hflds a n dl).lookup ("next_run" : Str) = some (.int n) := by
  unfold hflds
  rw [look_cons, if_neg (by decide +kernel), look_cons, if_neg (by decide +kernel), look_cons, if_neg (by decide +kernel), look_cons, if_pos rfl]
theorem f_pages : (hflds a n dl).lookup ("pages" : Str) = some (.ref a.P) := by
  unfold hflds
  rw [look_cons, if_neg (by decide +kernel), look_cons, if_neg (by decide +kernel), look_cons, if_neg (by decide +kernel), look_cons, if_neg (by decide +kernel), look_cons, if_pos rfl]
theorem f_done : (hflds a n dl).lookup ("done" : Str) = some (.ref a.D) := by
  unfold hflds
  rw [look_cons, if_neg (by decide +kernel), look_cons, if_neg (by decide +kernel), look_cons, if_neg (by decide +kernel), look_cons, if_neg (by decide +kernel), look_cons, if_neg (by decide +kernel), look_cons, if_pos rfl]
theorem f_no {m : Str} (h : m ∉ (["tasks", "machines", "runs", "next_run", "pages", "done", "dealing"] : List Str)) : (hflds a n dl).lookup m = none := by
  simp only [List.mem_cons, List.not_mem_nil, or_false, not_or] at h
  obtain ⟨h1, h2, h3, h4, h5, h6, h7⟩ := h
  unfold hflds
  rw [look_cons, if_neg h1, look_cons, if_neg h2, look_cons, if_neg h3, look_cons, if_neg h4, look_cons, if_neg h5, look_cons, if_neg h6, look_cons, if_neg h7]
  rfl
theorem f_put {i : Int} {k : Nat} (e : i = (k : Int)) : putF "next_run" (.int i) (hflds a n dl) = hflds a k dl := by
  subst e
  unfold hflds
  rw [putF, if_neg (by decide +kernel), putF, if_neg (by decide +kernel), putF, if_neg (by decide +kernel), putF, if_pos rfl]
end
/-- those that count, with their numbers -/
def cnt (rs : List Run) : List (Run × Nat) := rs.zipIdx.filter (·.1.counts)
def Run.dt (r : Run) : PyData := .tuple [.str r.who, .str r.goal, .int r.seed, .int r.score]
theorem run_td (r : Run) : TD r.dt = true := by simp [Run.dt, TD, TDs]
def RunDict (K : PySem.W.Frag) (H : Hp) (a : Addr) (rs : List Run) : Prop := ∃ kv : List (Key × V), Rd H a (.dK kv) ∧ kv.map (·.1) = (cnt rs).map (fun p => Sum.inl (p.2 : Int)) ∧ DpAll K H (kv.map (·.2)) ((cnt rs).map fun p => p.1.dt)
structure HCore (K : PySem.W.Frag) (C : Addr) (H : Hp) (a : PAd) (st : LHall) : Prop where
  ob : H a.h = some (.ins C a.dx (hflds a st.runs.length a.dl))
  tasks : DictAt K H a.T (st.tasks.map fun z => (z.1, z.2.dt))
  machines : DictAt K H a.G (st.machines.map fun z => (z.1, machDt z.2))
  runs : RunDict K H a.R st.runs
  ne : a.T ≠ a.G ∧ a.T ≠ a.R ∧ a.G ≠ a.R
section
variable {K : PySem.W.Frag} {C : Addr} {H H' : Hp} {a : PAd} {st : LHall}
theorem RunDict.same {r : Addr} {rs : List Run} (h : RunDict K H r rs) (s : Same H H') : RunDict K H' r rs := by
  obtain ⟨kv, h1, h2, h3⟩ := h
  exact ⟨kv, rd_same s h1, h2, dps_same s _ _ h3⟩
theorem tds_runs (rs : List Run) : TDs ((cnt rs).map fun p => p.1.dt) = true := tds_map (f := fun p : Run × Nat => p.1.dt) (fun p => run_td p.1) _
theorem HCore.same (h : HCore K C H a st) (s : Same H H') : HCore K C H' a st := ⟨s _ _ h.ob, h.tasks.same s, h.machines.same s, h.runs.same s, h.ne⟩
theorem HCore.lock {d : Addr} {kv : List (Key × V)} {od : Obj} (h : HCore K C H a st) (hd : H d = some (.dK kv)) : HCore K C (upd H d (.frz od (.dK kv))) a st := by
  have nf : ∀ o w, HO.dK kv ≠ .frz o w := fun o w z => by cases z
  have kt := kt_lock (K := K) (od := od) hd
  obtain ⟨h1, ⟨k1, a1, b1, c1⟩, ⟨k2, a2, b2, c2⟩, ⟨k3, a3, b3, c3⟩, hne⟩ := h
  exact ⟨(upd_ne (fun z => by rw [z, hd] at h1; cases h1)).trans h1, ⟨k1, rd_lock hd nf a1, b1, dps_keep kt _ _ (tds_fst fun t => task_td t) c1⟩, ⟨k2, rd_lock hd nf a2, b2, dps_keep kt _ _ (tds_fst fun m => mach_td m) c2⟩,
    ⟨k3, rd_lock hd nf a3, b3, dps_keep kt _ _ (tds_runs _) c3⟩, hne⟩
/-- an object that stands at one place as what it is -/
theorem rd_is {d : Addr} {kv kv2 : List (Key × V)} (hd : H d = some (.dK kv)) (h : Rd H d (.dK kv2)) : kv2 = kv := by
  rcases h with h | ⟨o, h⟩ <;> rw [hd] at h
  · injection Option.some.inj h with h
    exact h.symm
  · cases h
theorem cnt_len (rs : List Run) : (cnt rs).length ≤ rs.length := by
  unfold cnt
  have := List.length_filter_le (fun p : Run × Nat => p.1.counts) rs.zipIdx
  rwa [List.length_zipIdx] at this
theorem cnt_at {rs : List Run} {i : Nat} {r : Run} {k : Nat} (h : (cnt rs)[i]? = some (r, k)) : rs[k]? = some r ∧ r.counts = true := by
  have m := List.mem_filter.mp (List.mem_of_getElem? h)
  have e := List.mk_mem_zipIdx_iff_getElem?.mp m.1
  exact ⟨e, m.2⟩
theorem cnt_run {rs : List Run} {kv : List (Key × V)} {i : Nat} {kx : Key} {vx : V} (h2 : kv.map (·.1) = (cnt rs).map (fun p => Sum.inl (p.2 : Int))) (h3 : DpAll K H (kv.map (·.2)) ((cnt rs).map fun p => p.1.dt)) (e : kv[i]? = some (kx, vx)) :
    ∃ r k t, (cnt rs)[i]? = some (r, k) ∧ kx = Sum.inl (k : Int) ∧ vx = .ref t ∧ SqT K H t [.str r.who, .str r.goal, .int r.seed, .int r.score] := by
  have e1 := congrArg (fun l => l[i]?) h2
  simp only [List.getElem?_map, e, Option.map_some] at e1
  cases ec : (cnt rs)[i]? with
  | none =>
    rw [ec] at e1
    cases e1
  | some p =>
    rw [ec] at e1
    obtain ⟨r, k⟩ := p
    have e1 := Option.some.inj e1
    obtain ⟨d, hd, hx⟩ := dps_get (i := i) (v := vx) h3 (by rw [List.getElem?_map, e]; rfl)
    rw [List.getElem?_map, ec] at hd
    have hd := Option.some.inj hd
    subst hd
    obtain ⟨t, xs, rfl, hs, ha⟩ := dp_tup hx
    obtain ⟨u1, xs, rfl, g1, ha⟩ := dps_cons ha
    obtain ⟨u2, xs, rfl, g2, ha⟩ := dps_cons ha
    obtain ⟨u3, xs, rfl, g3, ha⟩ := dps_cons ha
    obtain ⟨u4, xs, rfl, g4, ha⟩ := dps_cons ha
    have en := dps_nil ha
    subst en
    rw [dp_str g1, dp_str g2, dp_int g3, dp_int g4] at hs
    exact ⟨r, k, t, rfl, e1, rfl, hs⟩
/-- what is there of a dict that is not locked -/
theorem kv_len {rs : List Run} {kv : List (Key × V)} (h2 : kv.map (·.1) = (cnt rs).map (fun p => (Sum.inl (p.2 : Int) : Key))) : kv.length = (cnt rs).length := by
  have e := congrArg List.length h2
  rwa [List.length_map, List.length_map] at e
end
/-- those of a machine in a task, with their scores -/
def ofIn (n g : Str) (p : Run × Nat) : Bool := decide (p.1.who = n) && decide (p.1.goal = g)
def inRuns (rs : List Run) (n g : Str) : List (Int × Int) := ((cnt rs).filter (ofIn n g)).map fun p => (p.1.score, (p.2 : Int))
def pairI (p : Int × Int) : PyData := .tuple [.int p.1, .int p.2]
theorem pairI_td (p : Int × Int) : TD (pairI p) = true := by simp [pairI, TD, TDs]
theorem inRuns_scores (rs : List Run) (n g : Str) : (inRuns rs n g).map (·.1) = scoresL rs n g := by
  unfold inRuns scoresL cnt
  rw [List.map_map, List.filter_filter]
  have e : ((fun p : Int × Int => p.1) ∘ fun p : Run × Nat => (p.1.score, (p.2 : Int))) = fun p : Run × Nat => p.1.score := rfl
  rw [e]
  have e2 : ∀ (k : Nat) (rs : List Run), ((rs.zipIdx k).filter fun p => ofIn n g p && p.1.counts).map (fun p : Run × Nat => p.1.score) = (rs.filter (Run.isOf n g)).map (·.score) := by
    intro k rs
    induction rs generalizing k with
    | nil => rfl
    | cons r rs ih =>
      rw [List.zipIdx_cons, List.filter_cons, List.filter_cons]
      have eb : (ofIn n g (r, k) && r.counts) = r.isOf n g := by
        unfold ofIn Run.isOf
        rw [Bool.and_comm]
      rw [eb]
      by_cases q : r.isOf n g = true
      · rw [if_pos q, if_pos q, List.map_cons, List.map_cons, ih]
      · rw [if_neg q, if_neg q, ih]
  exact e2 0 rs
/-- hall: the runs of a machine in a task that count -/
def spRunsIn (K : PySem.W.Frag) (C : Addr) : Sp := fun vs H Q _ => ∃ (a : PAd) (st : LHall) (n g : Str) (kv : List (Key × V)), vs = [.ref a.h, .str n, .str g] ∧ HCore K C H a st ∧ H a.R = some (.dK kv) ∧ st.runs.length ≤ 1000 ∧
  ∀ p H' us, H p = none → Same H H' → H' p = some (.lst us) → DpAll K H' us ((inRuns st.runs n g).map pairI) → Q (.ref p) H'
section
variable {P : Program} {w : World} {K : PySem.W.Frag} {mg : Str → Option Value} {base : Heap} {A : Adr}
theorem ok_Hall_runs_in (T : Txt K mg A) : FnOk P w K mg base CX0 2 A.Hall_runs_in A.Hall_runs_in_ ["self", "name", "of_task"] (spRunsIn K A.Hall) := by
  refine T.Hall_runs_in.F.ok sc_Hall_runs_in (fun vs H Q E h => ?_) (fun cdv Ar outer s H vs Q E hr h => ?_)
  · obtain ⟨a, st, n, g, kv, rfl, _⟩ := h
    rfl
  · obtain ⟨a, st, n, g, kv, rfl, hc, hR, lr, k⟩ := h
    have hL := sizeLine_eq
    refine ⟨_, (pss_one (ps_ret (pe_lock (pe_lc (own := [("number", 3), ("machine", 4), ("task", 5), ("_", 6), ("score", 7)]) (g := gTup K 2 (gCons (gName 3) (gCons (gTup K 4 (gCons (gName 4) (gCons (gName 5) (gCons (gName 6) (gCons (gName 7) gNil))))) gNil)))  rfl sc_Hall_runs_in.nd (pi_items (pe_fld (pv 0) rfl)) (blkOk_by (N := N_Hall_runs_in) (sc := defScope s_Hall_runs_in) (by decide +kernel)) (fun _ _ _ _ _ => pg_tup rfl (pgs_cons (pg_name (i := 3) sc_Hall_runs_in.nd rfl (Or.inl rfl) (hf := Or.inr rfl)) (pgs_cons (pg_tup rfl (pgs_cons (pg_name (i := 4) sc_Hall_runs_in.nd rfl (Or.inl rfl) (hf := Or.inr rfl)) (pgs_cons (pg_name (i := 5) sc_Hall_runs_in.nd rfl (Or.inl rfl) (hf := Or.inr rfl)) (pgs_cons (pg_name (i := 6) sc_Hall_runs_in.nd rfl (Or.inl rfl) (hf := Or.inr rfl)) (pgs_cons (pg_name (i := 7) sc_Hall_runs_in.nd rfl (Or.inl rfl) (hf := Or.inr rfl)) pgs_nil))))) pgs_nil))) (fun _ _ _ _ _ => (pts_one (PW.pt (pw_and (pt_cmpR op_eq (pv 4) (pv 1) (nomark _)) (pw_and1 (pt_cmpR op_eq (pv 5) (pv 2) (nomark _))))))) (fun _ _ _ _ _ => (pe_tup (pa_cons (pv 7) (pa_cons (pv 3) pa_nil)))))))), ?_⟩
    obtain ⟨kv2, r1, r2, r3⟩ := hc.runs
    have e := rd_is hR r1
    subst e
    have lk := kv_len r2
    have lc := cnt_len st.runs
    refine ⟨a.R, _, hR, trivial, fun od => ?_⟩
    have hcL := hc.lock (od := od) hR
    have hRL : upd H a.R (.frz od (.dK kv2)) a.R = some (.frz od (.dK kv2)) := upd_same
    have r3L := dps_keep (kt_lock (K := K) (od := od) hR) _ _ (tds_runs _) r3
    refine ⟨_, rfl, a.h, _, _, _, _, rfl, hcL.ob, T.cl_Hall, T.nf_runs, f_runs, a.R, od, _, rfl, hRL, fun D hD => ?_⟩
    have nRD : a.R ≠ D := ne_of_none hRL hD
    refine lc_w walk_items [some (.ref a.h), some (.str n), some (.str g), none, none, none, none, none] (fun i H' => Same (upd H a.R (.frz od (.dK kv2))) H' ∧ ∃ us, H' D = some (.lst us) ∧ DpAll K H' us (((((cnt st.runs).take i).filter (ofIn n g)).map fun p => (p.1.score, (p.2 : Int))).map pairI)) ⟨same_put (Same.refl _) hD, [], upd_same, .nil⟩ (fun i H' _ z => z.1 _ _ hRL) ?_ ?_
    · rintro i x H1 H2 hi ⟨s1, us, h1, d1⟩ ⟨c, x1, x2, rfl, hc2, rfl, hx1, hx2⟩
      have hx1 : kv2[i]?.map (fun kv => kV kv.1) = some x1 := hx1
      have hx2 : kv2[i]?.map Prod.snd = some x2 := hx2
      cases ek : kv2[i]? with
      | none =>
        rw [ek] at hx1
        cases hx1
      | some kx =>
        obtain ⟨kx, vx⟩ := kx
        rw [ek] at hx1 hx2
        have e1 := Option.some.inj hx1
        have e2 := Option.some.inj hx2
        subst e1 e2
        obtain ⟨r, m, t, hm, rfl, rfl, ht⟩ := cnt_run r2 r3L ek
        have ht1 := KT.same s1 _ _ ht
        have sc : Same H1 (upd H1 c (.tup [.int (m : Nat), .ref t])) := same_put (Same.refl H1) hc2
        have ne := ne_of_none h1 hc2
        have lu : us.length ≤ 1000 := by
          have e := dps_len d1
          rw [List.length_map, List.length_map] at e
          have q1 := List.length_filter_le (ofIn n g) ((cnt st.runs).take i)
          rw [List.length_take] at q1
          omega
        have es : (((cnt st.runs).take (i + 1)).filter (ofIn n g)) = (((cnt st.runs).take i).filter (ofIn n g)) ++ if ofIn n g (r, m) = true then [(r, m)] else [] := by
          rw [List.take_add_one, hm, List.filter_append]
          congr 1
          by_cases e : ofIn n g (r, m) = true
          · rw [if_pos e]
            simp [List.filter_cons, e]
          · rw [if_neg e]
            simp [List.filter_cons, e]
        refine ⟨c, _, rfl, SqT.of upd_same, rfl, _, _, rfl, ?_⟩
        refine ⟨_, _, rfl, t, _, rfl, KT.same sc _ _ ht1, rfl, ?_⟩
        refine ⟨_, _, rfl, ?_⟩
        refine ⟨_, _, rfl, ?_⟩
        refine ⟨_, _, rfl, ?_⟩
        refine ⟨_, _, rfl, ?_⟩
        refine ⟨rfl, ?_⟩
        refine ⟨rfl, ?_⟩
        walk_at "z"
        refine ⟨by walk_at "w", ?_⟩
        have h1' := (upd_ne (o := .tup [.int (m : Nat), .ref t]) ne).trans h1
        have neg : ¬ ofIn n g (r, m) = true → Same (upd H a.R (.frz od (.dK kv2))) (upd H1 c (.tup [.int (m : Nat), .ref t])) ∧ ∃ us, (upd H1 c (.tup [.int (m : Nat), .ref t])) D = some (.lst us) ∧ DpAll K (upd H1 c (.tup [.int (m : Nat), .ref t])) us (((((cnt st.runs).take (i + 1)).filter (ofIn n g)).map fun p => (p.1.score, (p.2 : Int))).map pairI) := fun f => by
          rw [es, if_neg f, List.append_nil]
          exact ⟨s1.trans sc, us, h1', dps_same sc _ _ d1⟩
        refine ⟨_, rfl, _, rfl, scal_str ⟨_, rfl, ?_⟩⟩
        refine ite2 (fun e1 => ?_) (fun e1 => ?_)
        · refine ⟨_, rfl, _, rfl, scal_str ⟨_, rfl, ?_⟩⟩
          refine ite2 (fun e2 => ?_) (fun e2 => ?_)
          · have f : ofIn n g (r, m) = true := by
              unfold ofIn
              rw [e1, e2]
              rfl
            refine ⟨_, rfl, _, rfl, by show 2 ≤ sizeLine; decide, fun l hl => ?_⟩
            have sl : Same (upd H1 c (.tup [.int (m : Nat), .ref t])) (upd (upd H1 c (.tup [.int (m : Nat), .ref t])) l (.tup [.int r.score, .int (m : Nat)])) := same_put (Same.refl _) hl
            have hD3 := sl _ _ h1'
            have kt : KT K (upd (upd H1 c (.tup [.int (m : Nat), .ref t])) l (.tup [.int r.score, .int (m : Nat)])) (upd (upd (upd H1 c (.tup [.int (m : Nat), .ref t])) l (.tup [.int r.score, .int (m : Nat)])) D (.lst (us ++ [.ref l]))) := (Bt.refl.set (S := [D]) (by simp)).kt1 hD3
            refine ⟨us, hD3, by omega, same_put (s1.trans (sc.trans sl)) hD, _, upd_same, ?_⟩
            rw [es, if_pos f, List.map_append, List.map_append]
            exact dps_snoc (dps_keep kt _ _ (tds_map pairI_td _) (dps_same (sc.trans sl) _ _ d1)) (.tup (kt _ _ (SqT.of upd_same)) (.cons (.int _) (.cons (.int _) .nil)))
          · refine neg fun f => e2 ?_
            unfold ofIn at f
            rw [Bool.and_eq_true] at f
            exact f.2
        · refine iteF ?_
          refine neg fun f => e1 ?_
          unfold ofIn at f
          rw [Bool.and_eq_true] at f
          exact f.1
    · rintro H1 ⟨s1, us, h1, d1⟩
      rw [lk, List.take_length] at d1
      refine ⟨s1 _ _ hRL, ?_⟩
      have su := same_unlock hR s1
      have h2 := (upd_ne (o := .dK kv2) nRD.symm).trans h1
      have kt : KT K H1 (upd H1 a.R (.dK kv2)) := kt_unlock (s1 _ _ hRL)
      have hDn : H D = none := by
        rw [upd_ne nRD.symm] at hD
        exact hD
      exact k D _ us hDn su h2 (dps_keep kt _ _ (tds_map pairI_td _) d1)
end
end Mh
namespace Mh
open PySem L2
local macro_rules | `(tactic| walk_at "z") => `(tactic| simp only [List.set_cons_succ, List.set_cons_zero])
local macro_rules | `(tactic| walk_at "w") => `(tactic| simp only [wipe, List.map, List.set_cons_succ, List.set_cons_zero])
/-- what a machine brought: by tasks, the weight and the runs -/
def brD (x : Int × List (Int × Int)) : PyData := .tuple [.int x.1, .list (x.2.map pairI)]
def brL (st : LHall) (n : Str) (ts : List (Str × Task)) : List (Int × List (Int × Int)) := ts.map fun z => (z.2.wt, inRuns st.runs n z.1)
theorem task_at {K : PySem.W.Frag} {H : Hp} {st : LHall} {kv : List (Key × V)} {i : Nat} {kx : Key} {vx : V} (h2 : kv.map (·.1) = (st.tasks.map fun z => (z.1, z.2.dt)).map (fun z => kk z.1)) (h3 : DpAll K H (kv.map (·.2)) ((st.tasks.map fun z => (z.1, z.2.dt)).map (·.2))) (e : kv[i]? = some (kx, vx)) :
    ∃ z, st.tasks[i]? = some z ∧ kx = kk z.1 ∧ Dp K H vx z.2.dt := by
  have e1 := congrArg (fun l => l[i]?) h2
  simp only [List.getElem?_map, e, Option.map_some] at e1
  cases ec : st.tasks[i]? with
  | none =>
    rw [ec] at e1
    cases e1
  | some z =>
    rw [ec] at e1
    have e1 := Option.some.inj e1
    obtain ⟨d, hd, hx⟩ := dps_get (i := i) (v := vx) h3 (by rw [List.getElem?_map, e]; rfl)
    rw [List.getElem?_map, List.getElem?_map, ec] at hd
    have hd := Option.some.inj hd
    subst hd
    exact ⟨z, rfl, e1, hx⟩
theorem dict_len {α : Type} {f : α → PyData} {l : List (Str × α)} {kv : List (Key × V)} (h2 : kv.map (·.1) = (l.map fun z => (z.1, f z.2)).map (fun z => kk z.1)) : kv.length = l.length := by
  have e := congrArg List.length h2
  rwa [List.length_map, List.length_map, List.length_map] at e
def spBrought (K : PySem.W.Frag) (C : Addr) : Sp := fun vs H Q _ => ∃ (a : PAd) (st : LHall) (n : Str) (kt kv : List (Key × V)), vs = [.ref a.h, .str n] ∧ HCore K C H a st ∧ H a.T = some (.dK kt) ∧ H a.R = some (.dK kv) ∧ st.runs.length ≤ 1000 ∧ st.tasks.length ≤ 4 ∧
  ∀ p H' us, H p = none → Same H H' → H' p = some (.lst us) → DpAll K H' us ((brL st n st.tasks).map brD) → Q (.ref p) H'
def rkB (l : List (Int × List (Int × Int))) : Bool := decide (0 < l.length) && (l.map fun x => decide (0 < x.2.length)).all id
def spIsRanked (K : PySem.W.Frag) : Sp := fun vs H Q _ => ∃ (p : Addr) (us : List V) (l : List (Int × List (Int × Int))), vs = [.ref p] ∧ SqL K H p us ∧ DpAll K H us (l.map brD) ∧ l.length ≤ 1000 ∧ ∀ H', Same H H' → Q (.bl (rkB l)) H'
def wtd (x : Int × List (Int × Int)) : Int := x.1 * (x.2.map (·.1)).sum * (60 / (x.2.length : Int))
def BrOk (x : Int × List (Int × Int)) : Prop := 1 ≤ x.1 ∧ x.1 ≤ 9 ∧ 1 ≤ x.2.length ∧ x.2.length ≤ 5 ∧ ∀ y ∈ x.2, 0 ≤ y.1 ∧ y.1 ≤ 16
def spWeighted (K : PySem.W.Frag) : Sp := fun vs H Q _ => ∃ (p : Addr) (us : List V) (x : Int × List (Int × Int)), vs = [.int x.1, .ref p] ∧ SqL K H p us ∧ DpAll K H us (x.2.map pairI) ∧ BrOk x ∧ ∀ H', Same H H' → Q (.int (wtd x)) H'
def spMeanOf (K : PySem.W.Frag) : Sp := fun vs H Q _ => ∃ (p : Addr) (us : List V) (l : List (Int × List (Int × Int))), vs = [.ref p] ∧ SqL K H p us ∧ DpAll K H us (l.map brD) ∧ l.length ≤ 1000 ∧ (∀ x ∈ l, BrOk x) ∧ ∀ H', Same H H' → Q (.int (l.map wtd).sum) H'
theorem dp_br {K : PySem.W.Frag} {H : Hp} {v : V} {x : Int × List (Int × Int)} (h : Dp K H v (brD x)) : ∃ t p us, v = .ref t ∧ SqT K H t [.int x.1, .ref p] ∧ SqL K H p us ∧ DpAll K H us (x.2.map pairI) ∧ us.length = x.2.length := by
  obtain ⟨t, xs, rfl, hs, ha⟩ := dp_tup h
  obtain ⟨u1, xs, rfl, g1, ha⟩ := dps_cons ha
  obtain ⟨u2, xs, rfl, g2, ha⟩ := dps_cons ha
  have en := dps_nil ha
  subst en
  cases g1
  cases g2 with
  | @lst p us _ h1 h2 =>
    have e := dps_len h2
    rw [List.length_map] at e
    exact ⟨t, p, us, rfl, hs, h1, h2, e⟩
section
variable {P : Program} {w : World} {K : PySem.W.Frag} {mg : Str → Option Value} {base : Heap} {A : Adr}
theorem ok_Hall_brought (T : Txt K mg A) : FnOk P w K mg base CX0 3 A.Hall_brought A.Hall_brought_ ["self", "name"] (spBrought K A.Hall) := by
  refine T.Hall_brought.F.ok sc_Hall_brought (fun vs H Q E h => ?_) (fun cdv Ar outer s H vs Q E hr h => ?_)
  · obtain ⟨a, st, n, kt, kv, rfl, _⟩ := h
    rfl
  · obtain ⟨a, st, n, kt, kv, rfl, hc, hT, hR, lr, lt, k⟩ := h
    have hL := sizeLine_eq
    refine ⟨_, (pss_one (ps_ret (pe_lock (pe_lc (own := [("of_task", 2), ("task", 3)]) (g := gTup K 2 (gCons (gName 2) (gCons (gName 3) gNil))) (tt := tYes) rfl sc_Hall_brought.nd (pi_items (pe_fld (pv 0) rfl)) (blkOk_by (N := N_Hall_brought) (sc := defScope s_Hall_brought) (by decide +kernel)) (fun _ _ _ _ _ => pg_tup rfl (pgs_cons (pg_name (i := 2) sc_Hall_brought.nd rfl (Or.inl rfl) (hf := Or.inr rfl)) (pgs_cons (pg_name (i := 3) sc_Hall_brought.nd rfl (Or.inl rfl) (hf := Or.inr rfl)) pgs_nil))) (fun _ _ _ _ _ => pts_nil) (fun _ _ _ _ _ => (pe_tup (pa_cons (pe_ix (ixK_tup (K := K) rfl) (pv 3) pe_int (fun _ _ => rfl)) (pa_cons (pe_meth (pv 0) T.cl_Hall T.Hall_runs_in.m (ok_Hall_runs_in T) (hr.mono (by decide)) T.Hall_runs_in.b .nil pass0 (pa_cons (pv 1) (pa_cons (pv 2) pa_nil))) pa_nil)))))))), ?_⟩
    obtain ⟨kv2, r1, r2, r3⟩ := hc.tasks
    have e := rd_is hT r1
    subst e
    have lk := dict_len r2
    refine ⟨a.T, _, hT, trivial, fun od => ?_⟩
    have hcL := hc.lock (od := od) hT
    have hTL : upd H a.T (.frz od (.dK kv2)) a.T = some (.frz od (.dK kv2)) := upd_same
    have hRL := (upd_ne (o := .frz od (.dK kv2)) hc.ne.2.1.symm).trans hR
    have r3L := dps_keep (kt_lock (K := K) (od := od) hT) _ _ (tds_fst fun t => task_td t) r3
    refine ⟨_, rfl, a.h, _, _, _, _, rfl, hcL.ob, T.cl_Hall, T.nf_tasks, f_tasks, a.T, od, _, rfl, hTL, fun D hD => ?_⟩
    have nTD : a.T ≠ D := ne_of_none hTL hD
    refine lc_w walk_items [some (.ref a.h), some (.str n), none, none] (fun i H' => Same (upd H a.T (.frz od (.dK kv2))) H' ∧ ∃ us, H' D = some (.lst us) ∧ DpAll K (del H' D) us ((brL st n (st.tasks.take i)).map brD)) ⟨same_put (Same.refl _) hD, [], upd_same, .nil⟩ (fun i H' _ z => z.1 _ _ hTL) ?_ ?_
    · rintro i x H1 H2 hi ⟨s1, us, h1, d1⟩ ⟨c, x1, x2, rfl, hc2, rfl, hx1, hx2⟩
      have hx1 : kv2[i]?.map (fun kv => kV kv.1) = some x1 := hx1
      have hx2 : kv2[i]?.map Prod.snd = some x2 := hx2
      cases ek : kv2[i]? with
      | none =>
        rw [ek] at hx1
        cases hx1
      | some kx =>
        obtain ⟨kx, vx⟩ := kx
        rw [ek] at hx1 hx2
        have e1 := Option.some.inj hx1
        have e2 := Option.some.inj hx2
        subst e1 e2
        obtain ⟨z, hz, rfl, dz⟩ := task_at r2 r3L ek
        have sc : Same H1 (upd H1 c (.tup [kV (kk z.1), vx])) := same_put (Same.refl H1) hc2
        have s2 := s1.trans sc
        obtain ⟨ta, tb, tu, rfl, ht, _⟩ := dp_tk (dp_same s2 _ _ dz)
        have ne := ne_of_none h1 hc2
        have h1' := (upd_ne (o := .tup [kV (kk z.1), .ref ta]) ne).trans h1
        have lu : us.length ≤ 4 := by
          have e := dps_len d1
          unfold brL at e
          rw [List.length_map, List.length_map, List.length_take] at e
          omega
        refine ⟨c, _, rfl, SqT.of upd_same, rfl, _, _, rfl, ?_⟩
        refine ⟨_, _, rfl, rfl, ?_⟩
        walk_at "z"
        refine ⟨by walk_at "w", ?_⟩
        refine yes_ ?_
        refine iteT ?_
        generalize upd H1 c (.tup [kV (kk z.1), .ref ta]) = H2 at sc s2 ht h1'
        have hc2 := hcL.same s2
        refine ⟨_, rfl, ta, _, _, _, rfl, rfl, ht, at1, ?_⟩
        refine ⟨_, rfl, a.h, _, _, rfl, hc2.ob, f_no (by decide +kernel), _, rfl, _, rfl, a, st, n, z.1, kv, rfl, hc2, s2 _ _ hRL, lr, fun p H3 us3 hp s3 h3 d3 => ?_⟩
        refine ⟨by show 2 ≤ sizeLine; decide, fun l hl => ?_⟩
        have sl : Same H3 (upd H3 l (.tup [.int z.2.wt, .ref p])) := same_put (Same.refl _) hl
        have hl4 : upd H3 l (.tup [.int z.2.wt, .ref p]) l = some (.tup [.int z.2.wt, .ref p]) := upd_same
        generalize upd H3 l (.tup [.int z.2.wt, .ref p]) = H4 at sl hl4
        have h4 := sl _ _ (s3 _ _ h1')
        have npD : p ≠ D := fun q => by
          rw [q, h1'] at hp
          cases hp
        have nlD : l ≠ D := fun q => by
          rw [q, h4] at hl4
          cases hl4
        refine ⟨us, h4, by omega, same_put (s2.trans (s3.trans sl)) hD, us ++ [.ref l], upd_same, ?_⟩
        rw [del_upd]
        unfold brL
        rw [List.take_add_one, hz, List.map_append, List.map_append]
        refine dps_snoc (dps_same (del_mono (sc.trans (s3.trans sl))) _ _ d1) ?_
        exact .tup (SqT.of ((del_ne nlD).trans hl4)) (.cons (.int _) (.cons (.lst (SqL.of ((del_ne npD).trans (sl _ _ h3))) (dps_keep ((KT.same sl).trans (del_kt h4)) _ _ (tds_map pairI_td _) d3)) .nil))
    · rintro H1 ⟨s1, us, h1, d1⟩
      rw [lk, List.take_length] at d1
      refine ⟨s1 _ _ hTL, ?_⟩
      have su := same_unlock hT s1
      have h2 := (upd_ne (o := .dK kv2) nTD.symm).trans h1
      have hDn : H D = none := by
        rw [upd_ne nTD.symm] at hD
        exact hD
      refine k D _ us hDn su h2 ?_
      have d2 := dps_same (del_same H1 D) _ _ d1
      -- behind the lock
      have unl : ∀ (x : Int × List (Int × Int)) (v : V), Dp K H1 v (brD x) → Dp K (upd H1 a.T (.dK kv2)) v (brD x) := fun x v q => by
        obtain ⟨t, p, us, rfl, q1, q2, q3, _⟩ := dp_br q
        have kt := kt_unlock (K := K) (s1 _ _ hTL)
        refine .tup (kt _ _ q1) (.cons (.int _) (.cons (.lst ?_ (dps_keep kt _ _ (tds_map pairI_td _) q3)) .nil))
        rcases q2 with q2 | q2
        · rcases q2 with q2 | ⟨o, q2⟩
          · refine .inl (.inl ((upd_ne fun q => ?_).trans q2))
            rw [q, s1 _ _ hTL] at q2
            cases q2
          · refine .inl (.inr ⟨o, (upd_ne fun q => ?_).trans q2⟩)
            rw [q, s1 _ _ hTL] at q2
            cases q2
        · exact .inr q2
      have all : ∀ (l : List (Int × List (Int × Int))) (vs : List V), DpAll K H1 vs (l.map brD) → DpAll K (upd H1 a.T (.dK kv2)) vs (l.map brD) := fun l => by
        induction l with
        | nil => intro vs q; cases q; exact .nil
        | cons x l ih =>
          intro vs q
          cases q with
          | cons q1 q2 => exact .cons (unl x _ q1) (ih _ q2)
      exact all _ _ d2
theorem ok_is_ranked (T : Txt K mg A) : FnOk P w K mg base CX0 1 A.is_ranked A.is_ranked_ ["brought"] (spIsRanked K) := by
  refine T.is_ranked.F.ok sc_is_ranked (fun vs H Q E h => ?_) (fun cdv Ar outer s H vs Q E hr h => ?_)
  · obtain ⟨p, us, l, rfl, _⟩ := h
    rfl
  · obtain ⟨p, us, l, rfl, hs, hd, ll, k⟩ := h
    have hL := sizeLine_eq
    have lu : us.length = l.length := by
      have e := dps_len hd
      rwa [List.length_map] at e
    refine ⟨_, (pss_one (ps_ret (pe_and (pe_cmpR op_gt (pe_callB call_len_seq (by rfl) T.n_len PySem.boot_len (pa_cons (pv 0) pa_nil)) pe_int (nomark _)) (pe_one (pe_callB (cr_all rfl) (by rfl) T.n_all PyProof.Rows.boot_all (pa_cons (pe_lc (own := [("_", 1), ("runs", 2)]) (g := gTup K 2 (gCons (gName 1) (gCons (gName 2) gNil))) (tt := tYes) rfl sc_is_ranked.nd (pi_list (pv 0)) (blkOk_by (N := N_is_ranked) (sc := defScope s_is_ranked) (by decide +kernel)) (fun _ _ _ _ _ => pg_tup rfl (pgs_cons (pg_name (i := 1) sc_is_ranked.nd rfl (Or.inl rfl) (hf := Or.inr rfl)) (pgs_cons (pg_name (i := 2) sc_is_ranked.nd rfl (Or.inl rfl) (hf := Or.inr rfl)) pgs_nil))) (fun _ _ _ _ _ => pts_nil) (fun _ _ _ _ _ => (pe_cmpR op_gt (pe_callB (callK_len_seq (K := K) rfl) (by rfl) T.n_len PySem.boot_len (pa_cons (pv 2) pa_nil)) pe_int (nomark _)))) pa_nil)))))), ?_⟩
    refine ⟨_, rfl, p, us, rfl, .inl hs, _, _, rfl, rfl, _, rfl, ?_⟩
    have eb : decide ((us.length : Int) > 0) = decide (0 < l.length) := by
      rw [decide_eq_decide]
      omega
    rw [eb]
    unfold rkB at k
    refine ite2 (fun e => ?_) (fun e => ?_)
    · rw [e, Bool.true_and] at k
      refine ⟨_, rfl, p, rfl, ⟨us, hs⟩, fun D hD => lc_w walk_list [some (.ref p), none, none] (fun i H' => Same H H' ∧ H' D = some (.lst (((l.take i).map fun x => decide (0 < x.2.length)).map V.bl))) ⟨same_put (Same.refl H) hD, upd_same⟩ (fun i H' _ z => z.1.seq hs) ?_ ?_⟩
      · rintro i x H1 H2 hi ⟨s1, h1⟩ ⟨rfl, hx⟩
        obtain ⟨d, hd2, hx2⟩ := dps_get hd hx
        obtain ⟨y, hy⟩ : ∃ y, l[i]? = some y := ⟨_, List.getElem?_eq_getElem (by omega)⟩
        rw [List.getElem?_map, hy] at hd2
        have hd2 := Option.some.inj hd2
        subst hd2
        obtain ⟨t, q, vs, rfl, g1, g2, g3, g4⟩ := dp_br (dp_same s1 _ _ hx2)
        refine ⟨t, _, rfl, g1, rfl, _, _, rfl, ?_⟩
        refine ⟨_, _, rfl, rfl, ?_⟩
        walk_at "z"
        refine ⟨by walk_at "w", ?_⟩
        refine yes_ ?_
        refine iteT ?_
        refine ⟨_, rfl, q, vs, rfl, .inl g2, _, _, rfl, rfl, _, h1, by rw [List.length_map, List.length_map, List.length_take]; omega, same_put s1 hD, ?_⟩
        rw [upd_same, List.take_add_one, hy, List.map_append, List.map_append]
        have e2 : decide ((0 : Int) < (vs.length : Int)) = decide (0 < y.2.length) := by
          rw [decide_eq_decide]
          omega
        show some (HO.lst (_ ++ [V.bl (decide ((0 : Int) < (vs.length : Int)))])) = _
        rw [e2]
        rfl
      · rintro H1 ⟨s1, h1⟩
        rw [lu, List.take_length] at h1
        exact ⟨D, _, rfl, SqL.of h1, k H1 s1⟩
    · have e2 : decide (0 < l.length) = false := by simpa using e
      rw [e2, Bool.false_and] at k
      exact k H (Same.refl H)
theorem ok_weighted (T : Txt K mg A) : FnOk P w K mg base CX0 1 A.weighted A.weighted_ ["weight", "runs"] (spWeighted K) := by
  refine T.weighted.F.ok sc_weighted (fun vs H Q E h => ?_) (fun cdv Ar outer s H vs Q E hr h => ?_)
  · obtain ⟨p, us, x, rfl, _⟩ := h
    rfl
  · obtain ⟨p, us, ⟨wt, rs⟩, rfl, hs, hd, ⟨o1, o2, o3, o4, o5⟩, k⟩ := h
    have hL := sizeLine_eq
    have lu : us.length = rs.length := by
      have e := dps_len hd
      rwa [List.length_map] at e
    have o4 : rs.length ≤ 5 := o4
    refine ⟨_, (pss_one (ps_ret (pe_op op_mul (pe_op op_mul (pv 0) (pe_callB (cr_sum rfl) (by rfl) T.n_sum (by decide +kernel) (pa_cons (pe_lc (own := [("score", 2), ("_", 3)]) (g := gTup K 2 (gCons (gName 2) (gCons (gName 3) gNil))) (tt := tYes) rfl sc_weighted.nd (pi_list (pv 1)) (blkOk_by (N := N_weighted) (sc := defScope s_weighted) (by decide +kernel)) (fun _ _ _ _ _ => pg_tup rfl (pgs_cons (pg_name (i := 2) sc_weighted.nd rfl (Or.inl rfl) (hf := Or.inr rfl)) (pgs_cons (pg_name (i := 3) sc_weighted.nd rfl (Or.inl rfl) (hf := Or.inr rfl)) pgs_nil))) (fun _ _ _ _ _ => pts_nil) (fun _ _ _ _ _ => (pv 2))) pa_nil))) (pe_op op_fdiv (pe_gv (by rfl) T.c_SIXTIETHS) (pe_callB call_len_seq (by rfl) T.n_len PySem.boot_len (pa_cons (pv 1) pa_nil)))))), ?_⟩
    refine ⟨_, rfl, _, rfl, p, rfl, ⟨us, hs⟩, fun D hD => lc_w walk_list [some (.int wt), some (.ref p), none, none] (fun i H' => Same H H' ∧ H' D = some (.lst (((rs.take i).map (·.1)).map V.int))) ⟨same_put (Same.refl H) hD, upd_same⟩ (fun i H' _ z => z.1.seq hs) ?_ ?_⟩
    · rintro i x H1 H2 hi ⟨s1, h1⟩ ⟨rfl, hx⟩
      obtain ⟨d, hd2, hx2⟩ := dps_get hd hx
      obtain ⟨y, hy⟩ : ∃ y, rs[i]? = some y := ⟨_, List.getElem?_eq_getElem (by omega)⟩
      rw [List.getElem?_map, hy] at hd2
      have hd2 := Option.some.inj hd2
      subst hd2
      obtain ⟨t, u, z, rfl, g1, g2, g3⟩ := dp_pair (dp_same s1 _ _ hx2)
      cases g2
      cases g3
      refine ⟨t, _, rfl, g1, rfl, _, _, rfl, ?_⟩
      refine ⟨_, _, rfl, rfl, ?_⟩
      walk_at "z"
      refine ⟨by walk_at "w", ?_⟩
      refine yes_ ?_
      refine iteT ?_
      refine ⟨_, rfl, _, h1, by rw [List.length_map, List.length_map, List.length_take]; omega, same_put s1 hD, ?_⟩
      rw [upd_same, List.take_add_one, hy, List.map_append, List.map_append]
      rfl
    · rintro H1 ⟨s1, h1⟩
      rw [lu, List.take_length] at h1
      have l1 : rs.length ≤ 5 := o4
      have l0 : 1 ≤ rs.length := o3
      have w0 : 1 ≤ wt := o1
      have w1 : wt ≤ 9 := o2
      obtain ⟨q0, q1⟩ := sum_bound (l := rs.map (·.1)) (b := 16) fun y hy => by
        obtain ⟨z, hz, rfl⟩ := List.mem_map.mp hy
        exact o5 z hz
      rw [List.length_map] at q1
      refine ⟨D, _, rfl, SqL.of h1, _, _, rfl, rfl, .inl ⟨by omega, by omega⟩, _, rfl, p, us, rfl, .inl (s1.seq hs), _, _, rfl, rfl, ⟨by omega, by omega⟩, _, _, rfl, rfl, .inr ?_, ?_⟩
      · rw [lu]
        have d0 : (0 : Int) ≤ 60 / (rs.length : Int) := Int.ediv_nonneg (by decide) (by omega)
        have d1 : (60 : Int) / (rs.length : Int) ≤ 60 := Int.ediv_le_self _ (by decide)
        exact ⟨by omega, by omega⟩
      · rw [lu]
        exact k H1 s1
theorem ok_mean_of (T : Txt K mg A) : FnOk P w K mg base CX0 2 A.mean_of A.mean_of_ ["brought"] (spMeanOf K) := by
  refine T.mean_of.F.ok sc_mean_of (fun vs H Q E h => ?_) (fun cdv Ar outer s H vs Q E hr h => ?_)
  · obtain ⟨p, us, l, rfl, _⟩ := h
    rfl
  · obtain ⟨p, us, l, rfl, hs, hd, ll, lo, k⟩ := h
    have hL := sizeLine_eq
    have lu : us.length = l.length := by
      have e := dps_len hd
      rwa [List.length_map] at e
    refine ⟨_, (pss_one (ps_ret (pe_callB (cr_sum rfl) (by rfl) T.n_sum (by decide +kernel) (pa_cons (pe_lc (own := [("weight", 1), ("runs", 2)]) (g := gTup K 2 (gCons (gName 1) (gCons (gName 2) gNil))) (tt := tYes) rfl sc_mean_of.nd (pi_list (pv 0)) (blkOk_by (N := N_mean_of) (sc := defScope s_mean_of) (by decide +kernel)) (fun _ _ _ _ _ => pg_tup rfl (pgs_cons (pg_name (i := 1) sc_mean_of.nd rfl (Or.inl rfl) (hf := Or.inr rfl)) (pgs_cons (pg_name (i := 2) sc_mean_of.nd rfl (Or.inl rfl) (hf := Or.inr rfl)) pgs_nil))) (fun _ _ _ _ _ => pts_nil) (fun _ _ _ _ _ => (pe_call (ok_weighted T) (hr.mono (by decide)) (by rfl) T.weighted.n T.weighted.F.kp T.weighted.b .nil pass0 (pa_cons (pv 1) (pa_cons (pv 2) pa_nil))))) pa_nil)))), ?_⟩
    refine ⟨_, rfl, p, rfl, ⟨us, hs⟩, fun D hD => lc_w walk_list [some (.ref p), none, none] (fun i H' => Same H H' ∧ H' D = some (.lst (((l.take i).map wtd).map V.int))) ⟨same_put (Same.refl H) hD, upd_same⟩ (fun i H' _ z => z.1.seq hs) ?_ ?_⟩
    · rintro i x H1 H2 hi ⟨s1, h1⟩ ⟨rfl, hx⟩
      obtain ⟨d, hd2, hx2⟩ := dps_get hd hx
      obtain ⟨y, hy⟩ : ∃ y, l[i]? = some y := ⟨_, List.getElem?_eq_getElem (by omega)⟩
      rw [List.getElem?_map, hy] at hd2
      have hd2 := Option.some.inj hd2
      subst hd2
      obtain ⟨t, q, vs, rfl, g1, g2, g3, g4⟩ := dp_br (dp_same s1 _ _ hx2)
      refine ⟨t, _, rfl, g1, rfl, _, _, rfl, ?_⟩
      refine ⟨_, _, rfl, rfl, ?_⟩
      walk_at "z"
      refine ⟨by walk_at "w", ?_⟩
      refine yes_ ?_
      refine iteT ?_
      refine ⟨_, rfl, _, rfl, q, vs, y, rfl, g2, g3, lo y (List.mem_of_getElem? hy), fun H3 s3 => ?_⟩
      refine ⟨_, s3 _ _ h1, by rw [List.length_map, List.length_map, List.length_take]; omega, same_put (s1.trans s3) hD, ?_⟩
      rw [upd_same, List.take_add_one, hy, List.map_append, List.map_append]
      rfl
    · rintro H1 ⟨s1, h1⟩
      rw [lu, List.take_length] at h1
      exact ⟨D, _, rfl, SqL.of h1, k H1 s1⟩
end
end Mh
namespace Mh
open PySem L2
local macro_rules | `(tactic| walk_at "z") => `(tactic| simp only [List.set_cons_succ, List.set_cons_zero])
local macro_rules | `(tactic| walk_at "w") => `(tactic| simp only [wipe, List.map, List.set_cons_succ, List.set_cons_zero])
/-- what is true of a hall that is led by deeds that are let -/
structure StOk (st : LHall) : Prop where
  runs : st.runs.length ≤ 1000
  fewT : st.tasks.length ≤ 4
  fewG : st.machines.length ≤ 6
  okT : ∀ z ∈ st.tasks, z.2.Ok
  okG : ∀ z ∈ st.machines, MachOk z.2
  ndT : (namesT st).Nodup
  ndG : (namesG st).Nodup
  run : ∀ r ∈ st.runs, r.counts = true → r.who ∈ namesG st ∧ r.goal ∈ namesT st ∧ 0 ≤ r.seed ∧ r.seed ≤ 999 ∧ 0 ≤ r.score ∧ r.score ≤ 16
  five : ∀ n g, (scoresL st.runs n g).length ≤ 5
  runsD : st.runs.length ≤ st.deeds.length
  pagesD : st.pages.length ≤ st.deeds.length
  deeds : st.deeds.length ≤ 1000
theorem scores_mem {st : LHall} {n g : Str} {x : Int} (h : x ∈ scoresL st.runs n g) : ∃ r ∈ st.runs, r.counts = true ∧ r.score = x := by
  obtain ⟨r, hr, rfl⟩ := List.mem_map.mp h
  obtain ⟨h1, h2⟩ := List.mem_filter.mp hr
  unfold Run.isOf at h2
  rw [Bool.and_eq_true] at h2
  exact ⟨r, h1, h2.1, rfl⟩
theorem inRuns_len (rs : List Run) (n g : Str) : (inRuns rs n g).length = (scoresL rs n g).length := by
  rw [← inRuns_scores, List.length_map]
theorem rk_eq (st : LHall) (n : Str) : rkB (brL st n st.tasks) = isRanked st n := by
  unfold rkB isRanked brL namesT
  rw [List.length_map, List.length_map, List.map_map, List.all_map, List.all_map]
  congr 1
  · cases st.tasks with
    | nil => rfl
    | cons z l => simp
  · refine congrArg (fun f => st.tasks.all f) (funext fun z => ?_)
    show decide (0 < (inRuns st.runs n z.1).length) = !((scoresL st.runs n z.1).length == 0)
    rw [inRuns_len]
    cases (scoresL st.runs n z.1).length <;> simp
theorem br_ok {st : LHall} {n : Str} (h : StOk st) (r : isRanked st n = true) : ∀ x ∈ brL st n st.tasks, BrOk x := by
  intro x hx
  obtain ⟨z, hz, rfl⟩ := List.mem_map.mp hx
  have o := h.okT z hz
  have some_ : 1 ≤ (scoresL st.runs n z.1).length := by
    unfold isRanked at r
    rw [Bool.and_eq_true, List.all_eq_true] at r
    have q := r.2 z.1 (List.mem_map.mpr ⟨z, hz, rfl⟩)
    cases e : (scoresL st.runs n z.1).length with
    | zero =>
      rw [e] at q
      simp at q
    | succ k => omega
  refine ⟨o.2.2.2.2.1, o.2.2.2.2.2, ?_, ?_, fun y hy => ?_⟩
  · show 1 ≤ (inRuns st.runs n z.1).length
    rw [inRuns_len]
    exact some_
  · show (inRuns st.runs n z.1).length ≤ 5
    rw [inRuns_len]
    exact h.five _ _
  · have m : y.1 ∈ scoresL st.runs n z.1 := by
      rw [← inRuns_scores]
      exact List.mem_map.mpr ⟨y, hy, rfl⟩
    obtain ⟨r2, h1, h2, h3⟩ := scores_mem m
    obtain ⟨_, _, _, _, q1, q2⟩ := h.run r2 h1 h2
    rw [← h3]
    exact ⟨q1, q2⟩
/-- sixty times the mean -/
def meanI (st : LHall) (n : Str) : Int := ((brL st n st.tasks).map wtd).sum
theorem getL_at {α : Type} {l : List (Str × α)} {z : Str × α} (h : (l.map (·.1)).Nodup) (m : z ∈ l) : getL l z.1 = some z.2 := by
  unfold getL
  induction l with
  | nil => cases m
  | cons y l ih =>
    rw [List.map_cons, List.nodup_cons] at h
    rw [List.find?_cons]
    rcases List.mem_cons.mp m with e | m
    · subst e
      simp
    · have ne : ¬ y.1 = z.1 := fun q => h.1 (by rw [q]; exact List.mem_map.mpr ⟨z, m, rfl⟩)
      simp only [ne, decide_false]
      exact ih h.2 m
theorem mean_over {st : LHall} (h : StOk st) (n : Str) : meanI st n = overL st n (namesT st) := by
  unfold meanI overL brL namesT
  rw [List.map_map, List.map_map]
  refine congrArg List.sum (List.map_congr_left fun z hz => ?_)
  show z.2.wt * ((inRuns st.runs n z.1).map (·.1)).sum * (60 / ((inRuns st.runs n z.1).length : Int)) = wtOf st z.1 * (scoresL st.runs n z.1).sum * (60 / ((scoresL st.runs n z.1).length : Int))
  have e : wtOf st z.1 = z.2.wt := by
    unfold wtOf
    rw [getL_at h.ndT hz]
    rfl
  rw [e, inRuns_scores, inRuns_len]
def meansL (st : LHall) : List (Str × Int) := (rankedL st).map fun n => (n, meanI st n)
theorem rankedL_nd {st : LHall} (h : StOk st) : (rankedL st).Nodup := by
  unfold rankedL
  exact List.Nodup.sublist List.filter_sublist ((sortN_perm _).nodup_iff.mpr h.ndG)
theorem rankedL_len {st : LHall} (h : StOk st) : (rankedL st).length ≤ 6 := by
  unfold rankedL
  refine Nat.le_trans (List.length_filter_le _ _) ?_
  rw [sortN_len]
  unfold namesG
  rw [List.length_map]
  exact h.fewG
def spMeans (K : PySem.W.Frag) (C : Addr) : Sp := fun vs H Q _ => ∃ (a : PAd) (st : LHall) (kt kv : List (Key × V)), vs = [.ref a.h] ∧ HCore K C H a st ∧ H a.T = some (.dK kt) ∧ H a.R = some (.dK kv) ∧ StOk st ∧
  ∀ p H', H p = none → Same H H' → H' p = some (.dK (kvL V.int (meansL st))) → Q (.ref p) H'
section
variable {P : Program} {w : World} {K : PySem.W.Frag} {mg : Str → Option Value} {base : Heap} {A : Adr}
theorem ok_Hall_means (T : Txt K mg A) : FnOk P w K mg base CX0 4 A.Hall_means A.Hall_means_ ["self"] (spMeans K A.Hall) := by
  refine T.Hall_means.F.ok sc_Hall_means (fun vs H Q E h => ?_) (fun cdv Ar outer s H vs Q E hr h => ?_)
  · obtain ⟨a, st, kt, kv, rfl, _⟩ := h
    rfl
  · obtain ⟨a, st, kt, kv, rfl, hc, hT, hR, ok, k⟩ := h
    have hL := sizeLine_eq
    refine ⟨_, (pss_cons (ps_set (i := 1) sc_Hall_means.nd rfl (Or.inr rfl) (pe_dc (own := [("name", 2)]) (g := gName 2) (tt := tYes) rfl sc_Hall_means.nd (pi_list (pe_callB (call_sortedD rfl) (by rfl) T.n_sorted PyProof.Rows.boot_sorted (pa_cons (pe_fld (pv 0) rfl) pa_nil))) (blkOk_by (N := N_Hall_means) (sc := defScope s_Hall_means) (by decide +kernel)) (fun _ _ _ _ _ => pg_name (i := 2) sc_Hall_means.nd rfl (Or.inl rfl) (hf := Or.inr rfl)) (fun _ _ _ _ _ => pts_nil) (fun _ _ _ _ _ => (pv 2)) (fun _ _ _ _ _ => (pe_meth (pv 0) T.cl_Hall T.Hall_brought.m (ok_Hall_brought T) (hr.mono (by decide)) T.Hall_brought.b .nil pass0 (pa_cons (pv 2) pa_nil)))))
    (pss_one (ps_ret (pe_lock (pe_dc (own := [("name", 2)]) (g := gName 2)  rfl sc_Hall_means.nd (pi_keys (pv 1)) (blkOk_by (N := N_Hall_means) (sc := defScope s_Hall_means) (by decide +kernel)) (fun _ _ _ _ _ => pg_name (i := 2) sc_Hall_means.nd rfl (Or.inl rfl) (hf := Or.inr rfl)) (fun _ _ _ _ _ => (pts_one (pt_val (pe_call (ok_is_ranked T) (hr.mono (by decide)) (by rfl) T.is_ranked.n T.is_ranked.F.kp T.is_ranked.b .nil pass0 (pa_cons (pe_dget (hu_of hr) (pv 1) (pv 2) (fun _ _ => rfl)) pa_nil))))) (fun _ _ _ _ _ => (pv 2)) (fun _ _ _ _ _ => (pe_call (ok_mean_of T) (hr.mono (by decide)) (by rfl) T.mean_of.n T.mean_of.F.kp T.mean_of.b .nil pass0 (pa_cons (pe_dget (hu_of hr) (pv 1) (pv 2) (fun _ _ => rfl)) pa_nil)))))))), ?_⟩
    obtain ⟨kg, m1, m2⟩ := hc.machines.keys
    refine ⟨_, rfl, a.h, _, _, _, _, rfl, hc.ob, T.cl_Hall, T.nf_machines, f_machines, a.G, kg, namesG st, rfl, m1, m2, ?_, fun ys q pm so hq => ?_⟩
    · unfold namesG
      rw [List.length_map]
      have := ok.fewG
      omega
    have ey := sortN_eq pm so
    have ndy : ys.Nodup := pm.nodup_iff.mpr ok.ndG
    have ly : ys.length ≤ 6 := by
      rw [pm.length_eq]
      unfold namesG
      rw [List.length_map]
      exact ok.fewG
    have s0 := same_put (o := .lst (ys.map V.str)) (Same.refl H) hq
    have hq0 : upd H q (.lst (ys.map V.str)) q = some (.lst (ys.map V.str)) := upd_same
    generalize upd H q (.lst (ys.map V.str)) = H0 at s0 hq0
    have hc0 := hc.same s0
    refine ⟨q, rfl, ⟨_, SqL.of hq0⟩, fun D hD => ?_⟩
    refine dc_w walk_list [some (.ref a.h), none, none] (fun i H' => Same H0 H' ∧ ∃ kv, H' D = some (.dK kv) ∧ kv.map (·.1) = (ys.take i).map Sum.inr ∧ DpAll K (del H' D) (kv.map (·.2)) ((ys.take i).map fun n => .list ((brL st n st.tasks).map brD))) ⟨same_put (Same.refl _) hD, [], upd_same, rfl, .nil⟩ (fun i H' _ z => SqL.of (z.1 _ _ hq0)) ?_ ?_
    · rintro i x H1 H2 hi ⟨s1, kv1, h1, e1, d1⟩ ⟨rfl, hx⟩
      obtain ⟨n, hn, rfl⟩ := str_at hx
      refine ⟨?_, ?_⟩
      · simp only [wipe, List.map, List.set_cons_succ, List.set_cons_zero]
      refine yes_ ?_
      refine iteT ?_
      have s01 := s0.trans s1
      refine ⟨_, rfl, _, rfl, a.h, _, _, rfl, (hc.same s01).ob, f_no (by decide +kernel), _, rfl, a, st, n, kt, kv, rfl, hc.same s01, s01 _ _ hT, s01 _ _ hR, ok.runs, ok.fewT, fun p H3 us hp s3 h3 d3 => ?_⟩
      have l1 : kv1.length = (ys.take i).length := by
        have e := congrArg List.length e1
        rwa [List.length_map, List.length_map] at e
      have l2 : (ys.take i).length ≤ 6 := by
        rw [List.length_take]
        omega
      have hv : valV kv1 (Sum.inr n) = none := val_out (by rw [e1]; exact not_inr (nd_at ndy hn))
      have h3D := s3 _ _ h1
      have npD : p ≠ D := fun z => by
        rw [z, h1] at hp
        cases hp
      refine ⟨kv1, Sum.inr n, rfl, h3D, by omega, same_put (s1.trans s3) hD, _, upd_same, ?_, ?_⟩
      · rw [putK_new _ hv, List.map_append, e1, List.take_add_one, hn, List.map_append]
        rfl
      · rw [putK_new _ hv, del_upd, List.map_append, List.take_add_one, hn, List.map_append]
        refine dps_snoc (dps_same (del_mono s3) _ _ d1) ?_
        exact .lst (SqL.of ((del_ne npD).trans h3)) (dps_ktl (KTL.del h3D) _ _ d3)
    rintro H1 ⟨s1, kv1, h1, e1, d1⟩
    rw [List.length_map, List.take_length] at e1 d1
    have s01 := s0.trans s1
    have d1' := dps_same (del_same H1 D) _ _ d1
    have nD1 : (kv1.map (·.1)).Nodup := by
      rw [e1]
      exact nd_inr ndy
    have l1 : kv1.length = ys.length := by
      have e := congrArg List.length e1
      rwa [List.length_map, List.length_map] at e
    refine ⟨D, _, h1, trivial, fun od => ?_⟩
    have hDL : upd H1 D (.frz od (.dK kv1)) D = some (.frz od (.dK kv1)) := upd_same
    have d1L := dps_ktl (KTL.lock (od := od) h1) _ _ d1'
    refine ⟨_, rfl, D, od, rfl, .inl ⟨kv1, hDL, fun D2 hD2 => ?_⟩⟩
    have nDD : D ≠ D2 := ne_of_none hDL hD2
    refine dc_w walk_keys [some (.ref a.h), some (.ref D), none] (fun i H' => Same (upd H1 D (.frz od (.dK kv1))) H' ∧ H' D2 = some (.dK (kvL V.int (((ys.take i).filter (isRanked st)).map fun n => (n, meanI st n))))) ⟨same_put (Same.refl _) hD2, upd_same⟩ (fun i H' _ z => z.1 _ _ hDL) ?_ ?_
    · rintro i x H2 H3 hi ⟨s2, h2⟩ ⟨rfl, kx, vx, hkv, rfl⟩
      obtain ⟨n, hn, rfl⟩ : ∃ n, ys[i]? = some n ∧ kx = Sum.inr n := by
        have e := congrArg (fun l => l[i]?) e1
        simp only [List.getElem?_map, hkv, Option.map_some] at e
        cases ez : ys[i]? with
        | none =>
          rw [ez] at e
          cases e
        | some z =>
          rw [ez] at e
          exact ⟨z, rfl, Option.some.inj e⟩
      obtain ⟨d, hd, hx⟩ := dps_get (i := i) (v := vx) d1L (by rw [List.getElem?_map, hkv]; rfl)
      rw [List.getElem?_map, hn] at hd
      have hd := Option.some.inj hd
      subst hd
      have hx2 := dp_same s2 _ _ hx
      cases hx2 with
      | @lst p us _ g1 g2 =>
      have gd : DGet H3 D (.str n) (some (.ref p)) := by
        have g := dget_rd (k := Sum.inr n) (Or.inr ⟨od, s2 _ _ hDL⟩ : Rd H3 D (.dK kv1))
        rwa [val_at nD1 hkv] at g
      have lb : (brL st n st.tasks).length ≤ 1000 := by
        unfold brL
        rw [List.length_map]
        have := ok.fewT
        omega
      refine ⟨?_, ?_⟩
      · simp only [wipe, List.map, List.set_cons_succ, List.set_cons_zero]
      refine ⟨_, rfl, _, rfl, D, _, rfl, gd, p, us, _, rfl, g1, g2, lb, fun H4 s4 => ?_⟩
      rw [rk_eq]
      refine ⟨_, rfl, ?_⟩
      have es : ((ys.take (i + 1)).filter (isRanked st)).map (fun n => (n, meanI st n)) = ((ys.take i).filter (isRanked st)).map (fun n => (n, meanI st n)) ++ if isRanked st n = true then [(n, meanI st n)] else [] := by
        rw [List.take_add_one, hn, List.filter_append, List.map_append]
        congr 1
        by_cases e : isRanked st n = true
        · rw [if_pos e]
          simp [List.filter_cons, e]
        · rw [if_neg e]
          simp [List.filter_cons, e]
      refine ite2 (fun e => ?_) (fun e => ?_)
      · have s24 := s2.trans s4
        have gd4 : DGet H4 D (.str n) (some (.ref p)) := by
          have g := dget_rd (k := Sum.inr n) (Or.inr ⟨od, s24 _ _ hDL⟩ : Rd H4 D (.dK kv1))
          rwa [val_at nD1 hkv] at g
        refine ⟨_, rfl, _, rfl, _, rfl, D, _, rfl, gd4, p, us, _, rfl, s4.seq g1, dps_same s4 _ _ g2, lb, br_ok ok e, fun H5 s5 => ?_⟩
        have h5 := s5 _ _ (s4 _ _ h2)
        have hv : valV (kvL V.int (((ys.take i).filter (isRanked st)).map fun n => (n, meanI st n))) (Sum.inr n) = none := val_out (by
          rw [kvL_keys]
          refine not_inr fun z => ?_
          rw [List.map_map] at z
          obtain ⟨m, hm, e2⟩ := List.mem_map.mp z
          have e2 : m = n := e2
          rw [e2] at hm
          exact nd_at ndy hn (List.mem_filter.mp hm).1)
        refine ⟨_, _, rfl, h5, ?_, same_put (s24.trans s5) hD2, ?_⟩
        · unfold kvL
          rw [List.length_map, List.length_map]
          have q1 := List.length_filter_le (isRanked st) (ys.take i)
          rw [List.length_take] at q1
          omega
        · rw [upd_same, putK_new _ hv, es, if_pos e]
          unfold kvL
          rw [List.map_append]
          rfl
      · refine ⟨s2.trans s4, ?_⟩
        rw [es, if_neg e, List.append_nil]
        exact s4 _ _ h2
    · rintro H2 ⟨s2, h2⟩
      rw [l1, List.take_length] at h2
      refine ⟨s2 _ _ hDL, ?_⟩
      have su := same_unlock h1 s2
      have h3 := (upd_ne (o := .dK kv1) nDD.symm).trans h2
      have fr : H D2 = none := by
        rw [upd_ne nDD.symm] at hD2
        exact (s0.trans s1).free hD2
      refine k D2 _ fr (s01.trans su) ?_
      rw [h3]
      unfold meansL rankedL
      rw [ey]
end
end Mh
namespace Mh
open PySem L2
local macro_rules | `(tactic| walk_at "z") => `(tactic| simp only [List.set_cons_succ, List.set_cons_zero])
local macro_rules | `(tactic| walk_at "w") => `(tactic| simp only [wipe, List.map, List.set_cons_succ, List.set_cons_zero])
/-- ranks by means -/
theorem filt_take' {α : Type} {f : α → Bool} {l : List α} {i : Nat} {r : α} (h : l[i]? = some r) : ((l.take (i + 1)).filter f).length = ((l.take i).filter f).length + if f r = true then 1 else 0 := by
  rw [List.take_add_one, h, List.filter_append, List.length_append]
  congr 1
  by_cases e : f r = true
  · simp [e]
  · simp [e]
def rankI (l : List (Str × Int)) (m : Int) : Int := 1 + (((l.map (·.2)).filter fun x => decide (m < x)).length : Int)
def ranksOf (l : List (Str × Int)) : List (Str × Int) := l.map fun x => (x.1, rankI l x.2)
def spRanksBy (K : PySem.W.Frag) : Sp := fun vs H Q _ => ∃ (p : Addr) (l : List (Str × Int)), vs = [.ref p] ∧ H p = some (.dK (kvL V.int l)) ∧ (l.map (·.1)).Nodup ∧ l.length ≤ 64 ∧
  ∀ q H', H q = none → Same H H' → H' q = some (.dK (kvL V.int (ranksOf l))) → Q (.ref q) H'
def ranksL (st : LHall) : List (Str × Int) := ranksOf (meansL st)
def spRanksNow (K : PySem.W.Frag) (C : Addr) : Sp := fun vs H Q _ => ∃ (a : PAd) (st : LHall) (kt kv : List (Key × V)), vs = [.ref a.h] ∧ HCore K C H a st ∧ H a.T = some (.dK kt) ∧ H a.R = some (.dK kv) ∧ StOk st ∧
  ∀ p H', H p = none → Same H H' → H' p = some (.dK (kvL V.int (ranksL st))) → Q (.ref p) H'
theorem meansL_nd {st : LHall} (h : StOk st) : ((meansL st).map (·.1)).Nodup := by
  unfold meansL
  rw [List.map_map]
  have e : ((fun x : Str × Int => x.1) ∘ fun n => (n, meanI st n)) = id := rfl
  rw [e, List.map_id]
  exact rankedL_nd h
theorem meansL_len {st : LHall} (h : StOk st) : (meansL st).length ≤ 6 := by
  unfold meansL
  rw [List.length_map]
  exact rankedL_len h
theorem ranksOf_keys (l : List (Str × Int)) : (ranksOf l).map (·.1) = l.map (·.1) := by
  unfold ranksOf
  rw [List.map_map]
  rfl
theorem kvL_at {l : List (Str × Int)} {i : Nat} {kx : Key} {vx : V} (h : (kvL V.int l)[i]? = some (kx, vx)) : ∃ n m, l[i]? = some (n, m) ∧ kx = Sum.inr n ∧ vx = .int m := by
  unfold kvL at h
  rw [List.getElem?_map] at h
  cases e : l[i]? with
  | none =>
    rw [e] at h
    cases h
  | some x =>
    rw [e] at h
    have h := Option.some.inj h
    injection h with h1 h2
    exact ⟨x.1, x.2, rfl, h1.symm, h2.symm⟩
theorem kvL_len (l : List (Str × Int)) : (kvL V.int l).length = l.length := by
  unfold kvL
  rw [List.length_map]
theorem kvL_take (l : List (Str × Int)) {i : Nat} {x : Str × Int} (h : l[i]? = some x) : kvL V.int (l.take (i + 1)) = kvL V.int (l.take i) ++ [(Sum.inr x.1, .int x.2)] := by
  unfold kvL
  rw [List.take_add_one, h, List.map_append]
  rfl
section
variable {P : Program} {w : World} {K : PySem.W.Frag} {mg : Str → Option Value} {base : Heap} {A : Adr}
theorem ok_ranks_by (T : Txt K mg A) : FnOk P w K mg base CX0 1 A.ranks_by A.ranks_by_ ["means"] (spRanksBy K) := by
  refine T.ranks_by.F.ok sc_ranks_by (fun vs H Q E h => ?_) (fun cdv Ar outer s H vs Q E hr h => ?_)
  · obtain ⟨p, l, rfl, _⟩ := h
    rfl
  · obtain ⟨p, l, rfl, hp, nd, ll, k⟩ := h
    have hL := sizeLine_eq
    refine ⟨_, (pss_one (ps_ret (pe_lock (pe_dc (own := [("name", 1), ("mean", 2)]) (g := gTup K 2 (gCons (gName 1) (gCons (gName 2) gNil))) (tt := tYes) rfl sc_ranks_by.nd (pi_items (pv 0)) (blkOk_by (N := N_ranks_by) (sc := defScope s_ranks_by) (by decide +kernel)) (fun _ _ _ _ _ => pg_tup rfl (pgs_cons (pg_name (i := 1) sc_ranks_by.nd rfl (Or.inl rfl) (hf := Or.inr rfl)) (pgs_cons (pg_name (i := 2) sc_ranks_by.nd rfl (Or.inr rfl) (hf := Or.inl rfl)) pgs_nil))) (fun _ _ _ _ _ => pts_nil) (fun _ _ _ _ _ => (pv 1)) (fun _ _ _ _ _ => (pe_op op_add pe_int (pe_callB (callK_len_seq (K := K) rfl) (by rfl) T.n_len PySem.boot_len (pa_cons (pe_lc (own := [("other", 3)]) (g := gName 3)  rfl sc_ranks_by.nd (pi_values (pv 0)) (blkOk_by (N := N_ranks_by) (sc := relS { kind := .function, names := [(".0", .local), ("name", .local), ("mean", .cell), ("len", .globalImplicit), ("means", .free)], isGenerator := false, isCoroutine := false } (defScope s_ranks_by)) (by decide +kernel)) (fun _ _ _ _ _ => pg_name (i := 3) sc_ranks_by.nd rfl (Or.inl rfl) (hf := Or.inr rfl)) (fun _ _ _ _ _ => (pts_one (pt_cmpR op_gt (pv 3) (pv 2) (nomark _)))) (fun _ _ _ _ _ => (pv 3))) pa_nil)))))))), ?_⟩
    refine ⟨p, _, hp, trivial, fun od => ?_⟩
    have hpL : upd H p (.frz od (.dK (kvL V.int l))) p = some (.frz od (.dK (kvL V.int l))) := upd_same
    refine ⟨_, rfl, p, od, _, rfl, hpL, fun D hD => ?_⟩
    have npD : p ≠ D := ne_of_none hpL hD
    refine dc_w walk_items [some (.ref p), none, none, none] (fun i H' => Same (upd H p (.frz od (.dK (kvL V.int l)))) H' ∧ H' D = some (.dK (kvL V.int ((ranksOf l).take i)))) ⟨same_put (Same.refl _) hD, upd_same⟩ (fun i H' _ z => z.1 _ _ hpL) ?_ ?_
    · rintro i x H1 H2 hi ⟨s1, h1⟩ ⟨c, x1, x2, rfl, hc2, rfl, hx1, hx2⟩
      have hx1 : (kvL V.int l)[i]?.map (fun kv => kV kv.1) = some x1 := hx1
      have hx2 : (kvL V.int l)[i]?.map Prod.snd = some x2 := hx2
      cases ek : (kvL V.int l)[i]? with
      | none =>
        rw [ek] at hx1
        cases hx1
      | some kx =>
        obtain ⟨kx, vx⟩ := kx
        rw [ek] at hx1 hx2
        have e1 := Option.some.inj hx1
        have e2 := Option.some.inj hx2
        subst e1 e2
        obtain ⟨n, m, hn, rfl, rfl⟩ := kvL_at ek
        have sc : Same H1 (upd H1 c (.tup [kV (Sum.inr n), .int m])) := same_put (Same.refl H1) hc2
        have s2 := s1.trans sc
        have h2 := sc _ _ h1
        refine ⟨c, _, rfl, SqT.of upd_same, rfl, _, _, rfl, ?_⟩
        refine ⟨_, _, rfl, rfl, ?_⟩
        walk_at "z"
        refine ⟨by walk_at "w", ?_⟩
        refine yes_ ?_
        refine iteT ?_
        generalize upd H1 c (.tup [kV (Sum.inr n), .int m]) = H2 at sc s2 h2
        have hp2 := s2 _ _ hpL
        refine ⟨_, rfl, _, rfl, p, od, _, rfl, hp2, fun D3 hD3 => ?_⟩
        refine lc_w walk_values [some (.ref p), some (kV (Sum.inr n)), some (.int m), none] (fun j H' => Same H2 H' ∧ ∃ acc, H' D3 = some (.lst acc) ∧ acc.length = (((l.map (·.2)).take j).filter fun x => decide (m < x)).length) ⟨same_put (Same.refl _) hD3, [], upd_same, rfl⟩ (fun j H' _ z => z.1 _ _ hp2) ?_ ?_
        · rintro j y H3 H4 hj ⟨s3, acc, h3, l3⟩ ⟨rfl, ky, hky⟩
          obtain ⟨n2, m2, hn2, rfl, rfl⟩ := kvL_at hky
          have fl := filt_take' (f := fun x : Int => decide (m < x)) (l := l.map (·.2)) (i := j) (r := m2) (by rw [List.getElem?_map, hn2]; rfl)
          have la : acc.length ≤ 64 := by
            rw [l3]
            have := List.length_filter_le (fun x : Int => decide (m < x)) ((l.map (·.2)).take j)
            rw [List.length_take, List.length_map] at this
            omega
          refine ⟨?_, ?_⟩
          · simp only [wipe, List.map, List.set_cons_succ, List.set_cons_zero]
          walk_at "z"
          refine ⟨_, rfl, _, rfl, _, _, rfl, rfl, _, rfl, ?_⟩
          refine ite2 (fun e => ?_) (fun e => ?_)
          · refine ⟨_, rfl, acc, h3, by omega, same_put s3 hD3, _, upd_same, ?_⟩
            rw [List.length_append, fl, if_pos e, l3]
            rfl
          · exact ⟨s3, acc, h3, by rw [fl, if_neg e, l3]; rfl⟩
        rintro H3 ⟨s3, acc, h3, l3⟩
        rw [kvL_len, ← List.length_map (f := fun x : Str × Int => x.2), List.take_length] at l3
        refine ⟨D3, acc, rfl, .inl (SqL.of h3), _, _, rfl, rfl, ?_⟩
        have hm : (ranksOf l)[i]? = some (n, rankI l m) := by
          unfold ranksOf
          rw [List.getElem?_map, hn]
          rfl
        have lt : ((ranksOf l).take i).length ≤ 64 := by
          unfold ranksOf
          rw [List.length_take, List.length_map]
          omega
        have hv : valV (kvL V.int ((ranksOf l).take i)) (Sum.inr n) = none := val_out (by
          rw [kvL_keys, List.map_take, ranksOf_keys]
          exact not_inr (nd_at nd (by rw [List.getElem?_map, hn]; rfl)))
        refine ⟨_, Sum.inr n, rfl, s3 _ _ h2, by rw [kvL_len]; omega, same_put (s2.trans s3) hD, ?_⟩
        rw [upd_same, putK_new _ hv, kvL_take _ hm]
        have er : (1 : Int) + (acc.length : Int) = rankI l m := by
          unfold rankI
          rw [l3]
        show some (HO.dK (_ ++ [(_, V.int ((1 : Int) + (acc.length : Int)))])) = _
        rw [er]
    · rintro H1 ⟨s1, h1⟩
      have el : (kvL V.int l).length = (ranksOf l).length := by
        unfold ranksOf
        rw [kvL_len, List.length_map]
      rw [el, List.take_length] at h1
      refine ⟨s1 _ _ hpL, ?_⟩
      have fr : H D = none := by
        rw [upd_ne npD.symm] at hD
        exact hD
      exact k D _ fr (same_unlock hp s1) ((upd_ne npD.symm).trans h1)
theorem ok_Hall_ranks_now (T : Txt K mg A) : FnOk P w K mg base CX0 5 A.Hall_ranks_now A.Hall_ranks_now_ ["self"] (spRanksNow K A.Hall) := by
  refine T.Hall_ranks_now.F.ok sc_Hall_ranks_now (fun vs H Q E h => ?_) (fun cdv Ar outer s H vs Q E hr h => ?_)
  · obtain ⟨a, st, kt, kv, rfl, _⟩ := h
    rfl
  · obtain ⟨a, st, kt, kv, rfl, hc, hT, hR, ok, k⟩ := h
    refine ⟨_, (pss_one (ps_ret (pe_call (ok_ranks_by T) (hr.mono (by decide)) (by rfl) T.ranks_by.n T.ranks_by.F.kp T.ranks_by.b .nil pass0 (pa_cons (pe_meth0 (pv 0) T.cl_Hall T.Hall_means.m (ok_Hall_means T) (hr.mono (by decide)) T.Hall_means.b .nil pass0) pa_nil)))), ?_⟩
    refine ⟨_, rfl, a.h, _, _, rfl, hc.ob, f_no (by decide +kernel), a, st, kt, kv, rfl, hc, hT, hR, ok, fun p H1 hp s1 h1 => ?_⟩
    refine ⟨p, meansL st, rfl, h1, meansL_nd ok, by have := meansL_len ok; omega, fun q H2 hq s2 h2 => ?_⟩
    exact k q H2 (s1.free hq) (s1.trans s2) h2
end
-- SPLIT
/-- (name, old rank, new rank) of those whose rank is another one -/
abbrev Chg := Str × Option Int × Option Int
def chgDt (c : Chg) : PyData := .tuple [.str c.1, oDt c.2.1, oDt c.2.2]
theorem chg_td (c : Chg) : TD (chgDt c) = true := by
  obtain ⟨n, a, b⟩ := c
  cases a <;> cases b <;> simp [chgDt, TD, TDs, oDt]
def chgOf (names : List Str) (l1 l2 : List (Str × Int)) : List Chg := (names.filter fun n => !decide (getL l1 n = getL l2 n)).map fun n => (n, getL l1 n, getL l2 n)
theorem ne_oV {a b : Option Int} {H : Hp} {Q : V → Hp → Prop} (h : Q (.bl (!decide (a = b))) H) : rNe (oV a) (oV b) H Q := by
  have e : decide (oV a = oV b) = decide (a = b) := by
    rw [decide_eq_decide]
    refine ⟨fun z => ?_, fun z => by rw [z]⟩
    cases a <;> cases b <;> simp [oV] at z ⊢
    exact z
  refine ⟨?_, ?_⟩
  · cases a <;> cases b <;> rfl
  · show Q (.bl (!decide (oV a = oV b))) H
    rw [e]
    exact h
theorem val_kvL (l : List (Str × Int)) (n : Str) : valV (kvL V.int l) (Sum.inr n) = (getL l n).map V.int := by
  unfold kvL getL valV
  induction l with
  | nil => rfl
  | cons x l ih =>
    rw [List.map_cons, List.find?_cons, List.find?_cons]
    by_cases e : x.1 = n
    · subst e
      simp
    · have e2 : ¬ (Sum.inr x.1 : Key) = Sum.inr n := fun z => e (by injection z)
      simp only [e, e2, decide_false]
      exact ih
theorem getD_oV (o : Option Int) : (o.map V.int).getD .non = oV o := by cases o <;> rfl
theorem merge_keys : ∀ (more kvs : List (Key × V)) (ks : List Str), kvs.map (·.1) = ks.map Sum.inr → ks.Nodup → (∀ p ∈ more, ∃ n, p.1 = Sum.inr n) →
    ∃ us : List Str, (mergeK kvs more).map (·.1) = us.map Sum.inr ∧ us.Nodup ∧ ∀ n, n ∈ us ↔ n ∈ ks ∨ (Sum.inr n : Key) ∈ more.map (·.1)
  | [], kvs, ks, h, nd, _ => ⟨ks, h, nd, fun n => by simp⟩
  | p :: more, kvs, ks, h, nd, a => by
    obtain ⟨m, em⟩ := a p List.mem_cons_self
    have step : ∃ us : List Str, (putK kvs p.1 p.2).map (·.1) = us.map Sum.inr ∧ us.Nodup ∧ ∀ n, n ∈ us ↔ n ∈ ks ∨ n = m := by
      cases hv : valV kvs p.1 with
      | none =>
        have no := valV_not hv
        refine ⟨ks ++ [m], ?_, ?_, fun n => by simp⟩
        · rw [putK_new _ hv, List.map_append, h, em, List.map_append]
          rfl
        · rw [List.nodup_append]
          refine ⟨nd, by simp, fun x hx y hy => ?_⟩
          have ey : y = m := by simpa using hy
          subst ey
          intro z
          subst z
          refine no ?_
          rw [h, em]
          exact List.mem_map.mpr ⟨x, hx, rfl⟩
      | some v =>
        have yes := valV_in hv
        refine ⟨ks, ?_, nd, fun n => ?_⟩
        · rw [← h]
          have any : (kvs.any fun kv => decide (kv.1 = p.1)) = true := by
            rw [valV_any, hv]
            rfl
          unfold putK
          rw [if_pos any, List.map_map]
          refine List.map_congr_left fun q _ => ?_
          show (if q.1 = p.1 then (q.1, p.2) else q).1 = q.1
          split <;> rfl
        · rw [h, em] at yes
          obtain ⟨m2, hm2, e2⟩ := List.mem_map.mp yes
          injection e2 with e2
          subst e2
          constructor
          · exact .inl
          · rintro (z | rfl)
            · exact z
            · exact hm2
    obtain ⟨us, u1, u2, u3⟩ := step
    obtain ⟨ws, w1, w2, w3⟩ := merge_keys more (putK kvs p.1 p.2) us u1 u2 fun q hq => a q (List.mem_cons_of_mem _ hq)
    refine ⟨ws, w1, w2, fun n => ?_⟩
    rw [w3, u3, List.map_cons, List.mem_cons, em]
    constructor
    · rintro ((z | z) | z)
      · exact .inl z
      · exact .inr (.inl (by rw [z]))
      · exact .inr (.inr z)
    · rintro (z | z | z)
      · exact .inl (.inl z)
      · exact .inl (.inr (by injection z))
      · exact .inr z
theorem getL_none {l : List (Str × Int)} {n : Str} (h : n ∉ l.map (·.1)) : getL l n = none := by
  unfold getL
  rw [List.find?_eq_none.mpr fun z hz => ?_]
  · rfl
  · intro e
    exact h (List.mem_map.mpr ⟨z, hz, of_decide_eq_true e⟩)
/-- which names stand beside doesn't matter -/
theorem chg_names {l1 l2 : List (Str × Int)} {ks js : List Str} (n1 : ks.Nodup) (n2 : js.Nodup) (h1 : ∀ n, n ∈ l1.map (·.1) ∨ n ∈ l2.map (·.1) → n ∈ ks) (h2 : ∀ n, n ∈ l1.map (·.1) ∨ n ∈ l2.map (·.1) → n ∈ js) :
    chgOf (sortN ks) l1 l2 = chgOf (sortN js) l1 l2 := by
  unfold chgOf
  refine congrArg (List.map _) (pw_uniq ?_ (List.Pairwise.sublist List.filter_sublist (sortN_pw ks)) (List.Pairwise.sublist List.filter_sublist (sortN_pw js)))
  have a : ∀ n, (!decide (getL l1 n = getL l2 n)) = true → n ∈ l1.map (·.1) ∨ n ∈ l2.map (·.1) := fun n h => by
    by_cases c1 : n ∈ l1.map (·.1)
    · exact .inl c1
    · by_cases c2 : n ∈ l2.map (·.1)
      · exact .inr c2
      · rw [getL_none c1, getL_none c2] at h
        simp at h
  refine (List.perm_ext_iff_of_nodup (List.Nodup.sublist List.filter_sublist ((sortN_perm ks).nodup_iff.mpr n1)) (List.Nodup.sublist List.filter_sublist ((sortN_perm js).nodup_iff.mpr n2))).mpr fun n => ?_
  rw [List.mem_filter, List.mem_filter, (sortN_perm ks).mem_iff, (sortN_perm js).mem_iff]
  exact ⟨fun ⟨_, h⟩ => ⟨h2 n (a n h), h⟩, fun ⟨_, h⟩ => ⟨h1 n (a n h), h⟩⟩
def spChanges (K : PySem.W.Frag) : Sp := fun vs H Q _ => ∃ (b1 b2 : Addr) (l1 l2 : List (Str × Int)) (js : List Str), vs = [.ref b1, .ref b2] ∧ Rd H b1 (.dK (kvL V.int l1)) ∧ Rd H b2 (.dK (kvL V.int l2)) ∧ (l1.map (·.1)).Nodup ∧ (l2.map (·.1)).Nodup ∧ l1.length ≤ 20 ∧ l2.length ≤ 20 ∧
  js.Nodup ∧ (∀ n, n ∈ l1.map (·.1) ∨ n ∈ l2.map (·.1) → n ∈ js) ∧
  ∀ p H' us, H p = none → Same H H' → H' p = some (.lst us) → DpAll K H' us ((chgOf (sortN js) l1 l2).map chgDt) → Q (.ref p) H'
section
variable {P : Program} {w : World} {K : PySem.W.Frag} {mg : Str → Option Value} {base : Heap} {A : Adr}
theorem ok_changes (T : Txt K mg A) : FnOk P w K mg base CX0 1 A.changes A.changes_ ["before", "now"] (spChanges K) := by
  refine T.changes.F.ok sc_changes (fun vs H Q E h => ?_) (fun cdv Ar outer s H vs Q E hr h => ?_)
  · obtain ⟨b1, b2, l1, l2, js, rfl, _⟩ := h
    rfl
  · obtain ⟨b1, b2, l1, l2, js, rfl, r1, r2, n1, n2, g1, g2, nj, hj, k⟩ := h
    have hL := sizeLine_eq
    refine ⟨_, (pss_one (ps_ret (pe_lc (own := [("name", 2)]) (g := gName 2)  rfl sc_changes.nd (pi_list (pe_callB (call_sortedD rfl) (by rfl) T.n_sorted PyProof.Rows.boot_sorted (pa_cons (pe_merge2 (pv 0) (pv 1)) pa_nil))) (blkOk_by (N := N_changes) (sc := defScope s_changes) (by decide +kernel)) (fun _ _ _ _ _ => pg_name (i := 2) sc_changes.nd rfl (Or.inl rfl) (hf := Or.inr rfl)) (fun _ _ _ _ _ => (pts_one (pt_cmpR op_ne (pe_dget1 (hu_of hr) (pv 0) (pv 2) ⟨rfl, rfl, rfl, rfl⟩) (pe_dget1 (hu_of hr) (pv 1) (pv 2) ⟨rfl, rfl, rfl, rfl⟩) (nomark _)))) (fun _ _ _ _ _ => (pe_tup (pa_cons (pv 2) (pa_cons (pe_dget1 (hu_of hr) (pv 0) (pv 2) ⟨rfl, rfl, rfl, rfl⟩) (pa_cons (pe_dget1 (hu_of hr) (pv 1) (pv 2) ⟨rfl, rfl, rfl, rfl⟩) pa_nil)))))))), ?_⟩
    refine fun p hp => ?_
    have nb : ∀ b u, Rd H b u → b ≠ p := fun b u q e => by
      rcases q with q | ⟨o, q⟩ <;> (rw [e, hp] at q; cases q)
    have mv : ∀ o u b, Rd H b u → Rd (upd H p o) b u := fun o u b q => by
      have ne := nb b u q
      rcases q with q | ⟨o, q⟩
      · exact .inl ((upd_ne ne).trans q)
      · exact .inr ⟨o, (upd_ne ne).trans q⟩
    refine ⟨_, rfl, b1, kvL V.int l1, rfl, nb _ _ r1, mv _ _ _ r1, upd_same, by rw [kvL_len]; omega, ?_⟩
    have u2 : ∀ o o' b u, Rd H b u → Rd (upd (upd H p o) p o') b u := fun o o' b u q => by
      have ne := nb b u q
      rcases q with q | ⟨o, q⟩
      · exact .inl ((upd_ne ne).trans ((upd_ne ne).trans q))
      · exact .inr ⟨o, (upd_ne ne).trans ((upd_ne ne).trans q)⟩
    refine ⟨_, rfl, b2, kvL V.int l2, rfl, nb _ _ r2, u2 _ _ _ _ r2, upd_same, by rw [kvL_len, kvL_len]; omega, ?_⟩
    obtain ⟨ks0, k1, k2, k3⟩ := merge_keys (kvL V.int l1) [] [] rfl List.nodup_nil fun q hq => by
      obtain ⟨x, _, rfl⟩ := List.mem_map.mp hq
      exact ⟨_, rfl⟩
    obtain ⟨ks, m1, m2, m3⟩ := merge_keys (kvL V.int l2) (mergeK [] (kvL V.int l1)) ks0 k1 k2 fun q hq => by
      obtain ⟨x, _, rfl⟩ := List.mem_map.mp hq
      exact ⟨_, rfl⟩
    have hm := length_mergeK (kvL V.int l2) (mergeK [] (kvL V.int l1))
    have hm0 := length_mergeK (kvL V.int l1) []
    rw [kvL_len] at hm hm0
    rw [List.length_nil] at hm0
    have lk : ks.length ≤ 40 := by
      have e := congrArg List.length m1
      rw [List.length_map, List.length_map] at e
      omega
    have inn : ∀ n, n ∈ l1.map (·.1) ∨ n ∈ l2.map (·.1) → n ∈ ks := fun n h => by
      rw [m3, k3, kvL_keys, kvL_keys]
      rcases h with h | h
      · exact .inl (.inr (List.mem_map.mpr ⟨n, h, rfl⟩))
      · exact .inr (List.mem_map.mpr ⟨n, h, rfl⟩)
    generalize mergeK (mergeK [] (kvL V.int l1)) (kvL V.int l2) = kvm at m1 hm
    have s0 : Same H (upd (upd (upd H p (.dK [])) p (.dK (mergeK [] (kvL V.int l1)))) p (.dK kvm)) := fun b o e => by
      have ne := ne_of_none e hp
      rw [upd_ne ne, upd_ne ne, upd_ne ne]
      exact e
    have hp0 : upd (upd (upd H p (.dK [])) p (.dK (mergeK [] (kvL V.int l1)))) p (.dK kvm) p = some (.dK kvm) := upd_same
    generalize upd (upd (upd H p (.dK [])) p (.dK (mergeK [] (kvL V.int l1)))) p (.dK kvm) = H0 at s0 hp0
    refine ⟨p, kvm, ks, rfl, .inl hp0, m1, by omega, fun ys q pm so hq => ?_⟩
    have ey := sortN_eq pm so
    have s1 := same_put (o := .lst (ys.map V.str)) (Same.refl H0) hq
    have hq1 : upd H0 q (.lst (ys.map V.str)) q = some (.lst (ys.map V.str)) := upd_same
    generalize upd H0 q (.lst (ys.map V.str)) = H1 at s1 hq1
    have s01 := s0.trans s1
    have ly : ys.length ≤ 40 := by
      rw [pm.length_eq]
      exact lk
    refine ⟨q, rfl, ⟨_, SqL.of hq1⟩, fun D hD => ?_⟩
    refine lc_w walk_list [some (.ref b1), some (.ref b2), none] (fun i H' => Same H1 H' ∧ ∃ us, H' D = some (.lst us) ∧ DpAll K H' us ((chgOf (ys.take i) l1 l2).map chgDt)) ⟨same_put (Same.refl _) hD, [], upd_same, .nil⟩ (fun i H' _ z => SqL.of (z.1 _ _ hq1)) ?_ ?_
    · rintro i x H2 H3 hi ⟨s2, us, h2, d2⟩ ⟨rfl, hx⟩
      obtain ⟨n, hn, rfl⟩ := str_at hx
      have r1' := rd_same (s01.trans s2) r1
      have r2' := rd_same (s01.trans s2) r2
      have gd1 : DGet H3 b1 (.str n) ((getL l1 n).map V.int) := by
        have g := dget_rd (k := Sum.inr n) r1'
        rwa [val_kvL] at g
      have gd2 : DGet H3 b2 (.str n) ((getL l2 n).map V.int) := by
        have g := dget_rd (k := Sum.inr n) r2'
        rwa [val_kvL] at g
      have lu : us.length ≤ 40 := by
        have e := dps_len d2
        unfold chgOf at e
        rw [List.length_map, List.length_map] at e
        have q1 := List.length_filter_le (fun n => !decide (getL l1 n = getL l2 n)) (ys.take i)
        rw [List.length_take] at q1
        omega
      have es : chgOf (ys.take (i + 1)) l1 l2 = chgOf (ys.take i) l1 l2 ++ if (!decide (getL l1 n = getL l2 n)) = true then [(n, getL l1 n, getL l2 n)] else [] := by
        unfold chgOf
        rw [List.take_add_one, hn, List.filter_append, List.map_append]
        congr 1
        by_cases e : (!decide (getL l1 n = getL l2 n)) = true
        · rw [if_pos e]
          simp [List.filter_cons, e]
        · rw [if_neg e]
          simp [List.filter_cons, e]
      refine ⟨?_, ?_⟩
      · simp only [wipe, List.map, List.set_cons_succ, List.set_cons_zero]
      walk_at "z"
      refine ⟨_, rfl, b1, rfl, .inl ⟨_, r1'⟩, _, rfl, _, gd1, _, rfl, b2, rfl, .inl ⟨_, r2'⟩, _, rfl, _, gd2, ?_⟩
      rw [getD_oV, getD_oV]
      refine ne_oV ⟨_, rfl, ?_⟩
      refine ite2 (fun e => ?_) (fun e => ?_)
      · refine ⟨_, rfl, _, rfl, b1, rfl, .inl ⟨_, r1'⟩, _, rfl, _, gd1, _, rfl, b2, rfl, .inl ⟨_, r2'⟩, _, rfl, _, gd2, by show 3 ≤ sizeLine; decide, fun t ht => ?_⟩
        rw [getD_oV, getD_oV]
        have sl : Same H3 (upd H3 t (.tup [.str n, oV (getL l1 n), oV (getL l2 n)])) := same_put (Same.refl _) ht
        have h3 := sl _ _ h2
        have kt : KT K (upd H3 t (.tup [.str n, oV (getL l1 n), oV (getL l2 n)])) (upd (upd H3 t (.tup [.str n, oV (getL l1 n), oV (getL l2 n)])) D (.lst (us ++ [.ref t]))) := (Bt.refl.set (S := [D]) (by simp)).kt1 h3
        refine ⟨us, h3, by omega, same_put (s2.trans sl) hD, _, upd_same, ?_⟩
        rw [es, if_pos e, List.map_append]
        exact dps_snoc (dps_keep kt _ _ (tds_map chg_td _) (dps_same sl _ _ d2)) (.tup (kt _ _ (SqT.of upd_same)) (.cons (.str _) (.cons (dp_oV _) (.cons (dp_oV _) .nil))))
      · refine ⟨s2, us, h2, ?_⟩
        rw [es, if_neg e, List.append_nil]
        exact d2
    · rintro H2 ⟨s2, us, h2, d2⟩
      rw [List.length_map, List.take_length, ey, chg_names m2 nj inn hj] at d2
      exact k D H2 us (s01.free hD) (s01.trans s2) h2 d2
end
end Mh
namespace Mh
open PySem L2
local macro_rules | `(tactic| walk_at "z") => `(tactic| simp only [List.set_cons_succ, List.set_cons_zero])
local macro_rules | `(tactic| walk_at "w") => `(tactic| simp only [wipe, List.map, List.set_cons_succ, List.set_cons_zero])
def rowsU (st : LHall) : List RRow := (meansL st).map fun x => (rankI (meansL st) x.2, x.1, x.2)
/-- the ranks as they are told -/
def rowsL (st : LHall) : List RRow := sortR (rowsU st)
theorem rowsU_keys {st : LHall} (h : StOk st) : ((rowsU st).map rkey).Nodup := by
  have nd := meansL_nd h
  unfold rowsU
  rw [List.map_map]
  refine List.Pairwise.of_map (S := fun x y : Str => x ≠ y) (fun k : Int × Str => k.2) (fun _ _ hne e => hne (congrArg (fun k : Int × Str => k.2) e)) ?_
  rw [List.map_map]
  exact nd
theorem rkey_inj {l : List RRow} (h : (l.map rkey).Nodup) : ∀ x ∈ l, ∀ y ∈ l, rkey x = rkey y → x = y := by
  induction l with
  | nil => intro x hx; cases hx
  | cons u us ih =>
    rw [List.map_cons, List.nodup_cons] at h
    intro x hx y hy q
    rcases List.mem_cons.mp hx with ex | hx
    · rcases List.mem_cons.mp hy with ey | hy
      · rw [ex, ey]
      · exact absurd (List.mem_map.mpr ⟨y, hy, by rw [← q, ex]⟩) h.1
    · rcases List.mem_cons.mp hy with ey | hy
      · exact absurd (List.mem_map.mpr ⟨x, hx, by rw [q, ey]⟩) h.1
      · exact ih h.2 x hx y hy q
theorem meanI_bound {st : LHall} (h : StOk st) {n : Str} (r : isRanked st n = true) : 0 ≤ meanI st n ∧ meanI st n ≤ 172800 := by
  have b := br_ok h r
  have q := sum_bound (l := (brL st n st.tasks).map wtd) (b := 43200) fun x hx => by
    obtain ⟨y, hy, rfl⟩ := List.mem_map.mp hx
    obtain ⟨o1, o2, o3, o4, o5⟩ := b y hy
    obtain ⟨s0, s1⟩ := sum_bound (l := y.2.map (·.1)) (b := 16) fun z hz => by
      obtain ⟨w, hw, rfl⟩ := List.mem_map.mp hz
      exact o5 w hw
    rw [List.length_map] at s1
    unfold wtd
    generalize (y.2.map (·.1)).sum = s at *
    have d0 : (0 : Int) ≤ 60 / (y.2.length : Int) := Int.ediv_nonneg (by decide) (by omega)
    have d1 : (60 : Int) / (y.2.length : Int) ≤ 60 := Int.ediv_le_self _ (by decide)
    generalize (60 : Int) / (y.2.length : Int) = t at *
    have s80 : s ≤ 80 := by omega
    have p0 : 0 ≤ y.1 * s := Int.mul_nonneg (by omega) s0
    have p1 : y.1 * s ≤ 9 * 80 := Int.mul_le_mul o2 s80 s0 (by decide)
    exact ⟨Int.mul_nonneg p0 d0, Int.le_trans (Int.mul_le_mul p1 d1 d0 (by decide)) (by decide)⟩
  unfold brL at q
  rw [List.length_map, List.length_map] at q
  have := h.fewT
  unfold meanI brL
  omega
theorem meansL_mem {st : LHall} {n : Str} {m : Int} (h : (n, m) ∈ meansL st) : isRanked st n = true ∧ m = meanI st n := by
  unfold meansL rankedL at h
  obtain ⟨x, hx, e⟩ := List.mem_map.mp h
  injection e with e1 e2
  subst e1
  exact ⟨(List.mem_filter.mp hx).2, e2.symm⟩
def spRanks (K : PySem.W.Frag) (C : Addr) : Sp := fun vs H Q _ => ∃ (a : PAd) (st : LHall) (kt kv : List (Key × V)), vs = [.ref a.h] ∧ HCore K C H a st ∧ H a.T = some (.dK kt) ∧ H a.R = some (.dK kv) ∧ StOk st ∧
  ∀ p H' us, H p = none → Same H H' → H' p = some (.lst us) → Paired (RowAt K H') us (rowsL st) → Q (.ref p) H'
theorem getL_ranks {l : List (Str × Int)} {i : Nat} {n : Str} {m : Int} (nd : (l.map (·.1)).Nodup) (h : l[i]? = some (n, m)) : valV (kvL V.int (ranksOf l)) (Sum.inr n) = some (.int (rankI l m)) := by
  refine val_at (i := i) ?_ ?_
  · rw [kvL_keys, ranksOf_keys]
    exact nd_inr nd
  · unfold kvL ranksOf
    rw [List.getElem?_map, List.getElem?_map, h]
    rfl
section
variable {P : Program} {w : World} {K : PySem.W.Frag} {mg : Str → Option Value} {base : Heap} {A : Adr}
theorem ok_smallest (T : Txt K mg A) : FnOk P w K mg base CX0 1 A.smallest A.smallest_ ["over", "under"] (spSmall K) := by
  refine T.smallest.F.ok sc_smallest (fun vs H Q E h => ?_) (fun cdv Ar outer s H vs Q E hr h => ?_)
  · obtain ⟨a, b, rfl, _⟩ := h
    rfl
  · obtain ⟨a, b, rfl, b0, ab, bb, k⟩ := h
    refine ⟨_, (pss_cons (ps_set (i := 2) sc_smallest.nd rfl (Or.inl rfl) (pe_callBfun cr_gcd (by rfl) T.m_gcd (pa_cons (pv 0) (pa_cons (pv 1) pa_nil))))
    (pss_one (ps_ret (pe_tup (pa_cons (pe_op op_fdivW (pv 0) (pv 2)) (pa_cons (pe_op op_fdivW (pv 1) (pv 2)) pa_nil)))))), ?_⟩
    have g0 : 0 < Nat.gcd a b := Nat.gcd_pos_of_pos_right a b0
    have g1 : Nat.gcd a b ≤ b := Nat.gcd_le_right a b0
    refine ⟨_, rfl, _, rfl, (a : Int), (b : Int), rfl, ?_⟩
    rw [Int.natAbs_natCast, Int.natAbs_natCast]
    have gl : Nat.gcd a b < 2 ^ 200 := Nat.lt_of_le_of_lt g1 bb
    refine ⟨_, rfl, _, rfl, _, _, rfl, rfl, cdw g0 gl, _, rfl, _, rfl, _, _, rfl, rfl, cdw g0 gl, by show 2 ≤ sizeLine; decide, fun p hp => ?_⟩
    refine k p _ hp (same_put (Same.refl H) hp) ?_
    rw [upd_same, Int.natCast_ediv, Int.natCast_ediv]
theorem ok_Hall_ranks (T : Txt K mg A) : FnOk P w K mg base CX0 5 A.Hall_ranks A.Hall_ranks_ ["self"] (spRanks K A.Hall) := by
  refine T.Hall_ranks.F.ok sc_Hall_ranks (fun vs H Q E h => ?_) (fun cdv Ar outer s H vs Q E hr h => ?_)
  · obtain ⟨a, st, kt, kv, rfl, _⟩ := h
    rfl
  · obtain ⟨a, st, kt, kv, rfl, hc, hT, hR, ok, k⟩ := h
    have hL := sizeLine_eq
    refine ⟨_, (pss_cons (ps_set (i := 1) sc_Hall_ranks.nd rfl (Or.inr rfl) (pe_meth0 (pv 0) T.cl_Hall T.Hall_means.m (ok_Hall_means T) (hr.mono (by decide)) T.Hall_means.b .nil pass0))
    (pss_cons (ps_set (i := 2) sc_Hall_ranks.nd rfl (Or.inr rfl) (pe_call (ok_ranks_by T) (hr.mono (by decide)) (by rfl) T.ranks_by.n T.ranks_by.F.kp T.ranks_by.b .nil pass0 (pa_cons (pv 1) pa_nil)))
    (pss_one (ps_ret (pe_callB cr_sortedRow (by rfl) T.n_sorted PyProof.Rows.boot_sorted (pa_cons (pe_lock (pe_lc (own := [("name", 3)]) (g := gName 3) (tt := tYes) rfl sc_Hall_ranks.nd (pi_keys (pv 1)) (blkOk_by (N := N_Hall_ranks) (sc := defScope s_Hall_ranks) (by decide +kernel)) (fun _ _ _ _ _ => pg_name (i := 3) sc_Hall_ranks.nd rfl (Or.inl rfl) (hf := Or.inr rfl)) (fun _ _ _ _ _ => pts_nil) (fun _ _ _ _ _ => (pe_tup (pa_cons (pe_dget (hu_of hr) (pv 2) (pv 3) (fun _ _ => rfl)) (pa_cons (pv 3) (pa_cons (pe_call (ok_smallest T) (hr.mono (by decide)) (by rfl) T.smallest.n T.smallest.F.kp T.smallest.b .nil pass0 (pa_cons (pe_dget (hu_of hr) (pv 1) (pv 3) (fun _ _ => rfl)) (pa_cons (pe_gv (by rfl) T.c_SIXTIETHS) pa_nil))) pa_nil))))))) pa_nil)))))), ?_⟩
    refine ⟨_, rfl, a.h, _, _, rfl, hc.ob, f_no (by decide +kernel), a, st, kt, kv, rfl, hc, hT, hR, ok, fun p H1 hp s1 h1 => ?_⟩
    have nd := meansL_nd ok
    have lm := meansL_len ok
    refine ⟨_, rfl, p, meansL st, rfl, h1, nd, by omega, fun q H2 hq s2 h2 => ?_⟩
    have hp2 := s2 _ _ h1
    have npq : p ≠ q := fun z => by
      rw [z, hq] at h1
      cases h1
    refine ⟨p, _, hp2, trivial, fun od => ?_⟩
    have hpL : upd H2 p (.frz od (.dK (kvL V.int (meansL st)))) p = some (.frz od (.dK (kvL V.int (meansL st)))) := upd_same
    have hqL := (upd_ne (o := .frz od (.dK (kvL V.int (meansL st)))) npq.symm).trans h2
    refine ⟨_, rfl, p, od, rfl, .inl ⟨_, hpL, fun D hD => ?_⟩⟩
    have npD : p ≠ D := ne_of_none hpL hD
    refine lc_w walk_keys [some (.ref a.h), some (.ref p), some (.ref q), none] (fun i H' => Same (upd H2 p (.frz od (.dK (kvL V.int (meansL st))))) H' ∧ ∃ us, H' D = some (.lst us) ∧ Paired (RowAt K (del H' D)) us ((rowsU st).take i)) ⟨same_put (Same.refl _) hD, [], upd_same, .nil⟩ (fun i H' _ z => z.1 _ _ hpL) ?_ ?_
    · rintro i x H3' H3 hi ⟨s3, us, h3, d3⟩ ⟨rfl, kx, vx, hkv, rfl⟩
      obtain ⟨n, m, hn, rfl, rfl⟩ := kvL_at hkv
      obtain ⟨rk, em⟩ := meansL_mem (List.mem_of_getElem? hn)
      obtain ⟨b0, b1⟩ := meanI_bound ok rk
      rw [← em] at b0 b1
      have lu : us.length ≤ 6 := by
        have e := paired_len d3
        unfold rowsU at e
        rw [List.length_take, List.length_map] at e
        omega
      have gq : DGet H3 q (.str n) (some (.int (rankI (meansL st) m))) := by
        have g := dget_rd (k := Sum.inr n) (Or.inl (s3 _ _ hqL) : Rd H3 q (.dK (kvL V.int (ranksOf (meansL st)))))
        rwa [getL_ranks nd hn] at g
      have gp : DGet H3 p (.str n) (some (.int m)) := by
        have g := dget_rd (k := Sum.inr n) (Or.inr ⟨od, s3 _ _ hpL⟩ : Rd H3 p (.dK (kvL V.int (meansL st))))
        have vp : valV (kvL V.int (meansL st)) (Sum.inr n) = some (.int m) := val_at (by rw [kvL_keys]; exact nd_inr nd) hkv
        rwa [vp] at g
      refine ⟨?_, ?_⟩
      · simp only [wipe, List.map, List.set_cons_succ, List.set_cons_zero]
      walk_at "z"
      refine yes_ ?_
      refine iteT ?_
      refine ⟨_, rfl, _, rfl, q, _, rfl, gq, _, rfl, _, rfl, _, rfl, p, _, rfl, gp, m.toNat, 60, ?_, by decide, by omega, by decide, fun y H4 hy s4 h4 => ?_⟩
      · rw [Int.toNat_of_nonneg b0]
        rfl
      refine ⟨by show 3 ≤ sizeLine; decide, fun t ht => ?_⟩
      have sl : Same H4 (upd H4 t (.tup [.int (rankI (meansL st) m), kV (Sum.inr n), .ref y])) := same_put (Same.refl _) ht
      have ht5 : upd H4 t (.tup [.int (rankI (meansL st) m), kV (Sum.inr n), .ref y]) t = some (.tup [.int (rankI (meansL st) m), kV (Sum.inr n), .ref y]) := upd_same
      generalize upd H4 t (.tup [.int (rankI (meansL st) m), kV (Sum.inr n), .ref y]) = H5 at sl ht5
      have h5 := sl _ _ (s4 _ _ h3)
      have nyD : y ≠ D := fun z => by
        rw [z, h3] at hy
        cases hy
      have ntD : t ≠ D := fun z => by
        rw [z, h5] at ht5
        cases ht5
      refine ⟨us, h5, by omega, same_put (s3.trans (s4.trans sl)) hD, us ++ [.ref t], upd_same, ?_⟩
      rw [del_upd]
      have hu : (rowsU st)[i]? = some (rankI (meansL st) m, n, m) := by
        unfold rowsU
        rw [List.getElem?_map, hn]
        rfl
      rw [List.take_add_one, hu]
      refine paired_snoc (paired_imp (fun x r z => z.same (del_mono (s4.trans sl))) d3) ?_
      exact ⟨t, y, rfl, (del_ne ntD).trans ht5, SqT.of ((del_ne nyD).trans (sl _ _ h4))⟩
    · rintro H3 ⟨s3, us, h3, d3⟩
      have el : (kvL V.int (meansL st)).length = (rowsU st).length := by
        unfold rowsU
        rw [kvL_len, List.length_map]
      rw [el, List.take_length] at d3
      refine ⟨s3 _ _ hpL, ?_⟩
      have su := same_unlock hp2 s3
      have h4 := (upd_ne (o := .dK (kvL V.int (meansL st))) npD.symm).trans h3
      have d4 : Paired (RowAt K (upd H3 p (.dK (kvL V.int (meansL st))))) us (rowsU st) := paired_imp (fun x r ⟨t, m, e, g1, g2⟩ => by
        have g1' := del_same H3 D _ _ g1
        refine ⟨t, m, e, (upd_ne fun z => ?_).trans g1', kt_unlock (s3 _ _ hpL) _ _ (KT.same (del_same H3 D) _ _ g2)⟩
        rw [z, s3 _ _ hpL] at g1'
        cases g1') d3
      generalize upd H3 p (.dK (kvL V.int (meansL st))) = H4 at su h4 d4
      have kn := rowsU_keys ok
      obtain ⟨q1, q2⟩ := rows_sorts d4 kn
      refine ⟨D, us, kH H4, rfl, SqL.of h4, q1, q2, fun ys z pw pm hz => ?_⟩
      have sz := same_put (o := .lst ys) (Same.refl H4) hz
      have s14 := s1.trans (s2.trans su)
      exact k z _ ys (s14.free hz) (s14.trans sz) upd_same (sort_rows d4 (rkey_inj kn) pm pw sz)
end
end Mh
namespace Mh
open PySem L2
local macro_rules | `(tactic| walk_at "z") => `(tactic| simp only [List.set_cons_succ, List.set_cons_zero])
local macro_rules | `(tactic| walk_at "w") => `(tactic| simp only [wipe, List.map, List.set_cons_succ, List.set_cons_zero])
/-! names -/
structure NameOk (n : Str) : Prop where
  ok : PyData.strOk n = true
  l1 : 1 ≤ n.length
  l6 : n.length ≤ 6
  az : ∀ (i c : Nat), n.cps[i]? = some c → 97 ≤ c ∧ c ≤ 122
def nameB (n : Str) : Bool := PyData.strOk n && decide (1 ≤ n.length) && decide (n.length ≤ 6) && n.cps.toList.all fun c => decide (97 ≤ c) && decide (c ≤ 122)
theorem NameOk.of {n : Str} (h : nameB n = true) : NameOk n := by
  unfold nameB at h
  rw [Bool.and_eq_true, Bool.and_eq_true, Bool.and_eq_true, List.all_eq_true] at h
  obtain ⟨⟨⟨h1, h2⟩, h3⟩, h4⟩ := h
  refine ⟨h1, of_decide_eq_true h2, of_decide_eq_true h3, fun i c e => ?_⟩
  have m : c ∈ n.cps.toList := Array.mem_toList_iff.mpr (Array.mem_of_getElem? e)
  have q := h4 c m
  rw [Bool.and_eq_true] at q
  exact ⟨of_decide_eq_true q.1, of_decide_eq_true q.2⟩
theorem lt_one {a b : Nat} : decide ([a] < [b]) = decide (a < b) := by
  rw [decide_eq_decide]
  constructor
  · intro h
    cases h with
    | rel h => exact h
    | cons h => cases h
  · intro h
    exact List.Lex.rel h
theorem putF_ne {f g : Str} {v y : V} {r : List (Str × V)} (h : ¬ g = f) : putF f y ((g, v) :: r) = (g, v) :: putF f y r := by
  rw [putF, if_neg h]
def spName : Sp := fun vs H Q _ => ∃ n : Str, vs = [.str n] ∧ NameOk n ∧ ∀ H', Same H H' → Q .non H'
def spIsTold (K : PySem.W.Frag) : Sp := fun vs H Q _ => ∃ (n : Str) (p : Addr) (kv : List (Key × V)), vs = [.str n, .ref p] ∧ Rd H p (.dK kv) ∧ Q (.bl (valV kv (kk n)).isSome) H
/-- the parts of a hall that a run asks for -/
structure HTG (K : PySem.W.Frag) (C : Addr) (H : Hp) (a : PAd) (n : Nat) (ts : List (Str × Task)) (gs : List (Str × Mach)) : Prop where
  ob : H a.h = some (.ins C a.dx (hflds a n a.dl))
  tasks : DictAt K H a.T (ts.map fun z => (z.1, z.2.dt))
  machines : DictAt K H a.G (gs.map fun z => (z.1, machDt z.2))
theorem HCore.htg {K : PySem.W.Frag} {C : Addr} {H : Hp} {a : PAd} {st : LHall} (h : HCore K C H a st) : HTG K C H a st.runs.length st.tasks st.machines := ⟨h.ob, h.tasks, h.machines⟩
theorem HTG.same {K : PySem.W.Frag} {C : Addr} {H H' : Hp} {a : PAd} {n : Nat} {ts : List (Str × Task)} {gs : List (Str × Mach)} (h : HTG K C H a n ts gs) (s : Same H H') : HTG K C H' a n ts gs := ⟨s _ _ h.ob, h.tasks.same s, h.machines.same s⟩
theorem rd_upd {H : Hp} {a d : Addr} {kv kv2 : List (Key × V)} (ne : a ≠ d) (h : Rd H a (.dK kv)) {o : HO} : Rd (upd H d o) a (.dK kv) := by
  rcases h with h | ⟨o, h⟩
  · exact .inl ((upd_ne ne).trans h)
  · exact .inr ⟨o, (upd_ne ne).trans h⟩
/-- a dict changes that is none of these -/
theorem HTG.put {K : PySem.W.Frag} {C : Addr} {H : Hp} {a : PAd} {n : Nat} {ts : List (Str × Task)} {gs : List (Str × Mach)} {d : Addr} {kv kv2 : List (Key × V)} (h : HTG K C H a n ts gs) (hd : H d = some (.dK kv)) (n1 : a.T ≠ d) (n2 : a.G ≠ d) : HTG K C (upd H d (.dK kv2)) a n ts gs := by
  obtain ⟨h1, ⟨k1, a1, b1, c1⟩, ⟨k2, a2, b2, c2⟩⟩ := h
  have k := KTL.put (K := K) (kv2 := kv2) hd
  exact ⟨(upd_ne fun z => by rw [z, hd] at h1; cases h1).trans h1, ⟨k1, rd_upd (kv2 := kv2) n1 a1, b1, dps_ktl k _ _ c1⟩, ⟨k2, rd_upd (kv2 := kv2) n2 a2, b2, dps_ktl k _ _ c2⟩⟩
theorem DictAt.at_ {K : PySem.W.Frag} {H : Hp} {a : Addr} {α : Type} {f : α → PyData} {l : List (Str × α)} {n : Str} {x : α} (h : DictAt K H a (l.map fun z => (z.1, f z.2))) (e : getL l n = some x) : ∃ v, DGet H a (.str n) (some v) ∧ Dp K H v (f x) :=
  h.get (n := n) (d := f x) (by rw [getL_map, e]; rfl)
def spCheckTold (K : PySem.W.Frag) (C : Addr) : Sp := fun vs H Q _ => ∃ (a : PAd) (k : Nat) (ts : List (Str × Task)) (gs : List (Str × Mach)) (n : Str) (m : Mach), vs = [.ref a.h, .str n] ∧ HTG K C H a k ts gs ∧ getL gs n = some m ∧ Q .non H
def spComeTo (K : PySem.W.Frag) (C : Addr) : Sp := fun vs H Q _ => ∃ (a : PAd) (k : Nat) (ts : List (Str × Task)) (gs : List (Str × Mach)) (n g : Str) (s : Int) (m : Mach) (t : Task), vs = [.ref a.h, .str n, .str g, .int s] ∧ HTG K C H a k ts gs ∧ getL gs n = some m ∧ getL ts g = some t ∧ MachOk m ∧ t.Ok ∧
  ∀ H', Same H H' → Q (.int (rightL m s t.qs).length) H'
/-- a new hall -/
def spInit (C : Addr) : Sp := fun vs H Q _ => ∃ (p dx : Addr), vs = [.ref p] ∧ H p = some (.ins C dx []) ∧ ∀ (a : PAd) (H' : Hp), a.h = p → a.dx = dx → H a.T = none → H a.G = none → H a.R = none → H a.P = none → H a.D = none → [a.T, a.G, a.R, a.P, a.D].Nodup →
  (H' p = some (.ins C dx (hflds a 0 false)) ∧ a.dl = false) → H' a.T = some (.dK []) → H' a.G = some (.dK []) → H' a.R = some (.dK []) → H' a.P = some (.lst []) → H' a.D = some (.lst []) → (∀ b o, H b = some o → b ≠ p → H' b = some o) → Q .non H'
section
variable {P : Program} {w : World} {K : PySem.W.Frag} {mg : Str → Option Value} {base : Heap} {A : Adr}
theorem ok_check_name (T : Txt K mg A) : FnOk P w K mg base CX0 1 A.check_name A.check_name_ ["name"] spName := by
  refine T.check_name.F.ok sc_check_name (fun vs H Q E h => ?_) (fun cdv Ar outer s H vs Q E hr h => ?_)
  · obtain ⟨n, rfl, _⟩ := h
    rfl
  · obtain ⟨n, rfl, ⟨ok, l1, l6, az⟩, k⟩ := h
    have hL := sizeLine_eq
    refine ⟨_, (pss_cons (ps_if (PW.pt (pw_or (pt_not (pt_val (pe_callB call_isi (by rfl) T.n_isinstance PyProof.Rows.boot_isinstance (pa_cons (pv 0) (pa_cons (pe_bltn (v := .ty "str") (by rfl) T.n_str (by decide +kernel) rfl) pa_nil))))) (pw_or1 (pt_not (pt_chain op_le op_le pe_int (pe_callB call_len_str (by rfl) T.n_len PySem.boot_len (pa_cons (pv 0) pa_nil)) (pe_gv (by rfl) T.c_MOST_LETTERS))))))
    (pss_one ps_never)
    pss_nil)
    (pss_one (ps_if (pt_not (pt_val (pe_callB (cr_all rfl) (by rfl) T.n_all PyProof.Rows.boot_all (pa_cons (pe_lc (own := [("letter", 1)]) (g := gName 1) (tt := tYes) rfl sc_check_name.nd (pi_str (pv 0)) (blkOk_by (N := N_check_name) (sc := defScope s_check_name) (by decide +kernel)) (fun _ _ _ _ _ => pg_name (i := 1) sc_check_name.nd rfl (Or.inl rfl) (hf := Or.inr rfl)) (fun _ _ _ _ _ => pts_nil) (fun _ _ _ _ _ => (pe_chain op_le_str op_le_str pe_str (pv 1) pe_str))) pa_nil))))
    (pss_one ps_never)
    pss_nil))), ?_⟩
    refine ⟨_, rfl, _, _, .type "str", _, true, rfl, .ty _, .base (.str n), kit_ty (by decide +kernel), _, rfl, ?_⟩
    refine iteF ?_
    refine ⟨_, rfl, _, rfl, by omega, _, _, rfl, rfl, _, rfl, ?_⟩
    refine ifp (decide_eq_true (by omega)) ?_
    refine ⟨_, _, rfl, rfl, _, rfl, ?_⟩
    refine ifn (by rw [decide_eq_true (by omega)]; simp) ?_
    refine ⟨_, rfl, n, rfl, fun D hD => ?_⟩
    refine lc_w (walk_str (z := n)) [some (.str n), none] (fun i H' => Same H H' ∧ H' D = some (.lst ((List.replicate i true).map V.bl))) ⟨same_put (Same.refl _) hD, upd_same⟩ (fun i H' _ z => trivial) ?_ ?_
    · rintro i x H1 H2 hi ⟨s1, h1⟩ ⟨rfl, c, hc, rfl⟩
      obtain ⟨c0, c1⟩ := az i c hc
      have li : i ≤ 6 := by
        have q : n.length = n.cps.size := rfl
        omega
      refine ⟨?_, ?_⟩
      · simp only [wipe, List.map, List.set_cons_succ, List.set_cons_zero]
      walk_at "z"
      refine yes_ ?_
      refine iteT ?_
      have e1 : (!decide (([c] : List Nat) < [97])) = true := by
        rw [lt_one, decide_eq_false (by omega)]
        rfl
      have e2 : (!decide (([122] : List Nat) < [c])) = true := by
        rw [lt_one, decide_eq_false (by omega)]
        rfl
      refine ⟨_, rfl, _, _, rfl, rfl, _, rfl, ?_⟩
      refine ifp e1 ?_
      refine ⟨_, _, rfl, rfl, _, h1, by rw [List.length_map, List.length_replicate]; omega, same_put s1 hD, ?_⟩
      rw [upd_same, List.replicate_succ', List.map_append]
      show some (HO.lst (_ ++ [V.bl (!decide (([122] : List Nat) < [c]))])) = _
      rw [e2]
      rfl
    · rintro H1 ⟨s1, h1⟩
      refine ⟨D, _, rfl, SqL.of h1, _, rfl, ?_⟩
      have ea : (List.replicate n.cps.size true).all id = true := by
        rw [List.all_eq_true]
        intro b hb
        rw [List.eq_of_mem_replicate hb]
        rfl
      refine ifn (by rw [ea]; simp) ?_
      exact k H1 s1
theorem ok_is_told (T : Txt K mg A) : FnOk P w K mg base CX0 1 A.is_told A.is_told_ ["name", "table"] (spIsTold K) := by
  refine T.is_told.F.ok sc_is_told (fun vs H Q E h => ?_) (fun cdv Ar outer s H vs Q E hr h => ?_)
  · obtain ⟨n, p, kv, rfl, _⟩ := h
    rfl
  · obtain ⟨n, p, kv, rfl, hp, k⟩ := h
    refine ⟨_, (pss_one (ps_ret (pe_and (pe_callB call_isi (by rfl) T.n_isinstance PyProof.Rows.boot_isinstance (pa_cons (pv 0) (pa_cons (pe_bltn (v := .ty "str") (by rfl) T.n_str (by decide +kernel) rfl) pa_nil))) (pe_one (pe_cmp (pc_din (hu_of hr) (pv 0) (pv 1))))))), ?_⟩
    refine ⟨_, rfl, _, _, .type "str", _, true, rfl, .ty _, .base (.str n), kit_ty (by decide +kernel), _, rfl, ?_⟩
    refine iteT ?_
    exact ⟨_, rfl, _, rfl, p, _, rfl, dget_rd (k := kk n) hp, k⟩
theorem ok_Hall_check_machine_told (T : Txt K mg A) : FnOk P w K mg base CX0 2 A.Hall_check_machine_told A.Hall_check_machine_told_ ["self", "name"] (spCheckTold K A.Hall) := by
  refine T.Hall_check_machine_told.F.ok sc_Hall_check_machine_told (fun vs H Q E h => ?_) (fun cdv Ar outer s H vs Q E hr h => ?_)
  · obtain ⟨a, k, ts, gs, n, m, rfl, _⟩ := h
    rfl
  · obtain ⟨a, k0, ts, gs, n, m, rfl, hc, hn, k⟩ := h
    obtain ⟨kv, g1, g2, g3⟩ := hc.machines
    refine ⟨_, (pss_one (ps_if (pt_not (pt_val (pe_call (ok_is_told T) (hr.mono (by decide)) (by rfl) T.is_told.n T.is_told.F.kp T.is_told.b .nil pass0 (pa_cons (pv 1) (pa_cons (pe_fld (pv 0) rfl) pa_nil)))))
    (pss_one ps_never)
    pss_nil)), ?_⟩
    refine ⟨_, rfl, _, rfl, a.h, _, _, _, _, rfl, hc.ob, T.cl_Hall, T.nf_machines, f_machines, n, a.G, kv, rfl, g1, _, rfl, ?_⟩
    obtain ⟨v, e, _⟩ := val_get g2 g3 (n := n) (d := machDt m) (by rw [getL_map, hn]; rfl)
    rw [e]
    exact iteF k
theorem ok_Hall_come_to (T : Txt K mg A) : FnOk P w K mg base CX0 5 A.Hall_come_to A.Hall_come_to_ ["self", "machine", "task", "seed"] (spComeTo K A.Hall) := by
  refine T.Hall_come_to.F.ok sc_Hall_come_to (fun vs H Q E h => ?_) (fun cdv Ar outer s H vs Q E hr h => ?_)
  · obtain ⟨a, k, ts, gs, n, g, s, m, t, rfl, _⟩ := h
    rfl
  · obtain ⟨a, k0, ts, gs, n, g, s, m, t, rfl, hc, hn, hg, om, ot, k⟩ := h
    obtain ⟨v, g1, d1⟩ := hc.machines.at_ hn
    obtain ⟨u, g2, d2⟩ := hc.tasks.at_ (f := Task.dt) hg
    refine ⟨_, (pss_one (ps_ret (pe_call (ok_count_right T) (hr.mono (by decide)) (by rfl) T.count_right.n T.count_right.F.kp T.count_right.b .nil pass0 (pa_cons (pe_dget (hu_of hr) (pe_fld (pv 0) rfl) (pv 1) (fun _ _ => rfl)) (pa_cons (pe_dget (hu_of hr) (pe_fld (pv 0) rfl) (pv 2) (fun _ _ => rfl)) (pa_cons (pv 3) pa_nil)))))), ?_⟩
    refine ⟨_, rfl, a.h, _, _, _, _, rfl, hc.ob, T.cl_Hall, T.nf_machines, f_machines, _, rfl, a.G, v, rfl, g1, ?_⟩
    refine ⟨_, rfl, a.h, _, _, _, _, rfl, hc.ob, T.cl_Hall, T.nf_tasks, f_tasks, _, rfl, a.T, u, rfl, g2, _, rfl, ?_⟩
    exact ⟨v, u, m, t, s, rfl, d1, d2, om, ot, k⟩
theorem ok_Hall___init__ (T : Txt K mg A) : FnOk P w K mg base CX0 1 A.Hall___init__ A.Hall___init___ ["self"] (spInit A.Hall) := by
  refine T.Hall___init__.F.ok sc_Hall___init__ (fun vs H Q E h => ?_) (fun cdv Ar outer s H vs Q E hr h => ?_)
  · obtain ⟨p, dx, rfl, _⟩ := h
    rfl
  · obtain ⟨p, dx, rfl, hp, k⟩ := h
    refine ⟨_, (pss_cons (ps_fld (pv 0) pe_dnewK rfl)
    (pss_cons (ps_fld (pv 0) pe_dnewK rfl)
    (pss_cons (ps_fld (pv 0) pe_dnewK rfl)
    (pss_cons (ps_fld (pv 0) pe_int rfl)
    (pss_cons (ps_fld (pv 0) (pe_lst pa_nil) rfl)
    (pss_cons (ps_fld (pv 0) (pe_lst pa_nil) rfl)
    (pss_one (ps_fld (pv 0) pe_bl rfl)))))))), ?_⟩
    have few : ∀ (l : List (Str × V)), l.length ≤ 7 → l.length < 1000 := fun l h => by omega
    refine fun t ht => ?_
    have n1 : p ≠ t := ne_of_none hp ht
    refine ⟨_, rfl, p, A.Hall, dx, [], rfl, (upd_ne n1).trans hp, T.cl_Hall, T.nf_tasks, few _ (Nat.zero_le _), fun g hg => ?_⟩
    have e1 : putF "tasks" (V.ref t) [] = [(("tasks" : Str), V.ref t)] := rfl
    rw [e1] at hg ⊢
    have hp1 : (upd (upd H t (.dK [])) p (.ins A.Hall dx [(("tasks" : Str), V.ref t)])) p = some (.ins A.Hall dx [(("tasks" : Str), V.ref t)]) := upd_same
    have ht1 : (upd (upd H t (.dK [])) p (.ins A.Hall dx [(("tasks" : Str), V.ref t)])) t = some (.dK []) := (upd_ne n1.symm).trans upd_same
    have k1 : ∀ b o, H b = some o → b ≠ p → (upd (upd H t (.dK [])) p (.ins A.Hall dx [(("tasks" : Str), V.ref t)])) b = some o := fun b o e nb => (upd_ne nb).trans ((upd_ne (ne_of_none e ht)).trans e)
    generalize upd (upd H t (.dK [])) p (.ins A.Hall dx [(("tasks" : Str), V.ref t)]) = H1 at hg hp1 ht1 k1
    have fresh : ∀ {H1 : Hp} {q : Addr}, H1 q = none → (∀ b o, H b = some o → b ≠ p → H1 b = some o) → q ≠ p → H q = none := fun {H1 q} e kk ne => by
      cases c : H q with
      | none => rfl
      | some o =>
        rw [kk q o c ne] at e
        cases e
    have n2 : p ≠ g := ne_of_none hp1 hg
    have n12 : t ≠ g := ne_of_none ht1 hg
    have gN := fresh hg k1 n2.symm
    refine ⟨_, rfl, p, A.Hall, dx, _, rfl, (upd_ne n2).trans hp1, T.cl_Hall, T.nf_machines, few _ (Nat.le_of_ble_eq_true rfl), fun r hr2 => ?_⟩
    have e2 : putF "machines" (V.ref g) [(("tasks" : Str), V.ref t)] = [(("tasks" : Str), V.ref t), ("machines", V.ref g)] := by
      rw [putF_ne (by decide +kernel)]
      rfl
    rw [e2] at hr2 ⊢
    have hp2 : (upd (upd H1 g (.dK [])) p (.ins A.Hall dx [(("tasks" : Str), V.ref t), ("machines", V.ref g)])) p = some (.ins A.Hall dx [(("tasks" : Str), V.ref t), ("machines", V.ref g)]) := upd_same
    have ht2 : (upd (upd H1 g (.dK [])) p (.ins A.Hall dx [(("tasks" : Str), V.ref t), ("machines", V.ref g)])) t = some (.dK []) := (upd_ne n1.symm).trans ((upd_ne n12).trans ht1)
    have hg2 : (upd (upd H1 g (.dK [])) p (.ins A.Hall dx [(("tasks" : Str), V.ref t), ("machines", V.ref g)])) g = some (.dK []) := (upd_ne n2.symm).trans upd_same
    have k2 : ∀ b o, H b = some o → b ≠ p → (upd (upd H1 g (.dK [])) p (.ins A.Hall dx [(("tasks" : Str), V.ref t), ("machines", V.ref g)])) b = some o := fun b o e nb => (upd_ne nb).trans ((upd_ne (ne_of_none (k1 b o e nb) hg)).trans (k1 b o e nb))
    generalize upd (upd H1 g (.dK [])) p (.ins A.Hall dx [(("tasks" : Str), V.ref t), ("machines", V.ref g)]) = H2 at hr2 hp2 ht2 hg2 k2
    have n3 : p ≠ r := ne_of_none hp2 hr2
    have n13 : t ≠ r := ne_of_none ht2 hr2
    have n23 : g ≠ r := ne_of_none hg2 hr2
    have rN := fresh hr2 k2 n3.symm
    refine ⟨_, rfl, p, A.Hall, dx, _, rfl, (upd_ne n3).trans hp2, T.cl_Hall, T.nf_runs, few _ (Nat.le_of_ble_eq_true rfl), ?_⟩
    have e3 : putF "runs" (V.ref r) [(("tasks" : Str), V.ref t), ("machines", V.ref g)] = [(("tasks" : Str), V.ref t), ("machines", V.ref g), ("runs", V.ref r)] := by
      rw [putF_ne (by decide +kernel), putF_ne (by decide +kernel)]
      rfl
    rw [e3]
    refine ⟨_, rfl, p, A.Hall, dx, _, rfl, upd_same, T.cl_Hall, T.nf_next_run, few _ (Nat.le_of_ble_eq_true rfl), ?_⟩
    have e4 : putF "next_run" (V.int 0) [(("tasks" : Str), V.ref t), ("machines", V.ref g), ("runs", V.ref r)] = [(("tasks" : Str), V.ref t), ("machines", V.ref g), ("runs", V.ref r), ("next_run", V.int 0)] := by
      rw [putF_ne (by decide +kernel), putF_ne (by decide +kernel), putF_ne (by decide +kernel)]
      rfl
    rw [e4]
    have hp3 : (upd (upd (upd H2 r (.dK [])) p (.ins A.Hall dx [(("tasks" : Str), V.ref t), ("machines", V.ref g), ("runs", V.ref r)])) p (.ins A.Hall dx [(("tasks" : Str), V.ref t), ("machines", V.ref g), ("runs", V.ref r), ("next_run", V.int 0)])) p = some (.ins A.Hall dx [(("tasks" : Str), V.ref t), ("machines", V.ref g), ("runs", V.ref r), ("next_run", V.int 0)]) := upd_same
    have z3 : ∀ b, b ≠ p → b ≠ r → (upd (upd (upd H2 r (.dK [])) p (.ins A.Hall dx [(("tasks" : Str), V.ref t), ("machines", V.ref g), ("runs", V.ref r)])) p (.ins A.Hall dx [(("tasks" : Str), V.ref t), ("machines", V.ref g), ("runs", V.ref r), ("next_run", V.int 0)])) b = H2 b := fun b a1 a2 => (upd_ne a1).trans ((upd_ne a1).trans (upd_ne a2))
    have hr3 : (upd (upd (upd H2 r (.dK [])) p (.ins A.Hall dx [(("tasks" : Str), V.ref t), ("machines", V.ref g), ("runs", V.ref r)])) p (.ins A.Hall dx [(("tasks" : Str), V.ref t), ("machines", V.ref g), ("runs", V.ref r), ("next_run", V.int 0)])) r = some (.dK []) := (upd_ne n3.symm).trans ((upd_ne n3.symm).trans upd_same)
    generalize upd (upd (upd H2 r (.dK [])) p (.ins A.Hall dx [(("tasks" : Str), V.ref t), ("machines", V.ref g), ("runs", V.ref r)])) p (.ins A.Hall dx [(("tasks" : Str), V.ref t), ("machines", V.ref g), ("runs", V.ref r), ("next_run", V.int 0)]) = H3 at hp3 hr3 z3
    have ht3 := (z3 t n1.symm n13).trans ht2
    have hg3 := (z3 g n2.symm n23).trans hg2
    have k3 : ∀ b o, H b = some o → b ≠ p → H3 b = some o := fun b o e nb => (z3 b nb (ne_of_none (k2 b o e nb) hr2)).trans (k2 b o e nb)
    refine ⟨Nat.zero_le _, fun q hq => ?_⟩
    have n4 : p ≠ q := ne_of_none hp3 hq
    have n14 : t ≠ q := ne_of_none ht3 hq
    have n24 : g ≠ q := ne_of_none hg3 hq
    have n34 : r ≠ q := ne_of_none hr3 hq
    have qN := fresh hq k3 n4.symm
    refine ⟨_, rfl, p, A.Hall, dx, _, rfl, (upd_ne n4).trans hp3, T.cl_Hall, T.nf_pages, few _ (Nat.le_of_ble_eq_true rfl), ?_⟩
    have e5 : putF "pages" (V.ref q) [(("tasks" : Str), V.ref t), ("machines", V.ref g), ("runs", V.ref r), ("next_run", V.int 0)] = [(("tasks" : Str), V.ref t), ("machines", V.ref g), ("runs", V.ref r), ("next_run", V.int 0), ("pages", V.ref q)] := by
      rw [putF_ne (by decide +kernel), putF_ne (by decide +kernel), putF_ne (by decide +kernel), putF_ne (by decide +kernel)]
      rfl
    rw [e5]
    have hp4 : (upd (upd H3 q (.lst [])) p (.ins A.Hall dx [(("tasks" : Str), V.ref t), ("machines", V.ref g), ("runs", V.ref r), ("next_run", V.int 0), ("pages", V.ref q)])) p = some (.ins A.Hall dx [(("tasks" : Str), V.ref t), ("machines", V.ref g), ("runs", V.ref r), ("next_run", V.int 0), ("pages", V.ref q)]) := upd_same
    have hq4 : (upd (upd H3 q (.lst [])) p (.ins A.Hall dx [(("tasks" : Str), V.ref t), ("machines", V.ref g), ("runs", V.ref r), ("next_run", V.int 0), ("pages", V.ref q)])) q = some (.lst []) := (upd_ne n4.symm).trans upd_same
    have z4 : ∀ b, b ≠ p → b ≠ q → (upd (upd H3 q (.lst [])) p (.ins A.Hall dx [(("tasks" : Str), V.ref t), ("machines", V.ref g), ("runs", V.ref r), ("next_run", V.int 0), ("pages", V.ref q)])) b = H3 b := fun b a1 a2 => (upd_ne a1).trans (upd_ne a2)
    generalize upd (upd H3 q (.lst [])) p (.ins A.Hall dx [(("tasks" : Str), V.ref t), ("machines", V.ref g), ("runs", V.ref r), ("next_run", V.int 0), ("pages", V.ref q)]) = H4 at hp4 hq4 z4
    have ht4 := (z4 t n1.symm n14).trans ht3
    have hg4 := (z4 g n2.symm n24).trans hg3
    have hr4 := (z4 r n3.symm n34).trans hr3
    have k4 : ∀ b o, H b = some o → b ≠ p → H4 b = some o := fun b o e nb => (z4 b nb (ne_of_none (k3 b o e nb) hq)).trans (k3 b o e nb)
    refine ⟨Nat.zero_le _, fun d hd => ?_⟩
    have n5 : p ≠ d := ne_of_none hp4 hd
    have n15 : t ≠ d := ne_of_none ht4 hd
    have n25 : g ≠ d := ne_of_none hg4 hd
    have n35 : r ≠ d := ne_of_none hr4 hd
    have n45 : q ≠ d := ne_of_none hq4 hd
    have dN := fresh hd k4 n5.symm
    refine ⟨_, rfl, p, A.Hall, dx, _, rfl, (upd_ne n5).trans hp4, T.cl_Hall, T.nf_done, few _ (Nat.le_of_ble_eq_true rfl), ?_⟩
    have e6 : putF "done" (V.ref d) [(("tasks" : Str), V.ref t), ("machines", V.ref g), ("runs", V.ref r), ("next_run", V.int 0), ("pages", V.ref q)] = [(("tasks" : Str), V.ref t), ("machines", V.ref g), ("runs", V.ref r), ("next_run", V.int 0), ("pages", V.ref q), ("done", V.ref d)] := by
      rw [putF_ne (by decide +kernel), putF_ne (by decide +kernel), putF_ne (by decide +kernel), putF_ne (by decide +kernel), putF_ne (by decide +kernel)]
      rfl
    rw [e6]
    refine ⟨_, rfl, p, A.Hall, dx, _, rfl, upd_same, T.cl_Hall, T.nf_dealing, few _ (Nat.le_of_ble_eq_true rfl), ?_⟩
    have e7 : putF "dealing" (V.bl false) [(("tasks" : Str), V.ref t), ("machines", V.ref g), ("runs", V.ref r), ("next_run", V.int 0), ("pages", V.ref q), ("done", V.ref d)] = hflds ⟨p, dx, t, g, r, q, d, false⟩ 0 false := by
      rw [putF_ne (by decide +kernel), putF_ne (by decide +kernel), putF_ne (by decide +kernel), putF_ne (by decide +kernel), putF_ne (by decide +kernel), putF_ne (by decide +kernel)]
      rfl
    rw [e7]
    have z5 : ∀ b, b ≠ p → b ≠ d → (upd (upd (upd H4 d (.lst [])) p (.ins A.Hall dx [(("tasks" : Str), V.ref t), ("machines", V.ref g), ("runs", V.ref r), ("next_run", V.int 0), ("pages", V.ref q), ("done", V.ref d)])) p (.ins A.Hall dx (hflds ⟨p, dx, t, g, r, q, d, false⟩ 0 false))) b = H4 b := fun b a1 a2 => (upd_ne a1).trans ((upd_ne a1).trans (upd_ne a2))
    refine k ⟨p, dx, t, g, r, q, d, false⟩ _ rfl rfl ht gN rN qN dN ?_ ⟨upd_same, rfl⟩ ((z5 t n1.symm n15).trans ht4) ((z5 g n2.symm n25).trans hg4) ((z5 r n3.symm n35).trans hr4) ((z5 q n4.symm n45).trans hq4) ((upd_ne n5.symm).trans ((upd_ne n5.symm).trans upd_same)) fun b o e nb => (z5 b nb (ne_of_none (k4 b o e nb) hd)).trans (k4 b o e nb)
    simp only [List.nodup_cons, List.mem_cons, List.not_mem_nil, or_false, not_or, List.nodup_nil, and_true, not_false_eq_true]
    exact ⟨⟨n12, n13, n14, n15⟩, ⟨n23, n24, n25⟩, ⟨n34, n35⟩, n45⟩
end
end Mh
namespace Mh
open PySem L2
local macro_rules | `(tactic| walk_at "z") => `(tactic| simp only [List.set_cons_succ, List.set_cons_zero])
local macro_rules | `(tactic| walk_at "w") => `(tactic| simp only [wipe, List.map, List.set_cons_succ, List.set_cons_zero])
/-! dicts of names changed -/
def putL {α : Type} (l : List (Str × α)) (n : Str) (x : α) : List (Str × α) := if (l.any fun z => decide (z.1 = n)) = true then l.map (fun z => if z.1 = n then (z.1, x) else z) else l ++ [(n, x)]
theorem any_iff {α : Type} {l : List (Str × α)} {n : Str} : (l.any fun z => decide (z.1 = n)) = true ↔ n ∈ l.map (·.1) := by
  rw [List.any_eq_true]
  constructor
  · rintro ⟨z, hz, e⟩
    exact List.mem_map.mpr ⟨z, hz, of_decide_eq_true e⟩
  · intro h
    obtain ⟨z, hz, e⟩ := List.mem_map.mp h
    exact ⟨z, hz, decide_eq_true e⟩
theorem putL_names {α : Type} (l : List (Str × α)) (n : Str) (x : α) : (putL l n x).map (·.1) = if n ∈ l.map (·.1) then l.map (·.1) else l.map (·.1) ++ [n] := by
  unfold putL
  by_cases h : n ∈ l.map (·.1)
  · rw [if_pos (any_iff.mpr h), if_pos h, List.map_map]
    refine List.map_congr_left fun z _ => ?_
    show (if z.1 = n then (z.1, x) else z).1 = z.1
    split <;> rfl
  · rw [if_neg fun z => h (any_iff.mp z), if_neg h, List.map_append]
    rfl
theorem putL_map {α β : Type} (f : α → β) (l : List (Str × α)) (n : Str) (x : α) : (putL l n x).map (fun z => (z.1, f z.2)) = putL (l.map fun z => (z.1, f z.2)) n (f x) := by
  unfold putL
  have e : ((l.map fun z => (z.1, f z.2)).any fun z => decide (z.1 = n)) = l.any fun z => decide (z.1 = n) := by
    rw [List.any_map]
    rfl
  rw [e]
  split
  · rw [List.map_map, List.map_map]
    refine List.map_congr_left fun z _ => ?_
    show ((if z.1 = n then (z.1, x) else z).1, f (if z.1 = n then (z.1, x) else z).2) = if z.1 = n then (z.1, f x) else (z.1, f z.2)
    split <;> rfl
  · rw [List.map_append]
    rfl
theorem putL_mem {α : Type} {l : List (Str × α)} {n : Str} {x : α} {z : Str × α} (h : z ∈ putL l n x) : z ∈ l ∨ z.2 = x := by
  unfold putL at h
  split at h
  · obtain ⟨y, hy, e⟩ := List.mem_map.mp h
    split at e
    · rw [← e]
      exact .inr rfl
    · rw [← e]
      exact .inl hy
  · rcases List.mem_append.mp h with h | h
    · exact .inl h
    · have e : z = (n, x) := by simpa using h
      rw [e]
      exact .inr rfl
theorem getL_put {α : Type} (l : List (Str × α)) (n m : Str) (x : α) : getL (putL l n x) m = if m = n then some x else getL l m := by
  unfold putL
  split
  · rename_i h
    rw [any_iff] at h
    unfold getL
    induction l with
    | nil => cases h
    | cons z l ih =>
      rw [List.map_cons, List.find?_cons, List.find?_cons]
      by_cases e : z.1 = n
      · rw [if_pos e]
        by_cases em : m = n
        · subst em
          rw [if_pos rfl]
          simp [e]
        · rw [if_neg em]
          have ne : ¬ z.1 = m := fun q => em (by rw [← q, e])
          simp only [ne, decide_false]
          by_cases hl : n ∈ l.map (·.1)
          · have ih := ih hl
            rw [if_neg em] at ih
            exact ih
          · have same : l.map (fun z => if z.1 = n then (z.1, x) else z) = l := by
              have q : l.map (fun z => if z.1 = n then (z.1, x) else z) = l.map id := List.map_congr_left fun y hy => by
                rw [if_neg fun q => hl (by rw [← q]; exact List.mem_map.mpr ⟨y, hy, rfl⟩)]
                rfl
              rw [q, List.map_id]
            rw [same]
      · rw [if_neg e]
        have hl : n ∈ l.map (·.1) := by
          rcases List.mem_cons.mp h with q | q
          · exact absurd q.symm e
          · exact q
        by_cases em : z.1 = m
        · have ne : ¬ m = n := fun q => e (em.trans q)
          rw [if_neg ne]
          simp [em]
        · simp only [em, decide_false]
          exact ih hl
  · rename_i h
    have h : n ∉ l.map (·.1) := fun z => h (any_iff.mpr z)
    unfold getL
    rw [List.find?_append]
    by_cases em : m = n
    · subst em
      rw [if_pos rfl]
      have no : l.find? (fun z => decide (z.1 = m)) = none := List.find?_eq_none.mpr fun z hz q => h (List.mem_map.mpr ⟨z, hz, of_decide_eq_true q⟩)
      rw [no]
      simp
    · rw [if_neg em]
      have ne : ¬ n = m := fun q => em q.symm
      simp [ne]
theorem dict_put {K : PySem.W.Frag} {H : Hp} {n : Str} {v : V} {d : PyData} {kv : List (Key × V)} {l : List (Str × PyData)} (h2 : kv.map (·.1) = l.map (fun z => kk z.1)) (h3 : DpAll K H (kv.map (·.2)) (l.map (·.2))) (hv : Dp K H v d) :
    (putK kv (kk n) v).map (·.1) = (putL l n d).map (fun z => kk z.1) ∧ DpAll K H ((putK kv (kk n) v).map (·.2)) ((putL l n d).map (·.2)) := by
  have any : (kv.any fun q => decide (q.1 = kk n)) = l.any fun z => decide (z.1 = n) := by
    have e : ∀ (kv : List (Key × V)) (l : List (Str × PyData)), kv.map (·.1) = l.map (fun z => kk z.1) → (kv.any fun q => decide (q.1 = kk n)) = l.any fun z => decide (z.1 = n) := fun kv => by
      induction kv with
      | nil => intro l h; cases l with | nil => rfl | cons _ _ => cases h
      | cons q kv ih =>
        intro l h
        cases l with
        | nil => cases h
        | cons z l =>
          rw [List.map_cons, List.map_cons] at h
          injection h with a b
          rw [List.any_cons, List.any_cons, ih l b, a]
          have e : decide (kk z.1 = kk n) = decide (z.1 = n) := by
            rw [decide_eq_decide]
            exact kk_inj
          rw [e]
    exact e kv l h2
  unfold putK putL
  rw [any]
  split
  · have e : ∀ (kv : List (Key × V)) (l : List (Str × PyData)), kv.map (·.1) = l.map (fun z => kk z.1) → DpAll K H (kv.map (·.2)) (l.map (·.2)) →
        (kv.map (fun q => if q.1 = kk n then (q.1, v) else q)).map (·.1) = (l.map (fun z => if z.1 = n then (z.1, d) else z)).map (fun z => kk z.1) ∧ DpAll K H ((kv.map (fun q => if q.1 = kk n then (q.1, v) else q)).map (·.2)) ((l.map (fun z => if z.1 = n then (z.1, d) else z)).map (·.2)) := fun kv => by
      induction kv with
      | nil => intro l h g; cases l with | nil => exact ⟨rfl, .nil⟩ | cons _ _ => cases h
      | cons q kv ih =>
        intro l h g
        cases l with
        | nil => cases h
        | cons z l =>
          rw [List.map_cons, List.map_cons] at h
          injection h with a b
          cases g with
          | cons g1 g2 =>
            obtain ⟨i1, i2⟩ := ih l b g2
            by_cases c : z.1 = n
            · have c2 : q.1 = kk n := by rw [a, c]
              simp only [List.map_cons, if_pos c, if_pos c2]
              exact ⟨by rw [i1, a], .cons hv i2⟩
            · have c2 : ¬ q.1 = kk n := fun w => c (kk_inj.mp (a.symm.trans w))
              simp only [List.map_cons, if_neg c, if_neg c2]
              exact ⟨by rw [i1, a], .cons g1 i2⟩
    exact e kv l h2 h3
  · rw [List.map_append, List.map_append, List.map_append, List.map_append]
    exact ⟨by rw [h2]; rfl, dps_snoc h3 hv⟩
theorem dps_set {K : PySem.W.Frag} {H : Hp} {v : V} {d : PyData} (hv : Dp K H v d) : ∀ {vs : List V} {ds : List PyData} (i : Nat), DpAll K H vs ds → DpAll K H (vs.set i v) (ds.set i d)
  | _, _, _, .nil => .nil
  | _, _, 0, .cons _ t => .cons hv t
  | _, _, i + 1, .cons h t => .cons h (dps_set hv i t)
theorem put_at_ix {kv : List (Key × V)} {i : Nat} {k : Key} {v w : V} (nd : (kv.map (·.1)).Nodup) (h : kv[i]? = some (k, v)) : putK kv k w = kv.set i (k, w) := by
  have m : (kv.any fun q => decide (q.1 = k)) = true := List.any_eq_true.mpr ⟨(k, v), List.mem_of_getElem? h, decide_eq_true rfl⟩
  unfold putK
  rw [if_pos m]
  refine List.ext_getElem? fun j => ?_
  rw [List.getElem?_map]
  by_cases e : i = j
  · subst e
    have l := (List.getElem?_eq_some_iff.mp h).1
    rw [h, List.getElem?_set_self l]
    simp
  · rw [List.getElem?_set_ne e]
    cases c : kv[j]? with
    | none => rfl
    | some q =>
      have ne : ¬ q.1 = k := fun z => e (by
        have h1 : (kv.map (·.1))[i]? = some k := by rw [List.getElem?_map, h]; rfl
        have h2 : (kv.map (·.1))[j]? = some k := by rw [List.getElem?_map, c]; exact congrArg some z
        have l1 := (List.getElem?_eq_some_iff.mp h1).1
        exact (List.getElem?_inj l1 nd).mp (h1.trans h2.symm))
      simp [ne]
theorem set_mid {α : Type} {M N : List α} {i : Nat} {x : α} (hl : M.length = N.length) (h : M[i]? = some x) : (M.take i ++ N.drop i).set i x = M.take (i + 1) ++ N.drop (i + 1) := by
  have li := (List.getElem?_eq_some_iff.mp h).1
  have e : (M.take i).length = i := by rw [List.length_take]; omega
  rw [List.set_append_right _ _ (by omega), e, Nat.sub_self, List.take_add_one, h, List.drop_eq_getElem_cons (by omega), List.append_assoc]
  rfl
theorem keep_mid {α : Type} {M N : List α} {i : Nat} {x : α} (h : M[i]? = some x) (g : N[i]? = some x) : M.take i ++ N.drop i = M.take (i + 1) ++ N.drop (i + 1) := by
  obtain ⟨l2, e2⟩ := List.getElem?_eq_some_iff.mp g
  rw [List.take_add_one, h, List.drop_eq_getElem_cons l2, e2, List.append_assoc]
  rfl
theorem cnt_nd (rs : List Run) : ((cnt rs).map fun p => (Sum.inl (p.2 : Int) : Key)).Nodup := by
  have a : ((cnt rs).map (·.2)).Nodup := by
    refine List.Nodup.sublist (List.Sublist.map _ List.filter_sublist) ?_
    rw [List.zipIdx_map_snd]
    exact List.nodup_range'
  have e : ((cnt rs).map fun p => (Sum.inl (p.2 : Int) : Key)) = ((cnt rs).map (·.2)).map fun k : Nat => (Sum.inl (k : Int) : Key) := by
    rw [List.map_map]
    rfl
  rw [e]
  exact List.nodup_iff_pairwise_ne.mpr (List.pairwise_map.mpr ((List.nodup_iff_pairwise_ne.mp a).imp fun h q => h (by injection q with q; omega)))
/-! a task mended -/
def mendR (st : LHall) (n : Str) (r : Run) : Run := if (r.counts && decide (r.goal = n)) = true then { r with score := scoreOf st r.who r.goal r.seed } else r
theorem mendR_who (st : LHall) (n : Str) (r : Run) : (mendR st n r).who = r.who ∧ (mendR st n r).goal = r.goal ∧ (mendR st n r).seed = r.seed ∧ (mendR st n r).counts = r.counts := by
  unfold mendR
  split <;> exact ⟨rfl, rfl, rfl, rfl⟩
def Sound (gs : List (Str × Mach)) (ts : List (Str × Task)) (r : Run) : Prop := ∃ m t, getL gs r.who = some m ∧ getL ts r.goal = some t ∧ MachOk m ∧ t.Ok
def spScoreAnew (K : PySem.W.Frag) (C : Addr) : Sp := fun vs H Q _ => ∃ (a : PAd) (k : Nat) (st : LHall) (n : Str) (kr : List (Key × V)), vs = [.ref a.h, .str n] ∧ HTG K C H a k st.tasks st.machines ∧ H a.R = some (.dK kr) ∧ a.T ≠ a.R ∧ a.G ≠ a.R ∧
  kr.map (·.1) = (cnt st.runs).map (fun p => Sum.inl (p.2 : Int)) ∧ DpAll K H (kr.map (·.2)) ((cnt st.runs).map fun p => p.1.dt) ∧ st.runs.length ≤ 1000 ∧ (∀ r ∈ st.runs, r.counts = true → Sound st.machines st.tasks r) ∧
  ∀ (H' : Hp) (kr' : List (Key × V)), Bt [a.R] H H' → H' a.R = some (.dK kr') → kr'.map (·.1) = kr.map (·.1) → DpAll K H' (kr'.map (·.2)) ((cnt st.runs).map fun p => (mendR st n p.1).dt) → Q .non H'
theorem HTG.bt {K : PySem.W.Frag} {C : Addr} {H H' : Hp} {a : PAd} {n : Nat} {ts : List (Str × Task)} {gs : List (Str × Mach)} {S : List Addr} (h : HTG K C H a n ts gs) (b : Bt S H H') (kt : KT K H H') (n1 : a.h ∉ S) (n2 : a.T ∉ S) (n3 : a.G ∉ S) : HTG K C H' a n ts gs := by
  have rd : ∀ {d : Addr} {kv : List (Key × V)}, d ∉ S → Rd H d (.dK kv) → Rd H' d (.dK kv) := fun {d kv} nd q => by
    rcases q with q | ⟨o, q⟩
    · exact .inl (b _ _ nd q)
    · exact .inr ⟨o, b _ _ nd q⟩
  obtain ⟨h1, ⟨k1, a1, b1, c1⟩, ⟨k2, a2, b2, c2⟩⟩ := h
  exact ⟨b _ _ n1 h1, ⟨k1, rd n2 a1, b1, dps_keep kt _ _ (tds_fst fun t => task_td t) c1⟩, ⟨k2, rd n3 a2, b2, dps_keep kt _ _ (tds_fst fun m => mach_td m) c2⟩⟩
theorem bt_one {K : PySem.W.Frag} {H H' : Hp} {d : Addr} {kv : List (Key × V)} (b : Bt [d] H H') (h : H d = some (.dK kv)) : KT K H H' := b.kt fun c hc ys z => by
  have e : c = d := by simpa using hc
  rw [e] at z
  rcases z with z | ⟨u, z⟩ <;> (rw [h] at z; cases z)
section
variable {P : Program} {w : World} {K : PySem.W.Frag} {mg : Str → Option Value} {base : Heap} {A : Adr}
theorem ok_Hall_score_anew (T : Txt K mg A) : FnOk P w K mg base CX0 6 A.Hall_score_anew A.Hall_score_anew_ ["self", "name"] (spScoreAnew K A.Hall) := by
  refine T.Hall_score_anew.F.ok sc_Hall_score_anew (fun vs H Q E h => ?_) (fun cdv Ar outer s H vs Q E hr h => ?_)
  · obtain ⟨a, k, st, n, kr, rfl, _⟩ := h
    rfl
  · obtain ⟨a, k0, st, n, kr, rfl, hc, hR, nTR, nGR, r2, r3, lr, so, k⟩ := h
    have hL := sizeLine_eq
    have nhR : a.h ≠ a.R := fun z => by
      have e := hc.ob
      rw [z, hR] at e
      cases e
    refine ⟨_, (pss_one (ps_for PassesOwn.never rfl (pi_list (LiI.pe_listItems rfl (pe_fld (pv 0) rfl) (by rfl) T.n_list (by decide +kernel))) (pg_tup rfl (pgs_cons (pg_name (i := 2) sc_Hall_score_anew.nd rfl (Or.inl rfl)) (pgs_cons (pg_tup rfl (pgs_cons (pg_name (i := 3) sc_Hall_score_anew.nd rfl (Or.inl rfl)) (pgs_cons (pg_name (i := 4) sc_Hall_score_anew.nd rfl (Or.inl rfl)) (pgs_cons (pg_name (i := 5) sc_Hall_score_anew.nd rfl (Or.inl rfl)) (pgs_cons (pg_name (i := 6) sc_Hall_score_anew.nd rfl (Or.inl rfl)) pgs_nil))))) pgs_nil)))
    (pss_one (ps_if (pt_cmpR op_eq (pv 4) (pv 1) (nomark _))
    (pss_one (ps_dput (hu_of hr) (pe_fld (pv 0) rfl) (pv 2) (pe_tup (pa_cons (pv 3) (pa_cons (pv 4) (pa_cons (pv 5) (pa_cons (pe_meth (pv 0) T.cl_Hall T.Hall_come_to.m (ok_Hall_come_to T) (hr.mono (by decide)) T.Hall_come_to.b .nil pass0 (pa_cons (pv 3) (pa_cons (pv 4) (pa_cons (pv 5) pa_nil)))) pa_nil))))) rfl))
    pss_nil)))), ?_⟩
    refine ⟨_, rfl, a.h, _, _, _, _, rfl, hc.ob, T.cl_Hall, T.nf_runs, f_runs, a.R, kr, rfl, hR, fun H0 p ts s0 hp ht npt hp0 pr => ?_⟩
    have lk := kv_len r2
    have lc := cnt_len st.runs
    have lt : ts.length = kr.length := paired_len pr
    have hR0 := s0 _ _ hR
    have npR : p ≠ a.R := fun z => by
      rw [z, hR] at hp
      cases hp
    have nd0 : (kr.map (·.1)).Nodup := by
      rw [r2]
      exact cnt_nd _
    refine ⟨p, rfl, ⟨_, SqL.of hp0⟩, for_list (K := K) (a := p) (xs := ts.map V.ref) (fun i σ H' => Bt [a.R] H0 H' ∧ (∃ kv, H' a.R = some (.dK kv) ∧ kv.map (·.1) = kr.map (·.1) ∧ DpAll K H' (kv.map (·.2)) ((((cnt st.runs).map fun p => (mendR st n p.1).dt)).take i ++ (((cnt st.runs).map fun p => p.1.dt)).drop i)) ∧ ∃ x2 x3 x4 x5 x6, σ = [some (.ref a.h), some (.str n), x2, x3, x4, x5, x6])
      ⟨Bt.refl, ⟨kr, hR0, rfl, by rw [List.take_zero, List.nil_append, List.drop_zero]; exact dps_same s0 _ _ r3⟩, _, _, _, _, _, rfl⟩ (fun i σ H' _ z => SqL.of (z.1 _ _ (by simpa using npR) hp0)) ?_ ?_⟩
    · rintro i x σ H1 hi ⟨b1, ⟨kv, h1, e1, d1⟩, x2, x3, x4, x5, x6, rfl⟩
      rw [List.getElem?_map] at hi
      cases ei : ts[i]? with
      | none =>
        rw [ei] at hi
        cases hi
      | some t =>
      rw [ei] at hi
      have ex := Option.some.inj hi
      subst ex
      obtain ⟨⟨kx, vx⟩, hkx, ht0⟩ := LiI.paired_get pr ei
      obtain ⟨r, m, tr, hm, rfl, rfl, htr⟩ := cnt_run r2 r3 hkx
      have kt1 : KT K H0 H1 := bt_one b1 hR0
      have ntR : t ≠ a.R := fun z => by
        rw [z, hR0] at ht0
        cases ht0
      have ht1 := b1 _ _ (by simpa using ntR) ht0
      have htr1 := kt1 _ _ (KT.same s0 _ _ htr)
      obtain ⟨hr1, hr2⟩ := cnt_at hm
      have M1 : ((cnt st.runs).map fun p => (mendR st n p.1).dt)[i]? = some (mendR st n r).dt := by
        rw [List.getElem?_map, hm]
        rfl
      have N1 : ((cnt st.runs).map fun p => p.1.dt)[i]? = some r.dt := by
        rw [List.getElem?_map, hm]
        rfl
      refine ⟨t, _, rfl, SqT.of ht1, rfl, _, _, rfl, ?_⟩
      refine ⟨_, _, rfl, tr, _, rfl, htr1, rfl, ?_⟩
      refine ⟨_, _, rfl, ?_⟩
      refine ⟨_, _, rfl, ?_⟩
      refine ⟨_, _, rfl, ?_⟩
      refine ⟨_, _, rfl, rfl, rfl, ?_⟩
      walk_at "z"
      refine ⟨_, rfl, _, rfl, scal_str ⟨_, rfl, ?_⟩⟩
      refine ite2 (fun e => ?_) (fun e => ?_)
      · have eg := of_decide_eq_true e
        obtain ⟨mm, tt, f1, f2, f3, f4⟩ := so r (List.mem_of_getElem? hr1) hr2
        have hc1 : HTG K A.Hall H1 a k0 st.tasks st.machines := (hc.same s0).bt b1 kt1 (by simpa using nhR) (by simpa using nTR) (by simpa using nGR)
        refine ⟨_, rfl, _, rfl, _, rfl, _, rfl, a.h, _, _, rfl, hc1.ob, f_no (by decide +kernel), _, rfl, _, rfl, _, rfl, a, k0, _, _, r.who, r.goal, r.seed, mm, tt, rfl, hc1, f1, f2, f3, f4, fun H2 s2 => ?_⟩
        refine ⟨by show 4 ≤ sizeLine; decide, fun q hq => ?_⟩
        have sq := same_put (o := .tup [.str r.who, .str r.goal, .int r.seed, .int ((rightL mm r.seed tt.qs).length : Nat)]) (Same.refl H2) hq
        have hq3 : upd H2 q (.tup [.str r.who, .str r.goal, .int r.seed, .int ((rightL mm r.seed tt.qs).length : Nat)]) q = some (.tup [.str r.who, .str r.goal, .int r.seed, .int ((rightL mm r.seed tt.qs).length : Nat)]) := upd_same
        generalize upd H2 q (.tup [.str r.who, .str r.goal, .int r.seed, .int ((rightL mm r.seed tt.qs).length : Nat)]) = H3 at sq hq3
        have s3 := s2.trans sq
        have h3 := s3 _ _ h1
        have hkv : ∃ v0, kv[i]? = some (Sum.inl (m : Int), v0) := by
          have e := congrArg (fun l => l[i]?) e1
          simp only [List.getElem?_map, hkx, Option.map_some] at e
          cases c : kv[i]? with
          | none =>
            rw [c] at e
            cases e
          | some y =>
            rw [c] at e
            exact ⟨y.2, by rw [← Option.some.inj e]⟩
        obtain ⟨v0, hkv⟩ := hkv
        have ep := put_at_ix (w := .ref q) (by rw [e1]; exact nd0) hkv
        have lkv : kv.length ≤ 1000 := by
          have e := congrArg List.length e1
          rw [List.length_map, List.length_map] at e
          omega
        refine ⟨_, rfl, a.h, _, _, _, _, rfl, s3 _ _ hc1.ob, T.cl_Hall, T.nf_runs, f_runs, _, rfl, a.R, _, rfl, DPut.k (k := Sum.inl (m : Int)) h3 (by omega), ?_⟩
        rw [ep]
        have kp := KTL.put (K := K) (kv2 := kv.set i (Sum.inl (m : Int), V.ref q)) h3
        refine ⟨b1.trans ((Bt.of_same s3).set (by simp)), ⟨_, upd_same, ?_, ?_⟩, _, _, _, _, _, rfl⟩
        · rw [List.map_set]
          have z : (kv.map (·.1))[i]? = some (Sum.inl (m : Int)) := by
            rw [List.getElem?_map, hkv]
            rfl
          obtain ⟨zl, ze⟩ := List.getElem?_eq_some_iff.mp z
          have q2 : (kv.map (·.1)).set i (Sum.inl (m : Int)) = kv.map (·.1) := by
            rw [← ze]
            exact List.set_getElem_self zl
          rw [q2, e1]
        · rw [List.map_set, ← set_mid (by rw [List.length_map, List.length_map]) M1]
          refine dps_set ?_ i (dps_ktl kp _ _ (dps_same s3 _ _ d1))
          have em : (mendR st n r).dt = .tuple [.str r.who, .str r.goal, .int r.seed, .int ((rightL mm r.seed tt.qs).length : Nat)] := by
            unfold mendR
            rw [if_pos (by rw [hr2, e]; rfl)]
            unfold Run.dt scoreOf
            dsimp only
            rw [f1, f2]
          rw [em]
          exact .tup (kp.t _ _ (SqT.of hq3)) (.cons (.str _) (.cons (.str _) (.cons (.int _) (.cons (.int _) .nil))))
      · have em : (mendR st n r).dt = r.dt := by
          unfold mendR
          rw [if_neg (by rw [hr2, Bool.true_and]; exact e)]
        rw [em] at M1
        exact ⟨b1, ⟨kv, h1, e1, by rw [← keep_mid M1 N1]; exact d1⟩, _, _, _, _, _, rfl⟩
    · rintro σ H1 ⟨b1, ⟨kv, h1, e1, d1⟩, x2, x3, x4, x5, x6, rfl⟩
      rw [List.length_map, lt, lk] at d1
      have z1 : (((cnt st.runs).map fun p => (mendR st n p.1).dt)).take (cnt st.runs).length = ((cnt st.runs).map fun p => (mendR st n p.1).dt) := List.take_of_length_le (by rw [List.length_map]; exact Nat.le_refl _)
      have z2 : (((cnt st.runs).map fun p => p.1.dt)).drop (cnt st.runs).length = [] := List.drop_eq_nil_of_le (by rw [List.length_map]; exact Nat.le_refl _)
      rw [z1, z2, List.append_nil] at d1
      exact k H1 kv ((Bt.of_same s0).trans b1) h1 e1 d1
end
end Mh
namespace Mh
open PySem L2
local macro_rules | `(tactic| walk_at "z") => `(tactic| simp only [List.set_cons_succ, List.set_cons_zero])
/-! deeds -/
inductive Deed where
  | task (n : Str) (t : Task)
  | machine (n : Str) (m : Mach)
  | tell (n g : Str) (seed score : Int)
  | strike (k : Nat)
  | clean
  | publish
def Deed.dt : Deed → PyData
  | .task n t => .tuple [.str "task", .str n, t.dt]
  | .machine n m => .tuple [.str "machine", .str n, machDt m]
  | .tell n g s x => .tuple [.str "tell", .str n, .str g, .int s, .int x]
  | .strike k => .tuple [.str "strike", .int k]
  | .clean => .tuple [.str "clean"]
  | .publish => .tuple [.str "publish"]
theorem deed_td (d : Deed) : TD d.dt = true := by
  cases d <;> simp [Deed.dt, TD, TDs, task_td, mach_td]
def off (r : Run) : Run := { r with counts := false }
/-- what is struck by clean -/
def parts (st : LHall) (r : Run) : Bool := r.counts && !decide (r.score = scoreOf st r.who r.goal r.seed)
def stepS (st : LHall) : Deed → LHall
  | .task n t =>
    let s1 : LHall := { st with tasks := putL st.tasks n t }
    { s1 with runs := st.runs.map (mendR s1 n), deeds := st.deeds ++ [(Deed.task n t).dt] }
  | .machine n m => { st with machines := putL st.machines n m, deeds := st.deeds ++ [(Deed.machine n m).dt] }
  | .tell n g s x => { st with runs := st.runs ++ [⟨n, g, s, x, true⟩], deeds := st.deeds ++ [(Deed.tell n g s x).dt] }
  | .strike k => { st with runs := st.runs.modify k off, deeds := st.deeds ++ [(Deed.strike k).dt] }
  | .clean => { st with runs := st.runs.map fun r => if parts st r = true then off r else r, deeds := st.deeds ++ [Deed.clean.dt] }
  | .publish => { st with pages := st.pages ++ [(rowsL st).map rrDt], deeds := st.deeds ++ [Deed.publish.dt] }
/-- what a change tells -/
def chgS (st st' : LHall) : List Chg := chgOf (sortN (namesG st)) (ranksL st) (ranksL st')
/-- the whole of the program's hall -/
structure HFull (K : PySem.W.Frag) (C : Addr) (H : Hp) (a : PAd) (st : LHall) : Prop where
  core : HCore K C H a st
  T : ∃ kv, H a.T = some (.dK kv)
  G : ∃ kv, H a.G = some (.dK kv)
  R : ∃ kv, H a.R = some (.dK kv)
  P : ∃ vs, H a.P = some (.lst vs) ∧ DpAll K H vs (st.pages.map PyData.tuple)
  D : ∃ vs, H a.D = some (.lst vs) ∧ DpAll K H vs st.deeds
  tdP : TDs (st.pages.map PyData.tuple) = true
  tdD : TDs st.deeds = true
  nPD : a.P ≠ a.D
def hallF (a : PAd) : List Addr := [a.h, a.T, a.G, a.R, a.P, a.D]
section
variable {K : PySem.W.Frag} {C : Addr} {H H' : Hp} {a : PAd} {st : LHall}
theorem HFull.same (h : HFull K C H a st) (s : Same H H') : HFull K C H' a st := by
  obtain ⟨c, ⟨t, ht⟩, ⟨g, hg⟩, ⟨r, hr⟩, ⟨p, hp, dp⟩, ⟨d, hd, dd⟩, x, y, z⟩ := h
  exact ⟨c.same s, ⟨t, s _ _ ht⟩, ⟨g, s _ _ hg⟩, ⟨r, s _ _ hr⟩, ⟨p, s _ _ hp, dps_same s _ _ dp⟩, ⟨d, s _ _ hd, dps_same s _ _ dd⟩, x, y, z⟩
/-- none of the hall's objects is a tuple -/
theorem HFull.kt (h : HFull K C H a st) (b : Bt (hallF a) H H') : KT K H H' := b.kt fun c hc ys q => by
  obtain ⟨core, ⟨t, ht⟩, ⟨g, hg⟩, ⟨r, hr⟩, ⟨p, hp, dp⟩, ⟨d, hd, dd⟩, x, y, z⟩ := h
  simp only [hallF, List.mem_cons, List.not_mem_nil, or_false] at hc
  have ob := core.ob
  rcases hc with e | e | e | e | e | e <;> rw [e] at q <;> rcases q with q | ⟨o, q⟩ <;> simp_all
theorem HFull.old (h : HFull K C H a st) {b : Addr} (hb : b ∈ hallF a) : H b ≠ none := by
  obtain ⟨core, ⟨t, ht⟩, ⟨g, hg⟩, ⟨r, hr⟩, ⟨p, hp, dp⟩, ⟨d, hd, dd⟩, x, y, z⟩ := h
  have ob := core.ob
  simp only [hallF, List.mem_cons, List.not_mem_nil, or_false] at hb
  rcases hb with e | e | e | e | e | e <;> rw [e] <;> simp_all
theorem HFull.fresh (h : HFull K C H a st) {b : Addr} (e : H b = none) : b ∉ hallF a := fun z => h.old z e
/-- all its objects are unlike -/
theorem HFull.ne (h : HFull K C H a st) : a.h ≠ a.T ∧ a.h ≠ a.G ∧ a.h ≠ a.R ∧ a.h ≠ a.P ∧ a.h ≠ a.D ∧ a.T ≠ a.P ∧ a.T ≠ a.D ∧ a.G ≠ a.P ∧ a.G ≠ a.D ∧ a.R ≠ a.P ∧ a.R ≠ a.D := by
  obtain ⟨core, ⟨t, ht⟩, ⟨g, hg⟩, ⟨r, hr⟩, ⟨p, hp, dp⟩, ⟨d, hd, dd⟩, x, y, z⟩ := h
  have ob := core.ob
  refine ⟨?_, ?_, ?_, ?_, ?_, ?_, ?_, ?_, ?_, ?_, ?_⟩ <;> (intro e; simp_all)
end
/-- an if whose test is false, behind it the rest -/
theorem if_no {c : TT} {t r : TS} {D : Ends} {σ : St} {H : Hp} (hc : ∀ F : Bool → Hp → Prop, F false H → c σ H F) (rest : r D σ H) : tSeq (tIfS c t tNext) r D σ H := by
  refine hc _ ?_
  show if false = true then _ else _
  rw [if_neg (by decide)]
  exact rest
theorem getL_mem {α : Type} {l : List (Str × α)} {n : Str} {x : α} (h : getL l n = some x) : ∃ z ∈ l, z.2 = x := by
  unfold getL at h
  cases e : l.find? (fun z => decide (z.1 = n)) with
  | none =>
    rw [e] at h
    cases h
  | some z =>
    rw [e] at h
    exact ⟨z, List.mem_of_find?_eq_some e, Option.some.inj h⟩
def spTaskM (K : PySem.W.Frag) (C : Addr) : Sp := fun vs H Q _ => ∃ (a : PAd) (st : LHall) (n : Str) (v : V) (t : Task), vs = [.ref a.h, .str n, v] ∧ HFull K C H a st ∧ StOk st ∧ StOk (stepS st (.task n t)) ∧ NameOk n ∧ Dp K H v t.dt ∧ t.Ok ∧ (n ∈ namesT st ∨ st.tasks.length < 4) ∧
  ∀ p H' us, H p = none → Bt (hallF a) H H' → HFull K C H' a (stepS st (.task n t)) → H' p = some (.lst us) → DpAll K H' us ((chgS st (stepS st (.task n t))).map chgDt) → Q (.ref p) H'
def spMachineM (K : PySem.W.Frag) (C : Addr) : Sp := fun vs H Q _ => ∃ (a : PAd) (st : LHall) (n : Str) (v : V) (m : Mach), vs = [.ref a.h, .str n, v] ∧ HFull K C H a st ∧ StOk st ∧ NameOk n ∧ Dp K H v (machDt m) ∧ MachOk m ∧ n ∉ namesG st ∧ st.machines.length < 6 ∧
  ∀ p H', H p = none → Bt (hallF a) H H' → HFull K C H' a (stepS st (.machine n m)) → H' p = some (.lst []) → Q (.ref p) H'
def spTellM (K : PySem.W.Frag) (C : Addr) : Sp := fun vs H Q _ => ∃ (a : PAd) (st : LHall) (n g : Str) (s x : Int) (m : Mach) (t : Task), vs = [.ref a.h, .str n, .str g, .int s, .int x] ∧ HFull K C H a st ∧ StOk st ∧ getL st.machines n = some m ∧ getL st.tasks g = some t ∧ t.Ok ∧ 0 ≤ s ∧ s ≤ 999 ∧ 0 ≤ x ∧ x ≤ t.qs.length ∧
  (scoresL st.runs n g).length < 5 ∧ (∀ r ∈ st.runs, r.isOf n g = true → r.seed ≠ s) ∧
  ∀ H', Bt (hallF a) H H' → HFull K C H' a (stepS st (.tell n g s x)) → Q (.int st.runs.length) H'
theorem names_sub {st : LHall} {n : Str} (h : n ∈ (ranksL st).map (·.1)) : n ∈ namesG st := by
  unfold ranksL at h
  rw [ranksOf_keys] at h
  unfold meansL rankedL at h
  rw [List.map_map] at h
  obtain ⟨x, hx, e⟩ := List.mem_map.mp h
  have e : x = n := e
  rw [e] at hx
  exact (sortN_perm _).mem_iff.mp (List.mem_filter.mp hx).1
theorem ranksL_nd {st : LHall} (h : StOk st) : ((ranksL st).map (·.1)).Nodup := by
  unfold ranksL
  rw [ranksOf_keys]
  exact meansL_nd h
theorem ranksL_len {st : LHall} (h : StOk st) : (ranksL st).length ≤ 6 := by
  unfold ranksL ranksOf
  rw [List.length_map]
  exact meansL_len h
theorem cnt_mend (st : LHall) (n : Str) (f : Run → Run) (hf : ∀ r, (f r).counts = r.counts) (rs : List Run) : cnt (rs.map f) = (cnt rs).map fun p => (f p.1, p.2) := by
  unfold cnt
  rw [List.zipIdx_map, List.filter_map]
  refine congrArg (List.map _) (List.filter_congr fun p _ => ?_)
  show (f p.1).counts = p.1.counts
  exact hf _
section
variable {P : Program} {w : World} {K : PySem.W.Frag} {mg : Str → Option Value} {base : Heap} {A : Adr}
theorem ok_Hall_task (T : Txt K mg A) : FnOk P w K mg base CX0 7 A.Hall_task A.Hall_task_ ["self", "name", "task"] (spTaskM K A.Hall) := by
  refine T.Hall_task.F.ok sc_Hall_task (fun vs H Q E h => ?_) (fun cdv Ar outer s H vs Q E hr h => ?_)
  · obtain ⟨a, st, n, v, t, rfl, _⟩ := h
    rfl
  · obtain ⟨a, st, n, v, t, rfl, hf, ok, ok', no, dv, ot, few, k⟩ := h
    have hL := sizeLine_eq
    obtain ⟨nhT, nhG, nhR, nhP, nhD, nTP, nTD, nGP, nGD, nRP, nRD⟩ := hf.ne
    obtain ⟨nTG, nTR, nGR⟩ := hf.core.ne
    refine ⟨_, (pss_cons (ps_expr (pe_call (ok_check_name T) (hr.mono (by decide)) (by rfl) T.check_name.n T.check_name.F.kp T.check_name.b .nil pass0 (pa_cons (pv 1) pa_nil)))
    (pss_cons (ps_expr (pe_call (ok_check_task T) (hr.mono (by decide)) (by rfl) T.check_task.n T.check_task.F.kp T.check_task.b .nil pass0 (pa_cons (pv 2) pa_nil)))
    (pss_cons (ps_if (PW.pt (pw_and (pt_cmp (pc_dnotin (hu_of hr) (pv 1) (pe_fld (pv 0) rfl))) (pw_and1 (pt_cmpR op_eq (pe_callB call_lenD (by rfl) T.n_len PySem.boot_len (pa_cons (pe_fld (pv 0) rfl) pa_nil)) (pe_gv (by rfl) T.c_MOST_TASKS) (nomark _)))))
    (pss_one ps_never)
    pss_nil)
    (pss_cons (ps_set (i := 3) sc_Hall_task.nd rfl (Or.inl rfl) (pe_meth0 (pv 0) T.cl_Hall T.Hall_ranks_now.m (ok_Hall_ranks_now T) (hr.mono (by decide)) T.Hall_ranks_now.b .nil pass0))
    (pss_cons (ps_dput (hu_of hr) (pe_fld (pv 0) rfl) (pv 1) (pv 2) rfl)
    (pss_cons (ps_expr (pe_meth (pv 0) T.cl_Hall T.Hall_score_anew.m (ok_Hall_score_anew T) (hr.mono (by decide)) T.Hall_score_anew.b .nil pass0 (pa_cons (pv 1) pa_nil)))
    (pss_cons (ps_expr (pe_bm PySem.F.plainAttrs_list PySem.F.slot_list_append PySem.F.type_list_append mt_append (pe_fld (pv 0) rfl) (pa_cons (pe_tup (pa_cons pe_str (pa_cons (pv 1) (pa_cons (pv 2) pa_nil)))) pa_nil)))
    (pss_one (ps_ret (pe_call (ok_changes T) (hr.mono (by decide)) (by rfl) T.changes.n T.changes.F.kp T.changes.b .nil pass0 (pa_cons (pv 3) (pa_cons (pe_meth0 (pv 0) T.cl_Hall T.Hall_ranks_now.m (ok_Hall_ranks_now T) (hr.mono (by decide)) T.Hall_ranks_now.b .nil pass0) pa_nil)))))))))))), ?_⟩
    refine ⟨_, rfl, n, rfl, no, fun H1 s1 => ?_⟩
    refine ⟨_, rfl, v, t, rfl, dp_same s1 _ _ dv, ot, fun H2 s2 => ?_⟩
    have s12 := s1.trans s2
    have hf2 := hf.same s12
    have dv2 := dp_same s12 _ _ dv
    obtain ⟨kt, hT⟩ := hf2.T
    obtain ⟨kr, hR⟩ := hf2.R
    obtain ⟨kt', t1, t2, t3⟩ := hf2.core.tasks
    have e := rd_is hT t1
    subst e
    have lkt := dict_len t2
    have lt4 := ok.fewT
    have lt' := ok'.fewT
    -- name not in self.tasks and len(self.tasks) == 4
    dsimp only
    refine if_no (fun F f => ?_) ?_
    · refine ⟨_, rfl, _, rfl, a.h, _, _, _, _, rfl, hf2.core.ob, T.cl_Hall, T.nf_tasks, f_tasks, a.T, _, rfl, dget_rd (k := kk n) t1, _, rfl, ?_⟩
      cases c : valV kt' (kk n) with
      | some v => exact iteF f
      | none =>
        have nn : n ∉ namesT st := fun z => by
          have q := valV_not c
          rw [t2, List.map_map] at q
          obtain ⟨y, hy, e⟩ := List.mem_map.mp z
          exact q (List.mem_map.mpr ⟨y, hy, by rw [← e]; rfl⟩)
        have l4 : st.tasks.length < 4 := few.resolve_left nn
        refine iteT ?_
        refine ⟨_, rfl, a.h, _, _, _, _, rfl, hf2.core.ob, T.cl_Hall, T.nf_tasks, f_tasks, a.T, kt', rfl, hT, rfl, _, rfl, ?_⟩
        have e : decide (V.int (kt'.length : Nat) = V.int 4) = false := by rw [dI]; exact decide_eq_false (by omega)
        rw [e]
        exact f
    refine ⟨_, rfl, a.h, _, _, rfl, hf2.core.ob, f_no (by decide +kernel), a, st, kt', kr, rfl, hf2.core, hT, hR, ok, fun p1 H3 hp1 s3 h3 => ?_⟩
    have s23 := s12.trans s3
    have hf3 := hf2.same s3
    have hT3 := s3 _ _ hT
    have hR3 := s3 _ _ hR
    have dv3 := dp_same s3 _ _ dv2
    obtain ⟨kg, hG3⟩ := hf3.G
    obtain ⟨ps, hP3, dP3⟩ := hf3.P
    obtain ⟨ds, hD3, dD3⟩ := hf3.D
    have p1n : p1 ∉ hallF a := hf2.fresh hp1
    simp only [hallF, List.mem_cons, List.not_mem_nil, or_false, not_or] at p1n
    obtain ⟨z1, z2, z3, z4, z5, z6⟩ := p1n
    -- self.tasks[name] = task
    refine ⟨_, rfl, _, rfl, a.h, _, _, _, _, rfl, hf3.core.ob, T.cl_Hall, T.nf_tasks, f_tasks, _, rfl, a.T, _, rfl, DPut.k (k := kk n) hT3 (by omega), ?_⟩
    have k4 := KTL.put (K := K) (kv2 := putK kt' (kk n) v) hT3
    have dp4 := dict_put t2 (dps_ktl k4 _ _ (dps_same s3 _ _ t3)) (dp_ktl k4 _ _ dv3) (n := n)
    have h4T : upd H3 a.T (.dK (putK kt' (kk n) v)) a.T = some (.dK (putK kt' (kk n) v)) := upd_same
    have h4 : ∀ b, b ≠ a.T → upd H3 a.T (.dK (putK kt' (kk n) v)) b = H3 b := fun b hb => upd_ne hb
    have bt4 : Bt (hallF a) H3 (upd H3 a.T (.dK (putK kt' (kk n) v))) := Bt.refl.set (by simp [hallF])
    have htg4 : HTG K A.Hall (upd H3 a.T (.dK (putK kt' (kk n) v))) a st.runs.length (putL st.tasks n t) st.machines := by
      refine ⟨(upd_ne nhT).trans hf3.core.ob, ⟨_, .inl h4T, ?_, ?_⟩, ?_⟩
      · rw [dp4.1, putL_map]
      · rw [putL_map]
        exact dp4.2
      · obtain ⟨k2, a2, b2, c2⟩ := hf3.core.machines
        exact ⟨k2, rd_upd (kv2 := k2) nTG.symm a2, b2, dps_ktl k4 _ _ c2⟩
    have R4 : RunDict K (upd H3 a.T (.dK (putK kt' (kk n) v))) a.R st.runs := by
      obtain ⟨k3, a3, b3, c3⟩ := hf3.core.runs
      exact ⟨k3, rd_upd (kv2 := k3) nTR.symm a3, b3, dps_ktl k4 _ _ c3⟩
    have dP4 := dps_ktl k4 _ _ dP3
    have dD4 := dps_ktl k4 _ _ dD3
    generalize upd H3 a.T (.dK (putK kt' (kk n) v)) = H4 at h4T h4 bt4 htg4 R4 dP4 dD4
    have hR4 := (h4 _ nTR.symm).trans hR3
    obtain ⟨kr2, q1, q2, q3⟩ := R4
    have eR := rd_is hR4 q1
    subst eR
    have snd : ∀ r ∈ st.runs, r.counts = true → Sound st.machines (putL st.tasks n t) r := fun r hr1 hr2 => by
      obtain ⟨r1, r2, _⟩ := ok.run r hr1 hr2
      obtain ⟨m, hm⟩ := getL_some r1
      obtain ⟨y, hy, ey⟩ := getL_mem hm
      by_cases c : r.goal = n
      · exact ⟨m, t, hm, by rw [getL_put, if_pos c], by rw [← ey]; exact ok.okG y hy, ot⟩
      · obtain ⟨tt, ht⟩ := getL_some r2
        obtain ⟨x, hx, ex⟩ := getL_mem ht
        exact ⟨m, tt, hm, by rw [getL_put, if_neg c]; exact ht, by rw [← ey]; exact ok.okG y hy, by rw [← ex]; exact ok.okT x hx⟩
    refine ⟨_, rfl, a.h, _, _, rfl, htg4.ob, f_no (by decide +kernel), _, rfl, a, st.runs.length, { st with tasks := putL st.tasks n t }, n, kr2, rfl, htg4, hR4, nTR, nGR, q2, q3, ok.runs, snd, fun H5 kr5 b5 h5 e5 d5 => ?_⟩
    have kt5 : KT K H4 H5 := bt_one b5 hR4
    have htg5 : HTG K A.Hall H5 a st.runs.length (putL st.tasks n t) st.machines := htg4.bt b5 kt5 (by simpa using nhR) (by simpa using nTR) (by simpa using nGR)
    have bt5 : Bt (hallF a) H4 H5 := b5.mono (by simp [hallF])
    have hP5 := b5 _ _ (show a.P ∉ [a.R] by simpa using nRP.symm) ((h4 _ nTP.symm).trans hP3)
    have hD5 := b5 _ _ (show a.D ∉ [a.R] by simpa using nRD.symm) ((h4 _ nTD.symm).trans hD3)
    have hG5 := b5 _ _ (show a.G ∉ [a.R] by simpa using nGR) ((h4 _ nTG.symm).trans hG3)
    have hT5 := b5 _ _ (show a.T ∉ [a.R] by simpa using nTR) h4T
    have h15 := b5 _ _ (show p1 ∉ [a.R] by simpa using z4) ((h4 _ z2).trans h3)
    have dP5 := dps_keep kt5 _ _ hf.tdP dP4
    have dD5 := dps_keep kt5 _ _ hf.tdD dD4
    have dv5 := dp_keep kt5 _ _ (task_td t) (dp_same (Same.refl _) _ _ (dp_keep (hf3.kt bt4) _ _ (task_td t) dv3))
    have lds : ds.length ≤ 1000 := by
      rw [dps_len dD3]
      exact ok.deeds
    -- self.done.append(("task", name, task))
    refine ⟨_, rfl, a.h, _, _, _, _, rfl, htg5.ob, T.cl_Hall, T.nf_done, f_done, .inl ⟨rfl, _, SqL.of hD5⟩, _, rfl, _, rfl, by show 3 ≤ sizeLine; decide, fun q hq => ?_⟩
    have s6 := same_put (o := .tup [.str "task", .str n, v]) (Same.refl H5) hq
    have hq6 : upd H5 q (.tup [.str "task", .str n, v]) q = some (.tup [.str "task", .str n, v]) := upd_same
    generalize upd H5 q (.tup [.str "task", .str n, v]) = H6 at s6 hq6
    have hD6 := s6 _ _ hD5
    refine ⟨a.D, ds, _, rfl, rfl, hD6, by omega, ?_⟩
    have kt7 : KT K H6 (upd H6 a.D (.lst (ds ++ [.ref q]))) := (Bt.refl.set (S := [a.D]) (by simp)).kt1 hD6
    have b7 : Bt [a.D] H6 (upd H6 a.D (.lst (ds ++ [.ref q]))) := Bt.refl.set (by simp)
    have bt7 : Bt (hallF a) H6 (upd H6 a.D (.lst (ds ++ [.ref q]))) := b7.mono (by simp [hallF])
    have htg7 : HTG K A.Hall (upd H6 a.D (.lst (ds ++ [.ref q]))) a st.runs.length (putL st.tasks n t) st.machines := (htg5.same s6).bt b7 kt7 (by simpa using nhD) (by simpa using nTD) (by simpa using nGD)
    have h7D : upd H6 a.D (.lst (ds ++ [.ref q])) a.D = some (.lst (ds ++ [.ref q])) := upd_same
    generalize upd H6 a.D (.lst (ds ++ [.ref q])) = H7 at kt7 b7 bt7 htg7 h7D
    have dn7 : ∀ {b : Addr} {o : HO}, b ≠ a.D → H5 b = some o → H7 b = some o := fun {b o} hb e => b7 _ _ (by simpa using hb) (s6 _ _ e)
    have hR7 := dn7 nRD h5
    have cm : cnt (stepS st (.task n t)).runs = (cnt st.runs).map fun p => (mendR { st with tasks := putL st.tasks n t } n p.1, p.2) := cnt_mend st n _ (fun r => (mendR_who _ n r).2.2.2) _
    have run7 : RunDict K H7 a.R (stepS st (.task n t)).runs := by
      refine ⟨kr5, .inl hR7, ?_, ?_⟩
      · rw [e5, q2, cm, List.map_map]
        rfl
      · rw [cm, List.map_map]
        exact dps_keep kt7 _ _ (tds_map (f := fun p : Run × Nat => (mendR { st with tasks := putL st.tasks n t } n p.1).dt) (fun p => run_td _) _) (dps_same s6 _ _ d5)
    have lrs : (stepS st (.task n t)).runs.length = st.runs.length := by
      show (st.runs.map _).length = _
      rw [List.length_map]
    have core7 : HCore K A.Hall H7 a (stepS st (.task n t)) := ⟨by rw [lrs]; exact htg7.ob, htg7.tasks, htg7.machines, run7, hf.core.ne⟩
    have full7 : HFull K A.Hall H7 a (stepS st (.task n t)) := by
      refine ⟨core7, ⟨_, dn7 nTD hT5⟩, ⟨_, dn7 nGD hG5⟩, ⟨_, hR7⟩, ⟨ps, dn7 hf.nPD hP5, dps_keep kt7 _ _ hf.tdP (dps_same s6 _ _ dP5)⟩, ⟨_, h7D, ?_⟩, hf.tdP, ?_, hf.nPD⟩
      · refine dps_snoc (dps_keep kt7 _ _ hf.tdD (dps_same s6 _ _ dD5)) ?_
        exact .tup (kt7 _ _ (SqT.of hq6)) (.cons (.str _) (.cons (.str _) (.cons (dp_keep kt7 _ _ (task_td t) (dp_same s6 _ _ dv5)) .nil)))
      · exact tds_mem.mpr fun d hd => by
          rcases List.mem_append.mp hd with hd | hd
          · exact tds_mem.mp hf.tdD d hd
          · have e : d = (Deed.task n t).dt := by simpa using hd
            rw [e]
            exact deed_td _
    have btA : Bt (hallF a) H H7 := (Bt.of_same s23).trans (bt4.trans (bt5.trans ((Bt.of_same s6).trans bt7)))
    have h17 := dn7 z6 h15
    -- changes
    refine ⟨_, rfl, _, rfl, a.h, _, _, rfl, core7.ob, f_no (by decide +kernel), a, stepS st (.task n t), _, kr5, rfl, core7, dn7 nTD hT5, hR7, ok', fun p2 H8 hp2 s8 h8 => ?_⟩
    have ng : namesG (stepS st (.task n t)) = namesG st := rfl
    refine ⟨p1, p2, ranksL st, ranksL (stepS st (.task n t)), namesG st, rfl, .inl (s8 _ _ h17), .inl h8, ranksL_nd ok, ranksL_nd ok', by have := ranksL_len ok; omega, by have := ranksL_len ok'; omega, ok.ndG, fun m hm => ?_, fun p H9 us hp s9 h9 d9 => ?_⟩
    · rcases hm with hm | hm
      · exact names_sub hm
      · exact names_sub (st := stepS st (.task n t)) hm
    · have fr : H p = none := (btA.trans ((Bt.of_same s8).trans (Bt.refl))).free (S := hallF a) (fun z => full7.old z (same_none s8 hp)) hp
      exact k p H9 us fr (btA.trans (Bt.of_same (s8.trans s9))) ((full7.same s8).same s9) h9 d9
end
end Mh
namespace Mh
open PySem L2
local macro_rules | `(tactic| walk_at "z") => `(tactic| simp only [List.set_cons_succ, List.set_cons_zero])
local macro_rules | `(tactic| walk_at "w") => `(tactic| simp only [wipe, List.map, List.set_cons_succ, List.set_cons_zero])
theorem cnt_snoc (rs : List Run) (r : Run) : cnt (rs ++ [r]) = cnt rs ++ if r.counts = true then [(r, rs.length)] else [] := by
  unfold cnt
  rw [List.zipIdx_append, List.filter_append]
  congr 1
  show List.filter _ [(r, 0 + rs.length)] = _
  rw [Nat.zero_add]
  by_cases e : r.counts = true
  · rw [if_pos e]
    simp [List.filter_cons, e]
  · rw [if_neg e]
    simp [List.filter_cons, e]
theorem putK_end {kv : List (Key × V)} {k : Key} {v : V} (h : k ∉ kv.map (·.1)) : putK kv k v = kv ++ [(k, v)] := putK_new _ (val_out h)
section
variable {P : Program} {w : World} {K : PySem.W.Frag} {mg : Str → Option Value} {base : Heap} {A : Adr}
theorem ok_Hall_machine (T : Txt K mg A) : FnOk P w K mg base CX0 7 A.Hall_machine A.Hall_machine_ ["self", "name", "machine"] (spMachineM K A.Hall) := by
  refine T.Hall_machine.F.ok sc_Hall_machine (fun vs H Q E h => ?_) (fun cdv Ar outer s H vs Q E hr h => ?_)
  · obtain ⟨a, st, n, v, m, rfl, _⟩ := h
    rfl
  · obtain ⟨a, st, n, v, m, rfl, hf, ok, no, dv, om, new, few, k⟩ := h
    have hL := sizeLine_eq
    obtain ⟨nhT, nhG, nhR, nhP, nhD, nTP, nTD, nGP, nGD, nRP, nRD⟩ := hf.ne
    obtain ⟨nTG, nTR, nGR⟩ := hf.core.ne
    refine ⟨_, (pss_cons (ps_expr (pe_call (ok_check_name T) (hr.mono (by decide)) (by rfl) T.check_name.n T.check_name.F.kp T.check_name.b .nil pass0 (pa_cons (pv 1) pa_nil)))
    (pss_cons (ps_expr (pe_call (ok_check_machine T) (hr.mono (by decide)) (by rfl) T.check_machine.n T.check_machine.F.kp T.check_machine.b .nil pass0 (pa_cons (pv 2) pa_nil)))
    (pss_cons (ps_if (pt_cmp (pc_din (hu_of hr) (pv 1) (pe_fld (pv 0) rfl)))
    (pss_one ps_never)
    pss_nil)
    (pss_cons (ps_if (pt_cmpR op_eq (pe_callB call_lenD (by rfl) T.n_len PySem.boot_len (pa_cons (pe_fld (pv 0) rfl) pa_nil)) (pe_gv (by rfl) T.c_MOST_MACHINES) (nomark _))
    (pss_one ps_never)
    pss_nil)
    (pss_cons (ps_dput (hu_of hr) (pe_fld (pv 0) rfl) (pv 1) (pv 2) rfl)
    (pss_cons (ps_expr (pe_bm PySem.F.plainAttrs_list PySem.F.slot_list_append PySem.F.type_list_append mt_append (pe_fld (pv 0) rfl) (pa_cons (pe_tup (pa_cons pe_str (pa_cons (pv 1) (pa_cons (pv 2) pa_nil)))) pa_nil)))
    (pss_one (ps_ret (pe_lst pa_nil))))))))), ?_⟩
    refine ⟨_, rfl, n, rfl, no, fun H1 s1 => ?_⟩
    refine ⟨_, rfl, v, m, rfl, dp_same s1 _ _ dv, om, fun H2 s2 => ?_⟩
    have s12 := s1.trans s2
    have hf2 := hf.same s12
    have dv2 := dp_same s12 _ _ dv
    obtain ⟨kg, hG⟩ := hf2.G
    obtain ⟨kg', t1, t2, t3⟩ := hf2.core.machines
    have e := rd_is hG t1
    subst e
    have lkg := dict_len t2
    obtain ⟨kt, hT⟩ := hf2.T
    obtain ⟨kr, hR⟩ := hf2.R
    obtain ⟨ps, hP, dP⟩ := hf2.P
    obtain ⟨ds, hD, dD⟩ := hf2.D
    dsimp only
    refine if_no (fun F f => ?_) ?_
    · refine ⟨_, rfl, _, rfl, a.h, _, _, _, _, rfl, hf2.core.ob, T.cl_Hall, T.nf_machines, f_machines, a.G, _, rfl, dget_rd (k := kk n) t1, _, rfl, ?_⟩
      have nn : (kk n) ∉ kg'.map (·.1) := fun z => by
        rw [t2, List.map_map] at z
        obtain ⟨y, hy, e⟩ := List.mem_map.mp z
        exact new (List.mem_map.mpr ⟨y, hy, by injection e⟩)
      have e := val_out nn
      rw [e]
      exact f
    refine if_no (fun F f => ?_) ?_
    · refine ⟨_, rfl, a.h, _, _, _, _, rfl, hf2.core.ob, T.cl_Hall, T.nf_machines, f_machines, a.G, kg', rfl, hG, rfl, _, rfl, ?_⟩
      have e : decide (V.int (kg'.length : Nat) = V.int 6) = false := by rw [dI]; exact decide_eq_false (by omega)
      rw [e]
      exact f
    -- self.machines[name] = machine
    refine ⟨_, rfl, _, rfl, a.h, _, _, _, _, rfl, hf2.core.ob, T.cl_Hall, T.nf_machines, f_machines, _, rfl, a.G, _, rfl, DPut.k (k := kk n) hG (by omega), ?_⟩
    have k4 := KTL.put (K := K) (kv2 := putK kg' (kk n) v) hG
    have dp4 := dict_put t2 (dps_ktl k4 _ _ t3) (dp_ktl k4 _ _ dv2) (n := n)
    have h4G : upd H2 a.G (.dK (putK kg' (kk n) v)) a.G = some (.dK (putK kg' (kk n) v)) := upd_same
    have h4 : ∀ b, b ≠ a.G → upd H2 a.G (.dK (putK kg' (kk n) v)) b = H2 b := fun b hb => upd_ne hb
    have bt4 : Bt (hallF a) H2 (upd H2 a.G (.dK (putK kg' (kk n) v))) := Bt.refl.set (by simp [hallF])
    have htg4 : HTG K A.Hall (upd H2 a.G (.dK (putK kg' (kk n) v))) a st.runs.length st.tasks (putL st.machines n m) := by
      refine ⟨(upd_ne nhG).trans hf2.core.ob, ?_, ⟨_, .inl h4G, ?_, ?_⟩⟩
      · obtain ⟨k2, a2, b2, c2⟩ := hf2.core.tasks
        exact ⟨k2, rd_upd (kv2 := k2) nTG a2, b2, dps_ktl k4 _ _ c2⟩
      · rw [dp4.1, putL_map]
      · rw [putL_map]
        exact dp4.2
    have R4 : RunDict K (upd H2 a.G (.dK (putK kg' (kk n) v))) a.R st.runs := by
      obtain ⟨k3, a3, b3, c3⟩ := hf2.core.runs
      exact ⟨k3, rd_upd (kv2 := k3) nGR.symm a3, b3, dps_ktl k4 _ _ c3⟩
    have dP4 := dps_ktl k4 _ _ dP
    have dD4 := dps_ktl k4 _ _ dD
    have dv4 := dp_ktl k4 _ _ dv2
    generalize upd H2 a.G (.dK (putK kg' (kk n) v)) = H4 at h4G h4 bt4 htg4 R4 dP4 dD4 dv4
    have hR4 := (h4 _ nGR.symm).trans hR
    have hT4 := (h4 _ nTG).trans hT
    have hP4 := (h4 _ nGP.symm).trans hP
    have hD4 := (h4 _ nGD.symm).trans hD
    have lds : ds.length ≤ 1000 := by
      rw [dps_len dD]
      exact ok.deeds
    refine ⟨_, rfl, a.h, _, _, _, _, rfl, htg4.ob, T.cl_Hall, T.nf_done, f_done, .inl ⟨rfl, _, SqL.of hD4⟩, _, rfl, _, rfl, by show 3 ≤ sizeLine; decide, fun q hq => ?_⟩
    have s6 := same_put (o := .tup [.str "machine", .str n, v]) (Same.refl H4) hq
    have hq6 : upd H4 q (.tup [.str "machine", .str n, v]) q = some (.tup [.str "machine", .str n, v]) := upd_same
    generalize upd H4 q (.tup [.str "machine", .str n, v]) = H6 at s6 hq6
    have hD6 := s6 _ _ hD4
    refine ⟨a.D, ds, _, rfl, rfl, hD6, by omega, ?_⟩
    have kt7 : KT K H6 (upd H6 a.D (.lst (ds ++ [.ref q]))) := (Bt.refl.set (S := [a.D]) (by simp)).kt1 hD6
    have b7 : Bt [a.D] H6 (upd H6 a.D (.lst (ds ++ [.ref q]))) := Bt.refl.set (by simp)
    have bt7 : Bt (hallF a) H6 (upd H6 a.D (.lst (ds ++ [.ref q]))) := b7.mono (by simp [hallF])
    have htg7 : HTG K A.Hall (upd H6 a.D (.lst (ds ++ [.ref q]))) a st.runs.length st.tasks (putL st.machines n m) := (htg4.same s6).bt b7 kt7 (by simpa using nhD) (by simpa using nTD) (by simpa using nGD)
    have h7D : upd H6 a.D (.lst (ds ++ [.ref q])) a.D = some (.lst (ds ++ [.ref q])) := upd_same
    generalize upd H6 a.D (.lst (ds ++ [.ref q])) = H7 at kt7 b7 bt7 htg7 h7D
    have dn7 : ∀ {b : Addr} {o : HO}, b ≠ a.D → H4 b = some o → H7 b = some o := fun {b o} hb e => b7 _ _ (by simpa using hb) (s6 _ _ e)
    obtain ⟨kr5, e5, f5, d5⟩ := R4
    have e := rd_is hR4 e5
    subst e
    have run7 : RunDict K H7 a.R st.runs := ⟨_, .inl (dn7 nRD hR4), f5, dps_keep kt7 _ _ (tds_runs _) (dps_same s6 _ _ d5)⟩
    have core7 : HCore K A.Hall H7 a (stepS st (.machine n m)) := ⟨htg7.ob, htg7.tasks, htg7.machines, run7, hf.core.ne⟩
    have full7 : HFull K A.Hall H7 a (stepS st (.machine n m)) := by
      refine ⟨core7, ⟨_, dn7 nTD hT4⟩, ⟨_, dn7 nGD h4G⟩, ⟨_, dn7 nRD hR4⟩, ⟨ps, dn7 hf.nPD hP4, dps_keep kt7 _ _ hf.tdP (dps_same s6 _ _ dP4)⟩, ⟨_, h7D, ?_⟩, hf.tdP, ?_, hf.nPD⟩
      · refine dps_snoc (dps_keep kt7 _ _ hf.tdD (dps_same s6 _ _ dD4)) ?_
        exact .tup (kt7 _ _ (SqT.of hq6)) (.cons (.str _) (.cons (.str _) (.cons (dp_keep kt7 _ _ (mach_td m) (dp_same s6 _ _ dv4)) .nil)))
      · exact tds_mem.mpr fun d hd => by
          rcases List.mem_append.mp hd with hd | hd
          · exact tds_mem.mp hf.tdD d hd
          · have e : d = (Deed.machine n m).dt := by simpa using hd
            rw [e]
            exact deed_td _
    have btA : Bt (hallF a) H H7 := (Bt.of_same s12).trans (bt4.trans ((Bt.of_same s6).trans bt7))
    refine ⟨Nat.zero_le _, fun p hp => ?_⟩
    have s8 := same_put (o := .lst []) (Same.refl H7) hp
    exact k p _ (btA.free (S := hallF a) (fun z => full7.old z hp) hp) (btA.trans (Bt.of_same s8)) (full7.same s8) upd_same
theorem ok_Hall_tell (T : Txt K mg A) : FnOk P w K mg base CX0 7 A.Hall_tell A.Hall_tell_ ["self", "machine", "task", "seed", "score"] (spTellM K A.Hall) := by
  refine T.Hall_tell.F.ok sc_Hall_tell (fun vs H Q E h => ?_) (fun cdv Ar outer s H vs Q E hr h => ?_)
  · obtain ⟨a, st, n, g, sd, x, m, t, rfl, _⟩ := h
    rfl
  · obtain ⟨a, st, n, g, sd, x, m, t, rfl, hf, ok, hm, ht, ot, s0, s9, x0, x9, l5, new, k⟩ := h
    have hL := sizeLine_eq
    obtain ⟨nhT, nhG, nhR, nhP, nhD, nTP, nTD, nGP, nGD, nRP, nRD⟩ := hf.ne
    obtain ⟨nTG, nTR, nGR⟩ := hf.core.ne
    refine ⟨_, (pss_cons (ps_expr (pe_meth (pv 0) T.cl_Hall T.Hall_check_machine_told.m (ok_Hall_check_machine_told T) (hr.mono (by decide)) T.Hall_check_machine_told.b .nil pass0 (pa_cons (pv 1) pa_nil)))
    (pss_cons (ps_if (pt_not (pt_val (pe_call (ok_is_told T) (hr.mono (by decide)) (by rfl) T.is_told.n T.is_told.F.kp T.is_told.b .nil pass0 (pa_cons (pv 2) (pa_cons (pe_fld (pv 0) rfl) pa_nil)))))
    (pss_one ps_never)
    pss_nil)
    (pss_cons (ps_expr (pe_call (ok_check_seed T) (hr.mono (by decide)) (by rfl) T.check_seed.n T.check_seed.F.kp T.check_seed.b .nil pass0 (pa_cons (pv 3) pa_nil)))
    (pss_cons (ps_if (pt_not (pt_val (pe_call (ok_is_number T) (hr.mono (by decide)) (by rfl) T.is_number.n T.is_number.F.kp T.is_number.b .nil pass0 (pa_cons (pv 4) (pa_cons pe_int (pa_cons (pe_callB call_len_seq (by rfl) T.n_len PySem.boot_len (pa_cons (pe_ix ix_tup (pe_dget (hu_of hr) (pe_fld (pv 0) rfl) (pv 2) (fun _ _ => rfl)) pe_int (fun _ _ => rfl)) pa_nil)) pa_nil))))))
    (pss_one ps_never)
    pss_nil)
    (pss_cons (ps_lock (ps_setLc (i := 5) (own := [("run", 7)]) (g := gName 7)  rfl sc_Hall_tell.nd rfl rfl (sw_true rfl rfl rfl (by decide +kernel)) (pi_values (pe_fld (pv 0) rfl)) (blkOk_by (N := N_Hall_tell) (sc := defScope s_Hall_tell) (by decide +kernel)) (fun _ _ _ _ _ => pg_name (i := 7) sc_Hall_tell.nd rfl (Or.inl rfl) (hf := Or.inr rfl)) (fun _ _ _ _ _ => (pts_one (PW.pt (pw_and (pt_cmpR op_eq (pe_ix (ixK_tup (K := K) rfl) (pv 7) pe_int (fun _ _ => rfl)) (pv 1) (nomark _)) (pw_and1 (pt_cmpR op_eq (pe_ix (ixK_tup (K := K) rfl) (pv 7) pe_int (fun _ _ => rfl)) (pv 2) (nomark _))))))) (fun _ _ _ _ _ => (pe_ix (ixK_tup (K := K) rfl) (pv 7) pe_int (fun _ _ => rfl)))))
    (pss_cons (ps_if (pt_cmpR op_in_seq (pv 3) (pv 5) (by rfl))
    (pss_one ps_never)
    pss_nil)
    (pss_cons (ps_if (pt_cmpR op_eq (pe_callB call_len_seq (by rfl) T.n_len PySem.boot_len (pa_cons (pv 5) pa_nil)) (pe_gv (by rfl) T.c_MOST_RUNS) (nomark _))
    (pss_one ps_never)
    pss_nil)
    (pss_cons (ps_set (i := 6) sc_Hall_tell.nd rfl (Or.inl rfl) (pe_fld (pv 0) rfl))
    (pss_cons (ps_dput (hu_of hr) (pe_fld (pv 0) rfl) (pv 6) (pe_tup (pa_cons (pv 1) (pa_cons (pv 2) (pa_cons (pv 3) (pa_cons (pv 4) pa_nil))))) rfl)
    (pss_cons (ps_fldaug (pv 0) pe_int in_add)
    (pss_cons (ps_expr (pe_bm PySem.F.plainAttrs_list PySem.F.slot_list_append PySem.F.type_list_append mt_append (pe_fld (pv 0) rfl) (pa_cons (pe_tup (pa_cons pe_str (pa_cons (pv 1) (pa_cons (pv 2) (pa_cons (pv 3) (pa_cons (pv 4) pa_nil)))))) pa_nil)))
    (pss_one (ps_ret (pv 6)))))))))))))), ?_⟩
    refine ⟨_, rfl, a.h, _, _, rfl, hf.core.ob, f_no (by decide +kernel), _, rfl, a, st.runs.length, st.tasks, st.machines, n, m, rfl, hf.core.htg, hm, ?_⟩
    obtain ⟨kt, hT⟩ := hf.T
    obtain ⟨kr, hR⟩ := hf.R
    obtain ⟨kg, hG⟩ := hf.G
    obtain ⟨ps, hP, dP⟩ := hf.P
    obtain ⟨ds, hDn, dD⟩ := hf.D
    obtain ⟨kt', t1, t2, t3⟩ := hf.core.tasks
    have e := rd_is hT t1
    subst e
    obtain ⟨kr', r1, r2, r3⟩ := hf.core.runs
    have e := rd_is hR r1
    subst e
    obtain ⟨tv, tg, td⟩ := val_get t2 t3 (n := g) (d := t.dt) (by rw [getL_map, ht]; rfl)
    dsimp only
    refine if_no (fun F f => ?_) ?_
    · refine ⟨_, rfl, _, rfl, a.h, _, _, _, _, rfl, hf.core.ob, T.cl_Hall, T.nf_tasks, f_tasks, g, a.T, kt', rfl, t1, ?_⟩
      rw [tg]
      exact ⟨_, rfl, f⟩
    refine ⟨_, rfl, sd, rfl, s0, s9, ?_⟩
    dsimp only
    refine if_no (fun F f => ?_) ?_
    · obtain ⟨u, g2, d2⟩ := hf.core.tasks.at_ (f := Task.dt) ht
      obtain ⟨ta, tb, tu, rfl, hs, hb, hu, hl⟩ := dp_tk d2
      refine ⟨_, rfl, _, rfl, a.h, _, _, _, _, rfl, hf.core.ob, T.cl_Hall, T.nf_tasks, f_tasks, _, rfl, a.T, _, rfl, g2, ta, _, _, _, rfl, rfl, hs, at0, tb, tu, rfl, .inr hb, _, _, _, rfl, .int _, ?_⟩
      have e : isNum 0 (tu.length : Nat) (V.int x) = true := by
        show (decide (0 ≤ x) && decide (x ≤ (tu.length : Nat))) = true
        rw [decide_eq_true x0, decide_eq_true (by rw [hl]; exact x9)]
        rfl
      rw [e]
      exact ⟨_, rfl, f⟩
    have lk := kv_len r2
    have lc := cnt_len st.runs
    have lrn := ok.runs
    refine ⟨a.R, _, hR, trivial, fun od => ?_⟩
    have hfL := hf.core.lock (od := od) hR
    have ktl : KTL K H (upd H a.R (.frz od (.dK kr'))) := .lock hR
    have hRL : upd H a.R (.frz od (.dK kr')) a.R = some (.frz od (.dK kr')) := upd_same
    have r3L := dps_ktl ktl _ _ r3
    have oth : ∀ b, b ≠ a.R → upd H a.R (.frz od (.dK kr')) b = H b := fun b hb => upd_ne hb
    refine ⟨_, rfl, a.h, _, _, _, _, rfl, hfL.ob, T.cl_Hall, T.nf_runs, f_runs, a.R, od, _, rfl, hRL, fun D hD => ?_⟩
    have nRD2 : a.R ≠ D := ne_of_none hRL hD
    have unl : ∀ H1, Same (upd H a.R (.frz od (.dK kr'))) H1 → Same H (upd H1 a.R (.dK kr')) := fun H1 s => same_unlock hR s
    have hDn0 : H D = none := by
      rw [← oth D nRD2.symm]
      exact hD
    generalize upd H a.R (.frz od (.dK kr')) = H0 at hfL ktl hRL r3L oth hD unl
    refine lc_w walk_values [some (.ref a.h), some (.str n), some (.str g), some (.int sd), some (.int x), none, none, none] (fun i H' => Same H0 H' ∧ H' D = some (.lst (((((cnt st.runs).take i).filter (ofIn n g)).map fun p => p.1.seed).map V.int))) ⟨same_put (Same.refl _) hD, upd_same⟩ (fun i H' _ z => z.1 _ _ hRL) ?_ ?_
    · rintro i x H1 H2 hi ⟨s1, h1⟩ ⟨rfl, kx, ek⟩
      obtain ⟨r, mm, t, hm, rfl, rfl, ht⟩ := cnt_run r2 r3L ek
      have ht1 := KT.same s1 _ _ ht
      have es : (((cnt st.runs).take (i + 1)).filter (ofIn n g)) = (((cnt st.runs).take i).filter (ofIn n g)) ++ if ofIn n g (r, mm) = true then [(r, mm)] else [] := by
        rw [List.take_add_one, hm, List.filter_append]
        congr 1
        by_cases e : ofIn n g (r, mm) = true
        · rw [if_pos e]
          simp [List.filter_cons, e]
        · rw [if_neg e]
          simp [List.filter_cons, e]
      refine ⟨by walk_at "w", ?_⟩
      walk_at "z"
      refine ⟨_, rfl, t, _, _, _, rfl, rfl, ht1, at0, _, rfl, scal_str ⟨_, rfl, ?_⟩⟩
      have la : ((((cnt st.runs).take i).filter (ofIn n g)).map fun p => p.1.seed).length ≤ 1000 := by
        have q1 := List.length_filter_le (ofIn n g) ((cnt st.runs).take i)
        rw [List.length_take] at q1
        rw [List.length_map]
        omega
      have neg : ¬ ofIn n g (r, mm) = true → Same H0 H2 ∧ H2 D = some (.lst (((((cnt st.runs).take (i + 1)).filter (ofIn n g)).map fun p => p.1.seed).map V.int)) := fun f => by
        rw [es, if_neg f, List.append_nil]
        exact ⟨s1, h1⟩
      refine ite2 (fun e1 => ?_) (fun e1 => ?_)
      · refine ⟨_, rfl, t, _, _, _, rfl, rfl, ht1, at1, _, rfl, scal_str ⟨_, rfl, ?_⟩⟩
        refine ite2 (fun e2 => ?_) (fun e2 => ?_)
        · have f : ofIn n g (r, mm) = true := by
            unfold ofIn
            rw [e1, e2]
            rfl
          refine ⟨_, rfl, t, _, _, _, rfl, rfl, ht1, rfl, _, h1, by rw [List.length_map]; omega, same_put s1 hD, ?_⟩
          rw [upd_same, es, if_pos f, List.map_append, List.map_append]
          rfl
        · refine neg fun f => e2 ?_
          unfold ofIn at f
          rw [Bool.and_eq_true] at f
          exact f.2
      · refine iteF ?_
        refine neg fun f => e1 ?_
        unfold ofIn at f
        rw [Bool.and_eq_true] at f
        exact f.1
    · rintro H1 ⟨s1, h1⟩
      rw [lk, List.take_length] at h1
      refine ⟨s1 _ _ hRL, ?_⟩
      have su := unl _ s1
      have h2 := (upd_ne (o := .dK kr') nRD2.symm).trans h1
      have hR2 : upd H1 a.R (.dK kr') a.R = some (.dK kr') := upd_same
      generalize upd H1 a.R (.dK kr') = H2 at su h2 hR2
      have notin : sd ∉ ((cnt st.runs).filter (ofIn n g)).map fun p => p.1.seed := fun z => by
        obtain ⟨p, hp, e⟩ := List.mem_map.mp z
        obtain ⟨p1, p2⟩ := List.mem_filter.mp hp
        obtain ⟨p3, p4⟩ := List.mem_filter.mp p1
        obtain ⟨r, kq⟩ := p
        have p5 := List.mk_mem_zipIdx_iff_getElem?.mp p3
        refine new r (List.mem_of_getElem? p5) ?_ e
        unfold Run.isOf
        unfold ofIn at p2
        simp only [Bool.and_eq_true] at p2 ⊢
        exact ⟨p4, p2⟩
      have few : (((cnt st.runs).filter (ofIn n g)).map fun p => p.1.seed).length < 5 := by
        have e := congrArg List.length (inRuns_scores st.runs n g)
        unfold inRuns at e
        rw [List.length_map, List.length_map] at e
        rw [List.length_map, e]
        exact l5
      generalize ((cnt st.runs).filter (ofIn n g)).map (fun p => p.1.seed) = sds at h2 notin few
      dsimp only
      refine if_no (fun F f => ?_) ?_
      · refine ⟨_, rfl, _, rfl, D, _, rfl, .inl (SqL.of h2), rfl, by simp [flatV], ?_⟩
        have e : (if false = true then !inV (.int sd) (sds.map V.int) else inV (.int sd) (sds.map V.int)) = false := by
          rw [if_neg Bool.false_ne_true, inV_ints]
          exact decide_eq_false notin
        show ∃ k, V.bl (if false = true then !inV (.int sd) (sds.map V.int) else inV (.int sd) (sds.map V.int)) = V.bl k ∧ F k H2
        rw [e]
        exact ⟨_, rfl, f⟩
      refine if_no (fun F f => ?_) ?_
      · refine ⟨_, rfl, D, _, rfl, .inl (SqL.of h2), rfl, _, rfl, ?_⟩
        have e : decide (V.int ((sds.map V.int).length : Nat) = V.int 5) = false := by rw [dI, List.length_map]; exact decide_eq_false (by omega)
        rw [e]
        exact f
      have core2 := hf.core.same su
      refine ⟨_, rfl, a.h, _, _, _, _, rfl, core2.ob, T.cl_Hall, T.nf_next_run, f_next, ?_⟩
      -- self.runs[number] = (machine, task, seed, score)
      refine ⟨_, rfl, _, rfl, _, rfl, _, rfl, by show 4 ≤ sizeLine; decide, fun q hq => ?_⟩
      have s3 := same_put (o := .tup [.str n, .str g, .int sd, .int x]) (Same.refl H2) hq
      have hq3 : upd H2 q (.tup [.str n, .str g, .int sd, .int x]) q = some (.tup [.str n, .str g, .int sd, .int x]) := upd_same
      generalize upd H2 q (.tup [.str n, .str g, .int sd, .int x]) = H3 at s3 hq3
      have hf3 := hf.same (su.trans s3)
      have hR3 := s3 _ _ hR2
      refine ⟨_, rfl, a.h, _, _, _, _, rfl, hf3.core.ob, T.cl_Hall, T.nf_runs, f_runs, _, rfl, a.R, _, rfl, DPut.k (k := Sum.inl (st.runs.length : Int)) hR3 (by omega), ?_⟩
      have nk : (Sum.inl (st.runs.length : Int) : Key) ∉ kr'.map (·.1) := fun z => by
        rw [r2] at z
        obtain ⟨p, hp, e⟩ := List.mem_map.mp z
        obtain ⟨r, kq⟩ := p
        have p5 := List.mk_mem_zipIdx_iff_getElem?.mp (List.mem_filter.mp hp).1
        have p6 := (List.getElem?_eq_some_iff.mp p5).1
        injection e with e
        have e : (kq : Int) = (st.runs.length : Int) := e
        omega
      rw [putK_end nk]
      have b4 : Bt [a.R] H3 (upd H3 a.R (.dK (kr' ++ [(Sum.inl (st.runs.length : Int), V.ref q)]))) := Bt.refl.set (by simp)
      have kt4 : KT K H3 (upd H3 a.R (.dK (kr' ++ [(Sum.inl (st.runs.length : Int), V.ref q)]))) := bt_one b4 hR3
      have hR4 : upd H3 a.R (.dK (kr' ++ [(Sum.inl (st.runs.length : Int), V.ref q)])) a.R = some (.dK (kr' ++ [(Sum.inl (st.runs.length : Int), V.ref q)])) := upd_same
      generalize upd H3 a.R (.dK (kr' ++ [(Sum.inl (st.runs.length : Int), V.ref q)])) = H4 at b4 kt4 hR4
      have htg4 := hf3.core.htg.bt b4 kt4 (by simpa using nhR) (by simpa using nTR) (by simpa using nGR)
      have r34 := dps_keep kt4 _ _ (tds_runs _) (dps_same (su.trans s3) _ _ r3)
      have q4 : Dp K H4 (.ref q) (Run.dt ⟨n, g, sd, x, true⟩) := .tup (kt4 _ _ (SqT.of hq3)) (.cons (.str _) (.cons (.str _) (.cons (.int _) (.cons (.int _) .nil))))
      have dn4 : ∀ {b : Addr} {o : HO}, b ≠ a.R → H b = some o → H4 b = some o := fun {b o} hb e => b4 _ _ (by simpa using hb) (s3 _ _ (su _ _ e))
      have dP4 := dps_keep kt4 _ _ hf.tdP (dps_same (su.trans s3) _ _ dP)
      have dD4 := dps_keep kt4 _ _ hf.tdD (dps_same (su.trans s3) _ _ dD)
      -- self.next_run += 1
      refine ⟨_, rfl, a.h, _, _, _, _, rfl, htg4.ob, T.cl_Hall, T.nf_next_run, f_next, ?_⟩
      refine ⟨_, _, rfl, rfl, _, _, htg4.ob, Nat.le_of_ble_eq_true rfl, ?_⟩
      have ef : putF "next_run" (V.int ((st.runs.length : Int) + 1)) (hflds a st.runs.length a.dl) = hflds a (st.runs.length + 1) a.dl := f_put (by omega)
      rw [ef]
      have kt5 : KT K H4 (upd H4 a.h (.ins A.Hall a.dx (hflds a (st.runs.length + 1) a.dl))) := (KTL.putI htg4.ob).t
      have b5 : Bt [a.h] H4 (upd H4 a.h (.ins A.Hall a.dx (hflds a (st.runs.length + 1) a.dl))) := Bt.refl.set (by simp)
      have htg5 : HTG K A.Hall (upd H4 a.h (.ins A.Hall a.dx (hflds a (st.runs.length + 1) a.dl))) a (st.runs.length + 1) st.tasks st.machines := by
        obtain ⟨_, ⟨k1, a1, b1, c1⟩, ⟨k2, a2, b2, c2⟩⟩ := htg4
        exact ⟨upd_same, ⟨k1, rd_upd (kv2 := k1) nhT.symm a1, b1, dps_keep kt5 _ _ (tds_fst fun t => task_td t) c1⟩, ⟨k2, rd_upd (kv2 := k2) nhG.symm a2, b2, dps_keep kt5 _ _ (tds_fst fun m => mach_td m) c2⟩⟩
      generalize upd H4 a.h (.ins A.Hall a.dx (hflds a (st.runs.length + 1) a.dl)) = H5 at kt5 b5 htg5
      have dn5 : ∀ {b : Addr} {o : HO}, b ≠ a.h → H4 b = some o → H5 b = some o := fun {b o} hb e => b5 _ _ (by simpa using hb) e
      have r35 := dps_keep kt5 _ _ (tds_runs _) r34
      have q5 := dp_keep kt5 _ _ (run_td _) q4
      have dP5 := dps_keep kt5 _ _ hf.tdP dP4
      have dD5 := dps_keep kt5 _ _ hf.tdD dD4
      have hD5 := dn5 nhD.symm (dn4 nRD.symm hDn)
      have hP5 := dn5 nhP.symm (dn4 nRP.symm hP)
      have hT5 := dn5 nhT.symm (dn4 nTR hT)
      have hG5 := dn5 nhG.symm (dn4 nGR hG)
      have hR5 := dn5 nhR.symm hR4
      have lds : ds.length ≤ 1000 := by
        rw [dps_len dD]
        exact ok.deeds
      refine ⟨_, rfl, a.h, _, _, _, _, rfl, htg5.ob, T.cl_Hall, T.nf_done, f_done, .inl ⟨rfl, _, SqL.of hD5⟩, _, rfl, _, rfl, _, rfl, _, rfl, by show 5 ≤ sizeLine; decide, fun q6 hq6 => ?_⟩
      have s6 := same_put (o := .tup [.str "tell", .str n, .str g, .int sd, .int x]) (Same.refl H5) hq6
      have hq6 : upd H5 q6 (.tup [.str "tell", .str n, .str g, .int sd, .int x]) q6 = some (.tup [.str "tell", .str n, .str g, .int sd, .int x]) := upd_same
      generalize upd H5 q6 (.tup [.str "tell", .str n, .str g, .int sd, .int x]) = H6 at s6 hq6
      have hD6 := s6 _ _ hD5
      refine ⟨a.D, ds, _, rfl, rfl, hD6, by omega, ?_⟩
      have b7 : Bt [a.D] H6 (upd H6 a.D (.lst (ds ++ [.ref q6]))) := Bt.refl.set (by simp)
      have kt7 : KT K H6 (upd H6 a.D (.lst (ds ++ [.ref q6]))) := b7.kt1 hD6
      have htg7 : HTG K A.Hall (upd H6 a.D (.lst (ds ++ [.ref q6]))) a (st.runs.length + 1) st.tasks st.machines := (htg5.same s6).bt b7 kt7 (by simpa using nhD) (by simpa using nTD) (by simpa using nGD)
      have h7D : upd H6 a.D (.lst (ds ++ [.ref q6])) a.D = some (.lst (ds ++ [.ref q6])) := upd_same
      generalize upd H6 a.D (.lst (ds ++ [.ref q6])) = H7 at kt7 b7 htg7 h7D
      have dn7 : ∀ {b : Addr} {o : HO}, b ≠ a.D → H5 b = some o → H7 b = some o := fun {b o} hb e => b7 _ _ (by simpa using hb) (s6 _ _ e)
      have hR7 := dn7 nRD hR5
      have cm : cnt (stepS st (.tell n g sd x)).runs = cnt st.runs ++ [(⟨n, g, sd, x, true⟩, st.runs.length)] := cnt_snoc _ _
      have run7 : RunDict K H7 a.R (stepS st (.tell n g sd x)).runs := by
        refine ⟨_, .inl hR7, ?_, ?_⟩
        · rw [cm, List.map_append, List.map_append, r2]
          rfl
        · rw [cm, List.map_append, List.map_append]
          exact dps_snoc (dps_keep kt7 _ _ (tds_runs _) (dps_same s6 _ _ r35)) (dp_keep kt7 _ _ (run_td _) (dp_same s6 _ _ q5))
      have lrs : (stepS st (.tell n g sd x)).runs.length = st.runs.length + 1 := by
        show (st.runs ++ [_]).length = _
        rw [List.length_append]
        rfl
      have core7 : HCore K A.Hall H7 a (stepS st (.tell n g sd x)) := ⟨by rw [lrs]; exact htg7.ob, htg7.tasks, htg7.machines, run7, hf.core.ne⟩
      have full7 : HFull K A.Hall H7 a (stepS st (.tell n g sd x)) := by
        refine ⟨core7, ⟨_, dn7 nTD hT5⟩, ⟨_, dn7 nGD hG5⟩, ⟨_, hR7⟩, ⟨ps, dn7 hf.nPD hP5, dps_keep kt7 _ _ hf.tdP (dps_same s6 _ _ dP5)⟩, ⟨_, h7D, ?_⟩, hf.tdP, ?_, hf.nPD⟩
        · refine dps_snoc (dps_keep kt7 _ _ hf.tdD (dps_same s6 _ _ dD5)) ?_
          exact .tup (kt7 _ _ (SqT.of hq6)) (.cons (.str _) (.cons (.str _) (.cons (.str _) (.cons (.int _) (.cons (.int _) .nil)))))
        · exact tds_mem.mpr fun d hd => by
            rcases List.mem_append.mp hd with hd | hd
            · exact tds_mem.mp hf.tdD d hd
            · have e : d = (Deed.tell n g sd x).dt := by simpa using hd
              rw [e]
              exact deed_td _
      have btA : Bt (hallF a) H H7 := (Bt.of_same (su.trans s3)).trans ((b4.mono (by simp [hallF])).trans ((b5.mono (by simp [hallF])).trans ((Bt.of_same s6).trans (b7.mono (by simp [hallF])))))
      exact ⟨_, rfl, k H7 btA full7⟩
end
end Mh
namespace Mh
open PySem L2
local macro_rules | `(tactic| walk_at "z") => `(tactic| simp only [List.set_cons_succ, List.set_cons_zero])
local macro_rules | `(tactic| walk_at "w") => `(tactic| simp only [wipe, List.map, List.set_cons_succ, List.set_cons_zero])
theorem cnt_off (rs : List Run) (k : Nat) : cnt (rs.modify k off) = (cnt rs).filter fun p => !decide (p.2 = k) := by
  have e : ∀ (rs : List Run) (n k : Nat), ((rs.modify k off).zipIdx n).filter (·.1.counts) = ((rs.zipIdx n).filter (·.1.counts)).filter fun p => !decide (p.2 = n + k) := by
    intro rs
    induction rs with
    | nil =>
      intro n k
      simp
    | cons r rs ih =>
      intro n k
      cases k with
      | zero =>
        have big : ∀ p ∈ (rs.zipIdx (n + 1)).filter (·.1.counts), (!decide (p.2 = n + 0)) = true := fun p hp => by
          have q := List.le_snd_of_mem_zipIdx (List.mem_filter.mp hp).1
          have ne : ¬ p.2 = n + 0 := by omega
          rw [decide_eq_false ne]
          rfl
        have e0 : (r :: rs).modify 0 off = off r :: rs := rfl
        rw [e0, List.zipIdx_cons, List.zipIdx_cons, List.filter_cons, List.filter_cons]
        have f : (off r).counts = false := rfl
        simp only [f]
        by_cases c : r.counts = true
        · rw [if_pos c, List.filter_cons]
          simp only [Nat.add_zero, decide_true, Bool.not_true]
          exact (List.filter_eq_self.mpr big).symm
        · rw [if_neg c]
          exact (List.filter_eq_self.mpr big).symm
      | succ k =>
        have e0 : (r :: rs).modify (k + 1) off = r :: rs.modify k off := rfl
        have ne : ¬ n = n + (k + 1) := by omega
        have ea : ∀ m, (m = n + (k + 1)) = (m = n + 1 + k) := fun m => by rw [Nat.add_assoc, Nat.add_comm 1 k]
        rw [e0, List.zipIdx_cons, List.zipIdx_cons, List.filter_cons, List.filter_cons, ih]
        by_cases c : r.counts = true
        · rw [if_pos c, if_pos c, List.filter_cons]
          simp only [ne, decide_false, Bool.not_false, if_true, ea]
        · rw [if_neg c, if_neg c]
          simp only [ea]
  have q := e rs 0 k
  simp only [Nat.zero_add] at q
  exact q
theorem drop_runs {K : PySem.W.Frag} {H : Hp} (k : Nat) : ∀ (l : List (Run × Nat)) (kv : List (Key × V)), kv.map (·.1) = l.map (fun p => Sum.inl (p.2 : Int)) → DpAll K H (kv.map (·.2)) (l.map fun p => p.1.dt) →
    (dropK kv (Sum.inl (k : Int))).map (·.1) = (l.filter fun p => !decide (p.2 = k)).map (fun p => Sum.inl (p.2 : Int)) ∧ DpAll K H ((dropK kv (Sum.inl (k : Int))).map (·.2)) ((l.filter fun p => !decide (p.2 = k)).map fun p => p.1.dt)
  | [], kv, h1, h2 => by
    have e : kv = [] := List.map_eq_nil_iff.mp h1
    subst e
    exact ⟨rfl, .nil⟩
  | p :: l, [], h1, h2 => by cases h1
  | p :: l, q :: kv, h1, h2 => by
    rw [List.map_cons, List.map_cons] at h1
    injection h1 with e1 e2
    rw [List.map_cons, List.map_cons] at h2
    obtain ⟨x, xs, ex, g1, g2⟩ := dps_cons h2
    injection ex with ex1 ex2
    rw [← ex2] at g2
    rw [← ex1] at g1
    obtain ⟨i1, i2⟩ := drop_runs k l kv e2 g2
    unfold dropK at i1 i2 ⊢
    rw [List.filter_cons, List.filter_cons]
    by_cases c : p.2 = k
    · have c1 : q.1 = Sum.inl (k : Int) := by rw [e1, c]
      rw [if_neg (by simp [c1]), if_neg (by simp [c])]
      exact ⟨i1, i2⟩
    · have c1 : ¬ q.1 = Sum.inl (k : Int) := fun z => by
        rw [e1] at z
        injection z with z
        exact c (by omega)
      rw [if_pos (by simp [c1]), if_pos (by simp [c]), List.map_cons, List.map_cons, List.map_cons, List.map_cons, i1, e1]
      exact ⟨rfl, .cons g1 i2⟩
def spStrikeM (K : PySem.W.Frag) (C : Addr) : Sp := fun vs H Q _ => ∃ (a : PAd) (st : LHall) (i : Nat) (r : Run), vs = [.ref a.h, .int (i : Nat)] ∧ HFull K C H a st ∧ StOk st ∧ StOk (stepS st (.strike i)) ∧ st.runs[i]? = some r ∧ r.counts = true ∧
  ∀ p H' us, H p = none → Bt (hallF a) H H' → HFull K C H' a (stepS st (.strike i)) → H' p = some (.lst us) → DpAll K H' us ((chgS st (stepS st (.strike i))).map chgDt) → Q (.ref p) H'
section
variable {P : Program} {w : World} {K : PySem.W.Frag} {mg : Str → Option Value} {base : Heap} {A : Adr}
theorem ok_Hall_strike (T : Txt K mg A) : FnOk P w K mg base CX0 7 A.Hall_strike A.Hall_strike_ ["self", "number"] (spStrikeM K A.Hall) := by
  refine T.Hall_strike.F.ok sc_Hall_strike (fun vs H Q E h => ?_) (fun cdv Ar outer s H vs Q E hr h => ?_)
  · obtain ⟨a, st, i, r, rfl, _⟩ := h
    rfl
  · obtain ⟨a, st, i, r, rfl, hf, ok, ok', hr2, rc, k⟩ := h
    have hL := sizeLine_eq
    obtain ⟨nhT, nhG, nhR, nhP, nhD, nTP, nTD, nGP, nGD, nRP, nRD⟩ := hf.ne
    obtain ⟨nTG, nTR, nGR⟩ := hf.core.ne
    refine ⟨_, (pss_cons (ps_if (PW.pt (pw_or (pt_not (pt_val (pe_call (ok_is_number T) (hr.mono (by decide)) (by rfl) T.is_number.n T.is_number.F.kp T.is_number.b .nil pass0 (pa_cons (pv 1) (pa_cons pe_int (pa_cons (pe_op op_sub (pe_fld (pv 0) rfl) pe_int) pa_nil)))))) (pw_or1 (pt_cmp (pc_dnotin (hu_of hr) (pv 1) (pe_fld (pv 0) rfl))))))
    (pss_one ps_never)
    pss_nil)
    (pss_cons (ps_set (i := 2) sc_Hall_strike.nd rfl (Or.inl rfl) (pe_meth0 (pv 0) T.cl_Hall T.Hall_ranks_now.m (ok_Hall_ranks_now T) (hr.mono (by decide)) T.Hall_ranks_now.b .nil pass0))
    (pss_cons (ps_ddel (pe_fld (pv 0) rfl) (pv 1))
    (pss_cons (ps_expr (pe_bm PySem.F.plainAttrs_list PySem.F.slot_list_append PySem.F.type_list_append mt_append (pe_fld (pv 0) rfl) (pa_cons (pe_tup (pa_cons pe_str (pa_cons (pv 1) pa_nil))) pa_nil)))
    (pss_one (ps_ret (pe_call (ok_changes T) (hr.mono (by decide)) (by rfl) T.changes.n T.changes.F.kp T.changes.b .nil pass0 (pa_cons (pv 2) (pa_cons (pe_meth0 (pv 0) T.cl_Hall T.Hall_ranks_now.m (ok_Hall_ranks_now T) (hr.mono (by decide)) T.Hall_ranks_now.b .nil pass0) pa_nil))))))))), ?_⟩
    obtain ⟨kt, hT⟩ := hf.T
    obtain ⟨kr, hR⟩ := hf.R
    obtain ⟨kr', r1, r2, r3⟩ := hf.core.runs
    have e := rd_is hR r1
    subst e
    have il := (List.getElem?_eq_some_iff.mp hr2).1
    have inC : (r, i) ∈ cnt st.runs := List.mem_filter.mpr ⟨List.mk_mem_zipIdx_iff_getElem?.mpr hr2, rc⟩
    have inK : (Sum.inl (i : Int) : Key) ∈ kr'.map (·.1) := by
      rw [r2]
      exact List.mem_map.mpr ⟨(r, i), inC, rfl⟩
    have vi : (valV kr' (Sum.inl (i : Int))).isSome = true := by
      cases c : valV kr' (Sum.inl (i : Int)) with
      | some v => rfl
      | none => exact absurd inK (valV_not c)
    dsimp only
    refine if_no (fun F f => ?_) ?_
    · refine ⟨_, rfl, _, rfl, a.h, _, _, _, _, rfl, hf.core.ob, T.cl_Hall, T.nf_next_run, f_next, _, _, rfl, rfl, _, _, _, rfl, .int _, ?_⟩
      have e : isNum 0 ((st.runs.length : Int) - 1) (V.int (i : Nat)) = true := by
        show (decide ((0 : Int) ≤ (i : Nat)) && decide (((i : Nat) : Int) ≤ (st.runs.length : Int) - 1)) = true
        rw [decide_eq_true (by omega), decide_eq_true (by omega)]
        rfl
      rw [e]
      refine ⟨_, rfl, ?_⟩
      refine iteF ?_
      refine ⟨_, rfl, _, rfl, a.h, _, _, _, _, rfl, hf.core.ob, T.cl_Hall, T.nf_runs, f_runs, a.R, _, rfl, dget_rd (k := Sum.inl (i : Int)) r1, _, rfl, ?_⟩
      rw [vi]
      exact f
    refine ⟨_, rfl, a.h, _, _, rfl, hf.core.ob, f_no (by decide +kernel), a, st, kt, kr', rfl, hf.core, hT, hR, ok, fun p1 H3 hp1 s3 h3 => ?_⟩
    have hf3 := hf.same s3
    have hT3 := s3 _ _ hT
    have hR3 := s3 _ _ hR
    obtain ⟨kg, hG3⟩ := hf3.G
    obtain ⟨ps, hP3, dP3⟩ := hf3.P
    obtain ⟨ds, hD3, dD3⟩ := hf3.D
    have p1n : p1 ∉ hallF a := hf.fresh hp1
    simp only [hallF, List.mem_cons, List.not_mem_nil, or_false, not_or] at p1n
    obtain ⟨z1, z2, z3, z4, z5, z6⟩ := p1n
    refine ⟨_, rfl, a.h, _, _, _, _, rfl, hf3.core.ob, T.cl_Hall, T.nf_runs, f_runs, _, rfl, a.R, _, Sum.inl (i : Int), rfl, hR3, rfl, vi, ?_⟩
    have b4 : Bt [a.R] H3 (upd H3 a.R (.dK (dropK kr' (Sum.inl (i : Int))))) := Bt.refl.set (by simp)
    have kt4 : KT K H3 (upd H3 a.R (.dK (dropK kr' (Sum.inl (i : Int))))) := bt_one b4 hR3
    have hR4 : upd H3 a.R (.dK (dropK kr' (Sum.inl (i : Int)))) a.R = some (.dK (dropK kr' (Sum.inl (i : Int)))) := upd_same
    generalize upd H3 a.R (.dK (dropK kr' (Sum.inl (i : Int)))) = H4 at b4 kt4 hR4
    have htg4 := hf3.core.htg.bt b4 kt4 (by simpa using nhR) (by simpa using nTR) (by simpa using nGR)
    have dr := drop_runs (K := K) i (cnt st.runs) kr' r2 (dps_keep kt4 _ _ (tds_runs _) (dps_same s3 _ _ r3))
    rw [← cnt_off] at dr
    have dn4 : ∀ {b : Addr} {o : HO}, b ≠ a.R → H3 b = some o → H4 b = some o := fun {b o} hb e => b4 _ _ (by simpa using hb) e
    have hT4 := dn4 nTR hT3
    have hG4 := dn4 nGR hG3
    have hP4 := dn4 nRP.symm hP3
    have hD4 := dn4 nRD.symm hD3
    have dP4 := dps_keep kt4 _ _ hf.tdP dP3
    have dD4 := dps_keep kt4 _ _ hf.tdD dD3
    have h14 := dn4 z4 h3
    have lds : ds.length ≤ 1000 := by
      rw [dps_len dD3]
      exact ok.deeds
    refine ⟨_, rfl, a.h, _, _, _, _, rfl, htg4.ob, T.cl_Hall, T.nf_done, f_done, .inl ⟨rfl, _, SqL.of hD4⟩, _, rfl, by show 2 ≤ sizeLine; decide, fun q hq => ?_⟩
    have s6 := same_put (o := .tup [.str "strike", .int (i : Nat)]) (Same.refl H4) hq
    have hq6 : upd H4 q (.tup [.str "strike", .int (i : Nat)]) q = some (.tup [.str "strike", .int (i : Nat)]) := upd_same
    generalize upd H4 q (.tup [.str "strike", .int (i : Nat)]) = H6 at s6 hq6
    have hD6 := s6 _ _ hD4
    refine ⟨a.D, ds, _, rfl, rfl, hD6, by omega, ?_⟩
    have b7 : Bt [a.D] H6 (upd H6 a.D (.lst (ds ++ [.ref q]))) := Bt.refl.set (by simp)
    have kt7 : KT K H6 (upd H6 a.D (.lst (ds ++ [.ref q]))) := b7.kt1 hD6
    have htg7 : HTG K A.Hall (upd H6 a.D (.lst (ds ++ [.ref q]))) a st.runs.length st.tasks st.machines := (htg4.same s6).bt b7 kt7 (by simpa using nhD) (by simpa using nTD) (by simpa using nGD)
    have h7D : upd H6 a.D (.lst (ds ++ [.ref q])) a.D = some (.lst (ds ++ [.ref q])) := upd_same
    generalize upd H6 a.D (.lst (ds ++ [.ref q])) = H7 at kt7 b7 htg7 h7D
    have dn7 : ∀ {b : Addr} {o : HO}, b ≠ a.D → H4 b = some o → H7 b = some o := fun {b o} hb e => b7 _ _ (by simpa using hb) (s6 _ _ e)
    have hR7 := dn7 nRD hR4
    have run7 : RunDict K H7 a.R (stepS st (.strike i)).runs := ⟨_, .inl hR7, dr.1, dps_keep kt7 _ _ (tds_runs _) (dps_same s6 _ _ dr.2)⟩
    have lrs : (stepS st (.strike i)).runs.length = st.runs.length := List.length_modify ..
    have core7 : HCore K A.Hall H7 a (stepS st (.strike i)) := ⟨by rw [lrs]; exact htg7.ob, htg7.tasks, htg7.machines, run7, hf.core.ne⟩
    have full7 : HFull K A.Hall H7 a (stepS st (.strike i)) := by
      refine ⟨core7, ⟨_, dn7 nTD hT4⟩, ⟨_, dn7 nGD hG4⟩, ⟨_, hR7⟩, ⟨ps, dn7 hf.nPD hP4, dps_keep kt7 _ _ hf.tdP (dps_same s6 _ _ dP4)⟩, ⟨_, h7D, ?_⟩, hf.tdP, ?_, hf.nPD⟩
      · refine dps_snoc (dps_keep kt7 _ _ hf.tdD (dps_same s6 _ _ dD4)) ?_
        exact .tup (kt7 _ _ (SqT.of hq6)) (.cons (.str _) (.cons (.int _) .nil))
      · exact tds_mem.mpr fun d hd => by
          rcases List.mem_append.mp hd with hd | hd
          · exact tds_mem.mp hf.tdD d hd
          · have e : d = (Deed.strike i).dt := by simpa using hd
            rw [e]
            exact deed_td _
    have btA : Bt (hallF a) H H7 := (Bt.of_same s3).trans ((b4.mono (by simp [hallF])).trans ((Bt.of_same s6).trans (b7.mono (by simp [hallF]))))
    have h17 := dn7 z6 h14
    refine ⟨_, rfl, _, rfl, a.h, _, _, rfl, core7.ob, f_no (by decide +kernel), a, stepS st (.strike i), _, _, rfl, core7, dn7 nTD hT4, hR7, ok', fun p2 H8 hp2 s8 h8 => ?_⟩
    refine ⟨p1, p2, ranksL st, ranksL (stepS st (.strike i)), namesG st, rfl, .inl (s8 _ _ h17), .inl h8, ranksL_nd ok, ranksL_nd ok', by have := ranksL_len ok; omega, by have := ranksL_len ok'; omega, ok.ndG, fun m hm => ?_, fun p H9 us hp s9 h9 d9 => ?_⟩
    · rcases hm with hm | hm
      · exact names_sub hm
      · exact names_sub (st := stepS st (.strike i)) hm
    · have fr : H p = none := (btA.trans (Bt.of_same s8)).free (S := hallF a) (fun z => full7.old z (same_none s8 hp)) hp
      exact k p H9 us fr (btA.trans (Bt.of_same (s8.trans s9))) ((full7.same s8).same s9) h9 d9
end
end Mh
namespace Mh
open PySem L2
local macro_rules | `(tactic| walk_at "z") => `(tactic| simp only [List.set_cons_succ, List.set_cons_zero])
local macro_rules | `(tactic| walk_at "w") => `(tactic| simp only [wipe, List.map, List.set_cons_succ, List.set_cons_zero])
/-- a run that counts, beside what it comes to -/
def prtOf (st : LHall) (p : Run × Nat) : Prt := ⟨p.2, p.1.score, scoreOf st p.1.who p.1.goal p.1.seed⟩
theorem cnt_ns (st : LHall) : (cnt st.runs).map (·.2) = countNs st st.runs.length := by
  unfold cnt countNs
  have e : st.runs.zipIdx.filter (·.1.counts) = st.runs.zipIdx.filter ((countsAt st) ∘ fun p : Run × Nat => p.2) := List.filter_congr fun p hp => by
    have q := List.mk_mem_zipIdx_iff_getElem?.mp (show (p.1, p.2) ∈ st.runs.zipIdx from hp)
    show p.1.counts = (st.runs[p.2]?).any (·.counts)
    rw [q]
    rfl
  rw [e, ← List.filter_map, List.zipIdx_map_snd, List.range_eq_range']
theorem parted_eq (st : LHall) : ((cnt st.runs).map (prtOf st)).filter Prt.off = partedL st := by
  unfold partedL
  rw [← cnt_ns, List.map_map]
  refine congrArg (List.filter _) (List.map_congr_left fun p hp => ?_)
  have q := List.mk_mem_zipIdx_iff_getElem?.mp (show (p.1, p.2) ∈ st.runs.zipIdx from (List.mem_filter.mp hp).1)
  show prtOf st p = prtAt st p.2
  unfold prtAt
  rw [q]
  rfl
def spPartedM (K : PySem.W.Frag) (C : Addr) : Sp := fun vs H Q _ => ∃ (a : PAd) (st : LHall) (kv : List (Key × V)), vs = [.ref a.h] ∧ HCore K C H a st ∧ H a.R = some (.dK kv) ∧ StOk st ∧
  ∀ p H' us, H p = none → Same H H' → H' p = some (.lst us) → DpAll K H' us ((partedL st).map Prt.dt) → Q (.ref p) H'
theorem cnt_nd2 (rs : List Run) : ((cnt rs).map (·.2)).Nodup := by
  have e : (rs.zipIdx.map (·.2)).Nodup := by
    rw [List.zipIdx_map_snd]
    exact List.nodup_range'
  exact List.Nodup.sublist (List.Sublist.map _ List.filter_sublist) e
/-- the numbers of those that part -/
def ksOf (st : LHall) : List Nat := (partedL st).map (·.k)
theorem ks_eq (st : LHall) : ksOf st = ((cnt st.runs).filter fun p => parts st p.1).map (·.2) := by
  unfold ksOf
  rw [← parted_eq, List.filter_map, List.map_map]
  have e : (cnt st.runs).filter (Prt.off ∘ prtOf st) = (cnt st.runs).filter fun p => parts st p.1 := List.filter_congr fun p hp => by
    have c : p.1.counts = true := (List.mem_filter.mp hp).2
    show (!decide (p.1.score = scoreOf st p.1.who p.1.goal p.1.seed)) = parts st p.1
    unfold parts
    rw [c]
    rfl
  rw [e]
  rfl
theorem ks_nd (st : LHall) : (ksOf st).Nodup := by
  rw [ks_eq]
  exact List.Nodup.sublist (List.Sublist.map _ List.filter_sublist) (cnt_nd2 st.runs)
theorem cnt_same {rs : List Run} {p q : Run × Nat} (hp : p ∈ cnt rs) (hq : q ∈ cnt rs) (e : p.2 = q.2) : p = q := by
  have h1 := List.mk_mem_zipIdx_iff_getElem?.mp (show (p.1, p.2) ∈ rs.zipIdx from (List.mem_filter.mp hp).1)
  have h2 := List.mk_mem_zipIdx_iff_getElem?.mp (show (q.1, q.2) ∈ rs.zipIdx from (List.mem_filter.mp hq).1)
  rw [e, h2] at h1
  exact Prod.ext (Option.some.inj h1).symm e
theorem cnt_clean (st : LHall) : cnt (stepS st .clean).runs = (cnt st.runs).filter fun p => !decide (p.2 ∈ ksOf st) := by
  have e1 : (cnt st.runs).filter (fun p => !decide (p.2 ∈ ksOf st)) = (cnt st.runs).filter fun p => !parts st p.1 := List.filter_congr fun p hp => by
    congr 1
    rw [ks_eq]
    cases c : parts st p.1 with
    | true => exact decide_eq_true (List.mem_map.mpr ⟨p, List.mem_filter.mpr ⟨hp, c⟩, rfl⟩)
    | false =>
      refine decide_eq_false fun z => ?_
      obtain ⟨q, hq, e⟩ := List.mem_map.mp z
      obtain ⟨hq1, hq2⟩ := List.mem_filter.mp hq
      have eq := cnt_same hq1 hp e
      rw [eq, c] at hq2
      cases hq2
  rw [e1]
  show cnt (st.runs.map fun r => if parts st r = true then off r else r) = _
  unfold cnt
  rw [List.zipIdx_map, List.filter_map, List.filter_filter]
  have e2 : st.runs.zipIdx.filter ((fun p : Run × Nat => p.1.counts) ∘ Prod.map (fun r => if parts st r = true then off r else r) id) = st.runs.zipIdx.filter fun p => !parts st p.1 && p.1.counts := List.filter_congr fun p hp => by
    show (if parts st p.1 = true then off p.1 else p.1).counts = (!parts st p.1 && p.1.counts)
    cases c : parts st p.1 with
    | true => rfl
    | false =>
      rw [if_neg (by simp)]
      simp
  rw [e2]
  have e3 : ∀ p ∈ st.runs.zipIdx.filter (fun p => !parts st p.1 && p.1.counts), Prod.map (fun r => if parts st r = true then off r else r) id p = p := fun p hp => by
    have q := (List.mem_filter.mp hp).2
    rw [Bool.and_eq_true] at q
    have c : parts st p.1 = false := by simpa using q.1
    show ((if parts st p.1 = true then off p.1 else p.1), p.2) = p
    rw [if_neg (by rw [c]; simp)]
  rw [List.map_congr_left e3, List.map_id']
def spCleanM (K : PySem.W.Frag) (C : Addr) : Sp := fun vs H Q _ => ∃ (a : PAd) (st : LHall), vs = [.ref a.h] ∧ HFull K C H a st ∧ StOk st ∧ StOk (stepS st .clean) ∧
  ∀ p H' us, H p = none → Bt (hallF a) H H' → HFull K C H' a (stepS st .clean) → H' p = some (.lst us) → DpAll K H' us ((chgS st (stepS st .clean)).map chgDt) → Q (.ref p) H'
section
variable {P : Program} {w : World} {K : PySem.W.Frag} {mg : Str → Option Value} {base : Heap} {A : Adr}
end
end Mh
namespace Mh
open PySem L2
local macro_rules | `(tactic| walk_at "z") => `(tactic| simp only [List.set_cons_succ, List.set_cons_zero])
def spPublishM (K : PySem.W.Frag) (C : Addr) : Sp := fun vs H Q _ => ∃ (a : PAd) (st : LHall), vs = [.ref a.h] ∧ HFull K C H a st ∧ StOk st ∧
  ∀ H', Bt (hallF a) H H' → HFull K C H' a (stepS st .publish) → Q (.int st.pages.length) H'
def spPageM (K : PySem.W.Frag) (C : Addr) : Sp := fun vs H Q _ => ∃ (a : PAd) (st : LHall) (i : Nat) (pg : List PyData), vs = [.ref a.h, .int (i : Nat)] ∧ HFull K C H a st ∧ StOk st ∧ st.pages[i]? = some pg ∧
  ∀ p H' us, H p = none → Same H H' → H' p = some (.lst us) → DpAll K H' us pg → Q (.ref p) H'
def spDeedsM (K : PySem.W.Frag) (C : Addr) : Sp := fun vs H Q _ => ∃ (a : PAd) (st : LHall), vs = [.ref a.h] ∧ HFull K C H a st ∧
  ∀ p H' us, H p = none → Same H H' → H' p = some (.lst us) → DpAll K H' us st.deeds → Q (.ref p) H'
def spCheckPage (K : PySem.W.Frag) (C : Addr) : Sp := fun vs H Q _ => ∃ (a : PAd) (st : LHall) (i : Nat), vs = [.ref a.h, .int (i : Nat)] ∧ HFull K C H a st ∧ i < st.pages.length ∧ Q .non H
section
variable {P : Program} {w : World} {K : PySem.W.Frag} {mg : Str → Option Value} {base : Heap} {A : Adr}
theorem ok_Hall_deeds (T : Txt K mg A) : FnOk P w K mg base CX0 1 A.Hall_deeds A.Hall_deeds_ ["self"] (spDeedsM K A.Hall) := by
  refine T.Hall_deeds.F.ok sc_Hall_deeds (fun vs H Q E h => ?_) (fun cdv Ar outer s H vs Q E hr h => ?_)
  · obtain ⟨a, st, rfl, _⟩ := h
    rfl
  · obtain ⟨a, st, rfl, hf, k⟩ := h
    refine ⟨_, (pss_one (ps_ret (pe_callTy call_list_of (by rfl) T.n_list (by decide +kernel) (pa_cons (pe_fld (pv 0) rfl) pa_nil)))), ?_⟩
    obtain ⟨ds, hD, dD⟩ := hf.D
    refine ⟨_, rfl, a.h, _, _, _, _, rfl, hf.core.ob, T.cl_Hall, T.nf_done, f_done, a.D, ds, rfl, .inl (SqL.of hD), fun l hl => ?_⟩
    have s1 := same_put (o := .lst ds) (Same.refl H) hl
    exact k l _ ds hl s1 upd_same (dps_same s1 _ _ dD)
theorem ok_Hall_check_page (T : Txt K mg A) : FnOk P w K mg base CX0 2 A.Hall_check_page A.Hall_check_page_ ["self", "number"] (spCheckPage K A.Hall) := by
  refine T.Hall_check_page.F.ok sc_Hall_check_page (fun vs H Q E h => ?_) (fun cdv Ar outer s H vs Q E hr h => ?_)
  · obtain ⟨a, st, i, rfl, _⟩ := h
    rfl
  · obtain ⟨a, st, i, rfl, hf, il, k⟩ := h
    refine ⟨_, (pss_one (ps_if (pt_not (pt_val (pe_call (ok_is_number T) (hr.mono (by decide)) (by rfl) T.is_number.n T.is_number.F.kp T.is_number.b .nil pass0 (pa_cons (pv 1) (pa_cons pe_int (pa_cons (pe_op op_sub (pe_callB call_len_seq (by rfl) T.n_len PySem.boot_len (pa_cons (pe_fld (pv 0) rfl) pa_nil)) pe_int) pa_nil))))))
    (pss_one ps_never)
    pss_nil)), ?_⟩
    obtain ⟨ps, hP, dP⟩ := hf.P
    have lp : ps.length = st.pages.length := by rw [dps_len dP, List.length_map]
    refine ⟨_, rfl, _, rfl, a.h, _, _, _, _, rfl, hf.core.ob, T.cl_Hall, T.nf_pages, f_pages, a.P, _, rfl, .inl (SqL.of hP), _, _, rfl, rfl, _, _, _, rfl, .int _, ?_⟩
    have e : isNum 0 ((ps.length : Int) - 1) (V.int (i : Nat)) = true := by
      show (decide ((0 : Int) ≤ (i : Nat)) && decide (((i : Nat) : Int) ≤ (ps.length : Int) - 1)) = true
      rw [decide_eq_true (by omega), decide_eq_true (by omega)]
      rfl
    rw [e]
    refine ⟨_, rfl, ?_⟩
    exact iteF k
theorem ok_Hall_page (T : Txt K mg A) : FnOk P w K mg base CX0 3 A.Hall_page A.Hall_page_ ["self", "number"] (spPageM K A.Hall) := by
  refine T.Hall_page.F.ok sc_Hall_page (fun vs H Q E h => ?_) (fun cdv Ar outer s H vs Q E hr h => ?_)
  · obtain ⟨a, st, i, pg, rfl, _⟩ := h
    rfl
  · obtain ⟨a, st, i, pg, rfl, hf, ok, hi, k⟩ := h
    have hL := sizeLine_eq
    refine ⟨_, (pss_cons (ps_expr (pe_meth (pv 0) T.cl_Hall T.Hall_check_page.m (ok_Hall_check_page T) (hr.mono (by decide)) T.Hall_check_page.b .nil pass0 (pa_cons (pv 1) pa_nil)))
    (pss_one (ps_ret (pe_callTy call_list_of (by rfl) T.n_list (by decide +kernel) (pa_cons (pe_ix ix_list (pe_fld (pv 0) rfl) (pv 1) (fun _ _ => rfl)) pa_nil))))), ?_⟩
    obtain ⟨ps, hP, dP⟩ := hf.P
    have il := (List.getElem?_eq_some_iff.mp hi).1
    have lp : ps.length = st.pages.length := by rw [dps_len dP, List.length_map]
    obtain ⟨x, hx⟩ : ∃ x, ps[i]? = some x := ⟨_, List.getElem?_eq_getElem (by omega)⟩
    obtain ⟨d, hd, dx⟩ := dps_get dP hx
    rw [List.getElem?_map, hi] at hd
    have hd := Option.some.inj hd
    subst hd
    obtain ⟨t, xs, rfl, hs, ha⟩ := dp_tup dx
    refine ⟨_, rfl, a.h, _, _, rfl, hf.core.ob, f_no (by decide +kernel), _, rfl, a, st, i, rfl, hf, il, ?_⟩
    refine ⟨_, rfl, a.h, _, _, _, _, rfl, hf.core.ob, T.cl_Hall, T.nf_pages, f_pages, _, rfl, a.P, _, _, _, rfl, rfl, SqL.of hP, atI_nat hx, t, xs, rfl, .inr hs, fun l hl => ?_⟩
    have s1 := same_put (o := .lst xs) (Same.refl H) hl
    exact k l _ xs hl s1 upd_same (dps_same s1 _ _ ha)
end
end Mh
namespace Mh
open PySem L2
local macro_rules | `(tactic| walk_at "z") => `(tactic| simp only [List.set_cons_succ, List.set_cons_zero])
local macro_rules | `(tactic| walk_at "w") => `(tactic| simp only [wipe, List.map, List.set_cons_succ, List.set_cons_zero])
theorem merge_nd : ∀ (kvs acc : List (Key × V)), ((acc ++ kvs).map (·.1)).Nodup → mergeK acc kvs = acc ++ kvs
  | [], acc, _ => by
    rw [List.append_nil]
    rfl
  | kv :: kvs, acc, nd => by
    have nk : kv.1 ∉ acc.map (·.1) := by
      rw [List.map_append, List.map_cons] at nd
      exact fun z => (List.nodup_append.mp nd).2.2 _ z _ List.mem_cons_self rfl
    show mergeK (putK acc kv.1 kv.2) kvs = _
    rw [putK_end nk, merge_nd kvs (acc ++ [kv]) (by rw [List.append_assoc]; exact nd), List.append_assoc]
    rfl
/-- fractions over 60, made small, stand as what they are made of -/
theorem frac_lt (a b : Nat) : ((b / Nat.gcd b 60 : Nat) : Int) * ((60 / Nat.gcd a 60 : Nat) : Int) < ((a / Nat.gcd a 60 : Nat) : Int) * ((60 / Nat.gcd b 60 : Nat) : Int) ↔ b < a := by
  have ga : 0 < Nat.gcd a 60 := Nat.gcd_pos_of_pos_right a (by decide)
  have gb : 0 < Nat.gcd b 60 := Nat.gcd_pos_of_pos_right b (by decide)
  obtain ⟨x, hx⟩ := Nat.gcd_dvd_left a 60
  obtain ⟨y, hy⟩ := Nat.gcd_dvd_left b 60
  obtain ⟨u, hu⟩ := Nat.gcd_dvd_right a 60
  obtain ⟨v, hv⟩ := Nat.gcd_dvd_right b 60
  generalize Nat.gcd a 60 = g at *
  generalize Nat.gcd b 60 = h at *
  have e1 : a / g = x := by rw [hx]; exact Nat.mul_div_cancel_left _ ga
  have e2 : b / h = y := by rw [hy]; exact Nat.mul_div_cancel_left _ gb
  have e3 : 60 / g = u := by rw [hu]; exact Nat.mul_div_cancel_left _ ga
  have e4 : 60 / h = v := by rw [hv]; exact Nat.mul_div_cancel_left _ gb
  rw [e1, e2, e3, e4]
  have q : (y * u < x * v) ↔ b < a := by
    have k : 0 < g * h := Nat.mul_pos ga gb
    have l1 : (g * h) * (y * u) = b * 60 := by
      rw [hu, hy]
      simp only [Nat.mul_comm, Nat.mul_left_comm, Nat.mul_assoc]
    have l2 : (g * h) * (x * v) = a * 60 := by
      rw [hv, hx]
      simp only [Nat.mul_comm, Nat.mul_left_comm, Nat.mul_assoc]
    constructor
    · intro z
      have := Nat.mul_lt_mul_of_pos_left z k
      rw [l1, l2] at this
      omega
    · intro z
      refine Nat.lt_of_mul_lt_mul_left (a := g * h) ?_
      rw [l1, l2]
      omega
  rw [← q]
  omega
theorem meanOk_of {st : LHall} {n : Str} (h : StOk st) (r : isRanked st n = true) : MeanOk st n := by
  refine ⟨h.runs, h.fewT, h.okT, fun g hg => ⟨?_, h.five n g, fun x hx => ?_⟩⟩
  · unfold isRanked at r
    rw [Bool.and_eq_true, List.all_eq_true] at r
    have q := r.2 g hg
    cases e : (scoresL st.runs n g).length with
    | zero =>
      rw [e] at q
      simp at q
    | succ k => omega
  · obtain ⟨r, h1, h2, h3⟩ := scores_mem hx
    obtain ⟨_, _, _, _, q1, q2⟩ := h.run r h1 h2
    rw [← h3]
    exact ⟨q1, q2⟩
def mV (m : Int) : List V := [.int ((m.toNat / Nat.gcd m.toNat 60 : Nat) : Int), .int ((60 / Nat.gcd m.toNat 60 : Nat) : Int)]
theorem meanV_eq {st : LHall} (h : StOk st) (n : Str) : meanV st n = mV (meanI st n) := by
  unfold meanV mV
  rw [mean_over h]
def spLRanks (K : PySem.W.Frag) : Sp := fun vs H Q _ => ∃ (L : LAd) (st : LHall), vs = [.ref L.M] ∧ LCore K H L st ∧ StOk st ∧ (∀ g ∈ namesT st, PyData.strOk g = true) ∧
  ∀ p H' us, H p = none → Same H H' → H' p = some (.lst us) → Paired (RowAt K H') us (rowsL st) → Q (.ref p) H'
theorem meansL_at {st : LHall} {i : Nat} {n : Str} (h : (rankedL st)[i]? = some n) : (meansL st)[i]? = some (n, meanI st n) := by
  unfold meansL
  rw [List.getElem?_map, h]
  rfl
section
variable {P : Program} {w : World} {K : PySem.W.Frag} {mg : Str → Option Value} {base : Heap} {A : Adr}
end
end Mh
namespace Mh
open PySem L2
local macro_rules | `(tactic| walk_at "z") => `(tactic| simp only [List.set_cons_succ, List.set_cons_zero])
local macro_rules | `(tactic| walk_at "w") => `(tactic| simp only [wipe, List.map, List.set_cons_succ, List.set_cons_zero])
/-- names and ranks of rows -/
def nrL (l : List RRow) : List (Str × Int) := l.map fun r => (r.2.1, r.1)
theorem getL_perm {l m : List (Str × Int)} (p : l.Perm m) (nd : (l.map (·.1)).Nodup) (n : Str) : getL l n = getL m n := by
  by_cases c : n ∈ l.map (·.1)
  · obtain ⟨z, hz, rfl⟩ := List.mem_map.mp c
    rw [getL_at nd hz, getL_at ((p.map _).nodup_iff.mp nd) (p.mem_iff.mp hz)]
  · rw [getL_none c, getL_none fun z => c ((p.map (·.1)).mem_iff.mpr z)]
theorem nrL_ranks (st : LHall) : (nrL (rowsL st)).Perm (ranksL st) := by
  have e : nrL (rowsU st) = ranksL st := by
    unfold nrL rowsU ranksL ranksOf
    rw [List.map_map]
    rfl
  rw [← e]
  exact (sortR_perm (rowsU st)).map _
theorem nrL_nd {st : LHall} (h : StOk st) : ((nrL (rowsL st)).map (·.1)).Nodup := by
  refine ((nrL_ranks st).map (·.1)).nodup_iff.mpr ?_
  exact ranksL_nd h
theorem chg_ext {names : List Str} {l1 l2 m2 : List (Str × Int)} (h : ∀ n, getL l2 n = getL m2 n) : chgOf names l1 l2 = chgOf names l1 m2 := by
  have e : getL l2 = getL m2 := funext h
  unfold chgOf
  rw [e]
theorem chg_ext1 {names : List Str} {l1 l2 m1 : List (Str × Int)} (h : ∀ n, getL l1 n = getL m1 n) : chgOf names l1 l2 = chgOf names m1 l2 := by
  have e : getL l1 = getL m1 := funext h
  unfold chgOf
  rw [e]
theorem pairs_kv {K : PySem.W.Frag} {H : Hp} {ps : List Addr} {l : List (Str × Int)} (q : Paired (fun p (x : Str × Int) => H p = some (.tup [.str x.1, .int x.2])) ps l) : Paired (fun p (kv : Key × V) => SqT K H p [kV kv.1, kv.2]) ps (kvL V.int l) := by
  induction q with
  | nil => exact .nil
  | cons a t ih => exact .cons (SqT.of a) ih
theorem KTL.seq' {K : PySem.W.Frag} {H H' : Hp} {a : Addr} {xs : List V} (s : Same H H') (h : SqL K H a xs) : SqL K H' a xs := s.seq h
theorem get_kv {H : Hp} {d : Addr} {l : List (Str × Int)} (h : H d = some (.dK (kvL V.int l))) (n : Str) : DGet H d (.str n) ((getL l n).map V.int) := by
  have g := dget_rd (k := Sum.inr n) (Or.inl h : Rd H d (.dK (kvL V.int l)))
  rwa [val_kvL] at g
def spLChanges (K : PySem.W.Frag) : Sp := fun vs H Q _ => ∃ (L : LAd) (st : LHall) (b : Addr) (us : List V) (old : List RRow), vs = [.ref L.M, .ref b] ∧ LCore K H L st ∧ StOk st ∧ (∀ g ∈ namesT st, PyData.strOk g = true) ∧
  SqL K H b us ∧ DpAll K H us (old.map rrDt) ∧ ((nrL old).map (·.1)).Nodup ∧ old.length ≤ 6 ∧
  ∀ p H' us', H p = none → Same H H' → H' p = some (.lst us') → DpAll K H' us' ((chgOf (sortN (namesG st)) (nrL old) (ranksL st)).map chgDt) → Q (.ref p) H'
section
variable {P : Program} {w : World} {K : PySem.W.Frag} {mg : Str → Option Value} {base : Heap} {A : Adr}
end
end Mh
namespace Mh
open PySem L2
/-! deeds that are let keep a hall sound -/
theorem putL_memN {α : Type} {l : List (Str × α)} {n : Str} {x : α} {z : Str × α} (h : z ∈ putL l n x) : z ∈ l ∨ z = (n, x) := by
  unfold putL at h
  split at h
  · obtain ⟨y, hy, e⟩ := List.mem_map.mp h
    by_cases c : y.1 = n
    · rw [if_pos c] at e
      right
      rw [← e, c]
    · rw [if_neg c] at e
      left
      rw [← e]
      exact hy
  · rcases List.mem_append.mp h with h | h
    · exact .inl h
    · exact .inr (by simpa using h)
theorem putL_namesN {α : Type} (l : List (Str × α)) (n : Str) (x : α) : (putL l n x).map (·.1) = if n ∈ l.map (·.1) then l.map (·.1) else l.map (·.1) ++ [n] := by
  unfold putL
  split
  · rename_i h
    rw [if_pos (any_iff.mp h), List.map_map]
    refine List.map_congr_left fun z _ => ?_
    show (if z.1 = n then (z.1, x) else z).1 = z.1
    split <;> rfl
  · rename_i h
    rw [if_neg fun z => h (any_iff.mpr z), List.map_append]
    rfl
theorem putL_nd {α : Type} {l : List (Str × α)} {n : Str} {x : α} (h : (l.map (·.1)).Nodup) : ((putL l n x).map (·.1)).Nodup := by
  rw [putL_namesN]
  split
  · exact h
  · rename_i c
    rw [List.nodup_append]
    refine ⟨h, by simp, fun y hy z hz => ?_⟩
    have ez : z = n := by simpa using hz
    rw [ez]
    exact fun q => c (q ▸ hy)
theorem putL_len {α : Type} (l : List (Str × α)) (n : Str) (x : α) : (putL l n x).length = if n ∈ l.map (·.1) then l.length else l.length + 1 := by
  have e := congrArg List.length (putL_namesN l n x)
  rw [List.length_map] at e
  rw [e]
  split
  · rw [List.length_map]
  · rw [List.length_append, List.length_map]
    rfl
theorem putL_old {α : Type} {l : List (Str × α)} {n m : Str} {x : α} (h : m ∈ l.map (·.1)) : m ∈ (putL l n x).map (·.1) := by
  rw [putL_namesN]
  split
  · exact h
  · exact List.mem_append_left _ h
theorem scores_map {rs : List Run} {f : Run → Run} (h : ∀ r, (f r).who = r.who ∧ (f r).goal = r.goal ∧ (f r).seed = r.seed ∧ (f r).counts = r.counts) (n g : Str) : (scoresL (rs.map f) n g).length = (scoresL rs n g).length := by
  unfold scoresL
  rw [List.length_map, List.length_map, List.filter_map, List.length_map]
  congr 1
  refine List.filter_congr fun r _ => ?_
  obtain ⟨h1, h2, _, h4⟩ := h r
  show Run.isOf n g (f r) = _
  unfold Run.isOf
  rw [h1, h2, h4]
theorem scoreOf_bound (st : LHall) (h : ∀ z ∈ st.tasks, z.2.Ok) (n g : Str) (s : Int) : 0 ≤ scoreOf st n g s ∧ scoreOf st n g s ≤ 16 := by
  unfold scoreOf
  split
  · rename_i m t hm ht
    obtain ⟨z, hz, e⟩ := getL_mem ht
    have o := h z hz
    rw [e] at o
    have l1 := rightL_len m s t.qs
    have l2 := o.2.1
    omega
  · omega
def DeedOk (st : LHall) : Deed → Prop
  | .task n t => NameOk n ∧ t.Ok ∧ (n ∈ namesT st ∨ st.tasks.length < 4)
  | .machine n m => NameOk n ∧ MachOk m ∧ n ∉ namesG st ∧ st.machines.length < 6
  | .tell n g s x => ∃ m t, getL st.machines n = some m ∧ getL st.tasks g = some t ∧ 0 ≤ s ∧ s ≤ 999 ∧ 0 ≤ x ∧ x ≤ t.qs.length ∧ (scoresL st.runs n g).length < 5 ∧ ∀ r ∈ st.runs, r.isOf n g = true → r.seed ≠ s
  | _ => False
theorem stok_step {st : LHall} {d : Deed} (h : StOk st) (ok : DeedOk st d) (few : st.deeds.length < 1000) : StOk (stepS st d) := by
  obtain ⟨runs, fewT, fewG, okT, okG, ndT, ndG, run, five, runsD, pagesD, deeds⟩ := h
  have dl : ∀ x : PyData, (st.deeds ++ [x]).length = st.deeds.length + 1 := fun x => by simp
  cases d with
  | task n t =>
    obtain ⟨no, to, room⟩ := ok
    have okT' : ∀ z ∈ putL st.tasks n t, z.2.Ok := fun z hz => by
      rcases putL_memN hz with q | q
      · exact okT z q
      · rw [q]
        exact to
    refine ⟨?_, ?_, fewG, okT', okG, putL_nd ndT, ndG, ?_, ?_, ?_, ?_, ?_⟩
    · show (st.runs.map _).length ≤ 1000
      rw [List.length_map]
      exact runs
    · show (putL st.tasks n t).length ≤ 4
      rw [putL_len]
      split
      · exact fewT
      · rename_i c
        have := room.resolve_left c
        omega
    · intro r hr hc
      obtain ⟨r0, h0, e⟩ := List.mem_map.mp hr
      obtain ⟨e1, e2, e3, e4⟩ := mendR_who { st with tasks := putL st.tasks n t } n r0
      rw [e] at e1 e2 e3 e4
      obtain ⟨q1, q2, q3, q4, q5, q6⟩ := run r0 h0 (by rw [← e4]; exact hc)
      refine ⟨by rw [e1]; exact q1, by rw [e2]; exact putL_old q2, by rw [e3]; exact q3, by rw [e3]; exact q4, ?_⟩
      rw [← e]
      unfold mendR
      split
      · exact scoreOf_bound { st with tasks := putL st.tasks n t } okT' _ _ _
      · exact ⟨q5, q6⟩
    · intro n' g
      show (scoresL (st.runs.map _) n' g).length ≤ 5
      rw [scores_map (mendR_who _ n)]
      exact five n' g
    · show (st.runs.map _).length ≤ (st.deeds ++ [_]).length
      rw [List.length_map, dl]
      omega
    · show st.pages.length ≤ (st.deeds ++ [_]).length
      rw [dl]
      omega
    · show (st.deeds ++ [_]).length ≤ 1000
      rw [dl]
      omega
  | machine n m =>
    obtain ⟨no, mo, new, room⟩ := ok
    refine ⟨runs, fewT, ?_, okT, ?_, ndT, putL_nd ndG, ?_, five, ?_, ?_, ?_⟩
    · show (putL st.machines n m).length ≤ 6
      rw [putL_len]
      split <;> omega
    · intro z hz
      rcases putL_memN hz with q | q
      · exact okG z q
      · rw [q]
        exact mo
    · intro r hr hc
      obtain ⟨q1, q⟩ := run r hr hc
      exact ⟨putL_old q1, q⟩
    · show st.runs.length ≤ (st.deeds ++ [_]).length
      rw [dl]
      omega
    · show st.pages.length ≤ (st.deeds ++ [_]).length
      rw [dl]
      omega
    · show (st.deeds ++ [_]).length ≤ 1000
      rw [dl]
      omega
  | tell n g s x =>
    obtain ⟨m, t, hm, ht, s0, s9, x0, x9, l5, new⟩ := ok
    obtain ⟨zt, hzt, et⟩ := getL_mem ht
    have o := okT zt hzt
    rw [et] at o
    have l16 := o.2.1
    have inn : ∀ {α : Type} {l : List (Str × α)} {n : Str} {x : α}, getL l n = some x → n ∈ l.map (·.1) := fun {α l n x} h => by
      unfold getL at h
      cases e : l.find? (fun z => decide (z.1 = n)) with
      | none =>
        rw [e] at h
        cases h
      | some z =>
        have q := List.find?_some e
        exact List.mem_map.mpr ⟨z, List.mem_of_find?_eq_some e, of_decide_eq_true q⟩
    refine ⟨?_, fewT, fewG, okT, okG, ndT, ndG, ?_, ?_, ?_, ?_, ?_⟩
    · show (st.runs ++ [_]).length ≤ 1000
      rw [List.length_append]
      show st.runs.length + 1 ≤ 1000
      omega
    · intro r hr hc
      rcases List.mem_append.mp hr with hr | hr
      · exact run r hr hc
      · have e : r = ⟨n, g, s, x, true⟩ := by simpa using hr
        rw [e]
        exact ⟨inn hm, inn ht, s0, s9, x0, by show x ≤ 16; omega⟩
    · intro n' g'
      show (scoresL (st.runs ++ [_]) n' g').length ≤ 5
      have e : (scoresL (st.runs ++ [(⟨n, g, s, x, true⟩ : Run)]) n' g').length = (scoresL st.runs n' g').length + if Run.isOf n' g' ⟨n, g, s, x, true⟩ = true then 1 else 0 := by
        unfold scoresL
        rw [List.filter_append, List.map_append, List.length_append]
        congr 1
        by_cases c : Run.isOf n' g' ⟨n, g, s, x, true⟩ = true
        · simp [c]
        · simp [c]
      rw [e]
      split
      · rename_i c
        have c1 : n = n' ∧ g = g' := by
          unfold Run.isOf at c
          simpa using c
        rw [← c1.1, ← c1.2]
        omega
      · exact five n' g'
    · show (st.runs ++ [_]).length ≤ (st.deeds ++ [_]).length
      rw [List.length_append, dl]
      show st.runs.length + 1 ≤ _
      omega
    · show st.pages.length ≤ (st.deeds ++ [_]).length
      rw [dl]
      omega
    · show (st.deeds ++ [_]).length ≤ 1000
      rw [dl]
      omega
  | strike k => exact ok.elim
  | clean => exact ok.elim
  | publish => exact ok.elim
end Mh
namespace Mh
open PySem L2
/-! every deed that is let keeps a hall sound -/
def DeedOkF (st : LHall) : Deed → Prop
  | .strike k => ∃ r, st.runs[k]? = some r ∧ r.counts = true
  | .clean => True
  | .publish => True
  | d => DeedOk st d
/-- runs that count no more -/
structure Less (rs rs' : List Run) : Prop where
  len : rs'.length = rs.length
  at_ : ∀ r ∈ rs', r.counts = true → r ∈ rs
  sc : ∀ n g, (scoresL rs' n g).length ≤ (scoresL rs n g).length
theorem stok_less {st : LHall} (h : StOk st) {rs : List Run} (l : Less st.runs rs) (few : st.deeds.length < 1000) (d : PyData) : StOk { st with runs := rs, deeds := st.deeds ++ [d] } := by
  obtain ⟨runs, fewT, fewG, okT, okG, ndT, ndG, run, five, runsD, pagesD, deeds⟩ := h
  have dl : (st.deeds ++ [d]).length = st.deeds.length + 1 := by simp
  refine ⟨?_, fewT, fewG, okT, okG, ndT, ndG, fun r hr hc => run r (l.at_ r hr hc) hc, fun n g => Nat.le_trans (l.sc n g) (five n g), ?_, ?_, ?_⟩
  · show rs.length ≤ 1000
    rw [l.len]
    exact runs
  · show rs.length ≤ (st.deeds ++ [d]).length
    rw [l.len, dl]
    omega
  · show st.pages.length ≤ (st.deeds ++ [d]).length
    rw [dl]
    omega
  · show (st.deeds ++ [d]).length ≤ 1000
    rw [dl]
    omega
theorem less_map {rs : List Run} {f : Run → Run} (h : ∀ r, f r = r ∨ (f r).counts = false) : Less rs (rs.map f) := by
  refine ⟨List.length_map _, fun r hr hc => ?_, fun n g => ?_⟩
  · obtain ⟨x, hx, e⟩ := List.mem_map.mp hr
    rcases h x with q | q
    · rw [q] at e
      rw [← e]
      exact hx
    · rw [e, hc] at q
      cases q
  · unfold scoresL
    rw [List.length_map, List.length_map]
    induction rs with
    | nil => exact Nat.le_refl _
    | cons r rs ih =>
      rw [List.map_cons, List.filter_cons, List.filter_cons]
      rcases h r with q | q
      · rw [q]
        split
        · exact Nat.succ_le_succ ih
        · exact ih
      · have c : Run.isOf n g (f r) = false := by
          unfold Run.isOf
          rw [q]
          rfl
        rw [c]
        rw [if_neg (by simp)]
        split
        · exact Nat.le_succ_of_le ih
        · exact ih
theorem modify_map (rs : List Run) (k : Nat) : Less rs (rs.modify k off) := by
  have e : ∀ (rs : List Run) (k : Nat), Less rs (rs.modify k off) := by
    intro rs
    induction rs with
    | nil =>
      intro k
      have e : ([] : List Run).modify k off = [] := by cases k <;> rfl
      rw [e]
      exact ⟨rfl, fun r hr => (by cases hr), fun n g => Nat.le_refl _⟩
    | cons r rs ih =>
      intro k
      cases k with
      | zero =>
        have e : (r :: rs).modify 0 off = off r :: rs := rfl
        rw [e]
        refine ⟨rfl, fun x hx hc => ?_, fun n g => ?_⟩
        · rcases List.mem_cons.mp hx with q | q
          · rw [q] at hc
            cases hc
          · exact List.mem_cons_of_mem _ q
        · unfold scoresL
          rw [List.length_map, List.length_map, List.filter_cons, List.filter_cons]
          have c : Run.isOf n g (off r) = false := rfl
          rw [c, if_neg (by simp)]
          split
          · exact Nat.le_succ _
          · exact Nat.le_refl _
      | succ k =>
        have e : (r :: rs).modify (k + 1) off = r :: rs.modify k off := rfl
        obtain ⟨i1, i2, i3⟩ := ih k
        rw [e]
        refine ⟨by rw [List.length_cons, List.length_cons, i1], fun x hx hc => ?_, fun n g => ?_⟩
        · rcases List.mem_cons.mp hx with q | q
          · rw [q]
            exact List.mem_cons_self
          · exact List.mem_cons_of_mem _ (i2 x q hc)
        · have i := i3 n g
          unfold scoresL at i ⊢
          rw [List.length_map, List.length_map] at i ⊢
          rw [List.filter_cons, List.filter_cons]
          split
          · exact Nat.succ_le_succ i
          · exact i
  exact e rs k
theorem stok_stepF {st : LHall} {d : Deed} (h : StOk st) (ok : DeedOkF st d) (few : st.deeds.length < 1000) : StOk (stepS st d) := by
  cases d with
  | task n t => exact stok_step h ok few
  | machine n m => exact stok_step h ok few
  | tell n g s x => exact stok_step h ok few
  | strike k => exact stok_less h (modify_map st.runs k) few _
  | clean =>
    refine stok_less h (less_map fun r => ?_) few _
    by_cases c : parts st r = true
    · right
      rw [if_pos c]
      rfl
    · left
      rw [if_neg c]
  | publish =>
    obtain ⟨runs, fewT, fewG, okT, okG, ndT, ndG, run, five, runsD, pagesD, deeds⟩ := h
    refine ⟨runs, fewT, fewG, okT, okG, ndT, ndG, run, five, ?_, ?_, ?_⟩
    · show st.runs.length ≤ (st.deeds ++ [_]).length
      rw [List.length_append]
      omega
    · show (st.pages ++ [_]).length ≤ (st.deeds ++ [_]).length
      rw [List.length_append, List.length_append]
      show st.pages.length + 1 ≤ st.deeds.length + 1
      omega
    · show (st.deeds ++ [_]).length ≤ 1000
      rw [List.length_append]
      show st.deeds.length + 1 ≤ 1000
      omega
end Mh
namespace Mh
open PySem L2 LamX
local macro_rules | `(tactic| walk_at "z") => `(tactic| simp only [List.set_cons_succ, List.set_cons_zero])
local macro_rules | `(tactic| walk_at "w") => `(tactic| simp only [wipe, List.map, List.set_cons_succ, List.set_cons_zero])
/-! the word of what is refused -/
def wNames : List Str := ["question", "seed", "name", "many", "taken", "nomachine", "notask", "score", "norun", "notranked", "share", "notahead", "nopage", "machine", "text", "task", "deed"]
def wordE (K : PySem.W.Frag) (A : Adr) (Q : VK) : XK := fun cls d H' => ∃ j D x, cls = .ref D ∧ d = none ∧ ExR K A.HallError (exs A) j D ∧ wNames[j]? = some x ∧ j < 13 ∧
  ∀ p H'', H' p = none → Same H' H'' → H'' p = some (.tup [.str x, .int 0]) → Q (.ref p) H''
/-- what stands at f, called, is told by its word -/
def spWord (P : Program) (w : World) (K : PySem.W.Frag) (mg : Str → Option Value) (A : Adr) (base : Heap) : Sp := fun vs H Q _ => ∃ (f : Addr) (tl : XK → Hp → VK → Prop), vs = [.ref f] ∧ Acts P w K mg base 11 f tl ∧
  ∀ (E' : XK) (Q' : VK), (∀ cls d H', wordE K A Q cls d H' → E' cls d H') → (∀ v H', Q .non H' → Q' v H') → tl E' H Q'
theorem xg_name {i : Nat} {v : V} {σ : St} {H : Hp} {Q : St → Hp → Prop} (h : Q (σ.set i (some v)) H) : gName i v σ H Q := h
theorem xif_r {c : TT} {t r : TS} {D : Ends} {σ : St} {H : Hp} (R : Bool → Hp → Prop) (hc : ∀ F : Bool → Hp → Prop, (∀ b H', R b H' → F b H') → c σ H F) (hy : ∀ H', R true H' → tSeq t r D σ H') (hn : ∀ H', R false H' → r D σ H') : tSeq (tIfS c t tNext) r D σ H := by
  refine hc _ fun b H' h => ?_
  cases b with
  | true =>
    show if true = true then _ else _
    rw [if_pos rfl]
    exact hy H' h
  | false =>
    show if false = true then _ else _
    rw [if_neg (by decide)]
    exact hn H' h
theorem none_bk {H H2 : Hp} {b : Addr} (s : Same H H2) (h : H2 b = none) : H b = none := by
  cases e : H b with
  | none => rfl
  | some o =>
    rw [s _ _ e] at h
    cases h
section
variable {P : Program} {w : World} {K : PySem.W.Frag} {mg : Str → Option Value} {base : Heap} {A : Adr}
theorem ok_word_of (T : Txt K mg A) : FnOk P w K mg base CX0 12 A.word_of A.word_of_ ["_law_work"] (spWord P w K mg A base) := by
  refine T.word_of.F.ok sc_word_of (fun vs H Q E h => ?_) (fun cdv Ar outer s H vs Q E hr h => ?_)
  · obtain ⟨f, tl, rfl, _⟩ := h
    rfl
  · obtain ⟨f, tl, rfl, ac, ht⟩ := h
    refine ⟨_, (pss_cons (ps_try_as (i := 1) rfl rfl sc_word_of.nd rfl rfl ⟨by rfl, by decide, Or.inl T.g_HallError⟩ L2.takes0 (fun W pn xe tk _ => (pss_one (ps_expr (pe_acts (i := 0) (P := P) (w := w) (K := K) (mg := mg) (base := base) rfl rfl rfl rfl rfl tk hr rfl (Or.inl rfl)))))
    (fun a oe cls d pn hz hf => (pss_cons (ps_if (pt_not (pt_val (pe_callB (call_isC hz hf) (by rfl) T.n_isinstance PyProof.Rows.boot_isinstance (pa_cons (pv 1) (pa_cons (pe_bltn (v := .ty "ValueError") (by rfl) T.n_ValueError (by decide +kernel) rfl) pa_nil)))))
    (pss_one (ps_ret (pe_tup (pa_cons pe_str (pa_cons pe_int pa_nil)))))
    pss_nil)
    (pss_cons (ps_set (i := 2) sc_word_of.nd rfl (Or.inl rfl) (pe_lst (pa_cons (pe_callB (call_isC hz hf) (by rfl) T.n_isinstance PyProof.Rows.boot_isinstance (pa_cons (pv 1) (pa_cons (pe_glob (v := .ref A.BadQuestion) (by rfl) T.g_BadQuestion rfl) pa_nil))) (pa_cons (pe_callB (call_isC hz hf) (by rfl) T.n_isinstance PyProof.Rows.boot_isinstance (pa_cons (pv 1) (pa_cons (pe_glob (v := .ref A.BadSeed) (by rfl) T.g_BadSeed rfl) pa_nil))) (pa_cons (pe_callB (call_isC hz hf) (by rfl) T.n_isinstance PyProof.Rows.boot_isinstance (pa_cons (pv 1) (pa_cons (pe_glob (v := .ref A.BadName) (by rfl) T.g_BadName rfl) pa_nil))) (pa_cons (pe_callB (call_isC hz hf) (by rfl) T.n_isinstance PyProof.Rows.boot_isinstance (pa_cons (pv 1) (pa_cons (pe_glob (v := .ref A.TooMany) (by rfl) T.g_TooMany rfl) pa_nil))) pa_nil))))))
    (pss_cons (ps_set (i := 2) sc_word_of.nd rfl (Or.inl rfl) (pe_op op_cat (pv 2) (pe_lst (pa_cons (pe_callB (call_isC hz hf) (by rfl) T.n_isinstance PyProof.Rows.boot_isinstance (pa_cons (pv 1) (pa_cons (pe_glob (v := .ref A.Taken) (by rfl) T.g_Taken rfl) pa_nil))) (pa_cons (pe_callB (call_isC hz hf) (by rfl) T.n_isinstance PyProof.Rows.boot_isinstance (pa_cons (pv 1) (pa_cons (pe_glob (v := .ref A.NoMachine) (by rfl) T.g_NoMachine rfl) pa_nil))) (pa_cons (pe_callB (call_isC hz hf) (by rfl) T.n_isinstance PyProof.Rows.boot_isinstance (pa_cons (pv 1) (pa_cons (pe_glob (v := .ref A.NoTask) (by rfl) T.g_NoTask rfl) pa_nil))) pa_nil))))))
    (pss_cons (ps_set (i := 2) sc_word_of.nd rfl (Or.inl rfl) (pe_op op_cat (pv 2) (pe_lst (pa_cons (pe_callB (call_isC hz hf) (by rfl) T.n_isinstance PyProof.Rows.boot_isinstance (pa_cons (pv 1) (pa_cons (pe_glob (v := .ref A.BadScore) (by rfl) T.g_BadScore rfl) pa_nil))) (pa_cons (pe_callB (call_isC hz hf) (by rfl) T.n_isinstance PyProof.Rows.boot_isinstance (pa_cons (pv 1) (pa_cons (pe_glob (v := .ref A.NoRun) (by rfl) T.g_NoRun rfl) pa_nil))) (pa_cons (pe_callB (call_isC hz hf) (by rfl) T.n_isinstance PyProof.Rows.boot_isinstance (pa_cons (pv 1) (pa_cons (pe_glob (v := .ref A.NotRanked) (by rfl) T.g_NotRanked rfl) pa_nil))) pa_nil))))))
    (pss_cons (ps_set (i := 2) sc_word_of.nd rfl (Or.inl rfl) (pe_op op_cat (pv 2) (pe_lst (pa_cons (pe_callB (call_isC hz hf) (by rfl) T.n_isinstance PyProof.Rows.boot_isinstance (pa_cons (pv 1) (pa_cons (pe_glob (v := .ref A.BadShare) (by rfl) T.g_BadShare rfl) pa_nil))) (pa_cons (pe_callB (call_isC hz hf) (by rfl) T.n_isinstance PyProof.Rows.boot_isinstance (pa_cons (pv 1) (pa_cons (pe_glob (v := .ref A.NotAhead) (by rfl) T.g_NotAhead rfl) pa_nil))) (pa_cons (pe_callB (call_isC hz hf) (by rfl) T.n_isinstance PyProof.Rows.boot_isinstance (pa_cons (pv 1) (pa_cons (pe_glob (v := .ref A.NoPage) (by rfl) T.g_NoPage rfl) pa_nil))) pa_nil))))))
    (pss_cons (ps_set (i := 2) sc_word_of.nd rfl (Or.inl rfl) (pe_op op_cat (pv 2) (pe_lst (pa_cons (pe_callB (call_isC hz hf) (by rfl) T.n_isinstance PyProof.Rows.boot_isinstance (pa_cons (pv 1) (pa_cons (pe_glob (v := .ref A.BadMachine) (by rfl) T.g_BadMachine rfl) pa_nil))) (pa_cons (pe_callB (call_isC hz hf) (by rfl) T.n_isinstance PyProof.Rows.boot_isinstance (pa_cons (pv 1) (pa_cons (pe_glob (v := .ref A.BadText) (by rfl) T.g_BadText rfl) pa_nil))) (pa_cons (pe_callB (call_isC hz hf) (by rfl) T.n_isinstance PyProof.Rows.boot_isinstance (pa_cons (pv 1) (pa_cons (pe_glob (v := .ref A.BadTask) (by rfl) T.g_BadTask rfl) pa_nil))) pa_nil))))))
    (pss_cons (ps_expr (peK_bm (K := K) rfl PySem.F.plainAttrs_list PySem.F.slot_list_append PySem.F.type_list_append mt_append (pv 2) (pa_cons (pe_callB (call_isC hz hf) (by rfl) T.n_isinstance PyProof.Rows.boot_isinstance (pa_cons (pv 1) (pa_cons (pe_glob (v := .ref A.BadDeed) (by rfl) T.g_BadDeed rfl) pa_nil))) pa_nil)))
    (pss_cons (ps_if (pt_cmpR op_ne (peK_bm (K := K) rfl PySem.F.plainAttrs_list PySem.F.slot_list_count PySem.F.type_list_count (mtK_countF (K := K) rfl) (pv 2) (pa_cons pe_bl pa_nil)) pe_int (nomark _))
    (pss_one (ps_ret (pe_tup (pa_cons pe_str (pa_cons pe_int pa_nil)))))
    pss_nil)
    (pss_cons (ps_set (i := 3) sc_word_of.nd rfl (Or.inl rfl) (pe_lst (pa_cons pe_str (pa_cons pe_str (pa_cons pe_str (pa_cons pe_str (pa_cons pe_str (pa_cons pe_str (pa_cons pe_str (pa_cons pe_str (pa_cons pe_str (pa_cons pe_str pa_nil))))))))))))
    (pss_cons (ps_set (i := 4) sc_word_of.nd rfl (Or.inl rfl) (pe_ix (ixK_list (K := K) rfl) (pe_op op_cat (pv 3) (pe_lst (pa_cons pe_str (pa_cons pe_str (pa_cons pe_str (pa_cons pe_str (pa_cons pe_str (pa_cons pe_str (pa_cons pe_str pa_nil))))))))) (peK_bm (K := K) rfl PySem.F.plainAttrs_list PySem.F.slot_list_index PySem.F.type_list_index (mtK_index (K := K) rfl) (pv 2) (pa_cons pe_bl pa_nil)) (fun _ _ => rfl)))
    (pss_cons (ps_if (pt_cmpR (opK_in_seq (K := K) rfl) (pv 4) (pe_tup (pa_cons pe_str (pa_cons pe_str pa_nil))) (by rfl))
    (pss_one (ps_ret (pe_tup (pa_cons (pv 4) (pa_cons pe_never pa_nil)))))
    pss_nil)
    (pss_one (ps_ret (pe_tup (pa_cons (pv 4) (pa_cons (pe_ifExp (pt_cmpR (opK_in_seq (K := K) rfl) (pv 4) (pe_tup (pa_cons pe_str (pa_cons pe_str pa_nil))) (by rfl)) pe_never pe_int) pa_nil))))))))))))))))))
    (pss_one (ps_ret pe_non))), ?_⟩
    refine ⟨f, tl, rfl, ac, ht _ _ (fun cls d H1 hx => ?_) fun v H1 q => ?_⟩
    · obtain ⟨j, D, x, rfl, rfl, X, hx, lj, q⟩ := hx
      refine ⟨true, X.m, fun _ a ha => ?_, fun z => by cases z⟩
      dsimp only
      have isx : ∀ (i : Nat) (C : Addr) (H' : Hp) (F : VK), (exs A)[i]? = some C → F (.bl (decide (i = j))) H' → rIsC K a (.ref D) none [.ref a, .ref C] H' F := fun i C H' F hi f => ⟨D, rfl, rfl, X.c, .ref C, .ref C, _, rfl, fun u r => r, X.i i C hi, f⟩
      have hL := sizeLine_eq
      refine if_no (fun F f => ?_) ?_
      · refine ⟨_, rfl, D, rfl, rfl, X.c, .ty "ValueError", .type "ValueError", true, rfl, fun u r => r, X.v, ?_⟩
        refine ⟨_, rfl, ?_⟩
        exact f
      refine ⟨_, rfl, isx 0 _ _ _ rfl ?_⟩
      refine ⟨_, rfl, isx 1 _ _ _ rfl ?_⟩
      refine ⟨_, rfl, isx 2 _ _ _ rfl ?_⟩
      refine ⟨_, rfl, isx 3 _ _ _ rfl ?_⟩
      refine ⟨by show 4 ≤ sizeLine; omega, fun l1 hl10 => ?_⟩
      have s2 := same_put (o := .lst [.bl (decide (0 = j)), .bl (decide (1 = j)), .bl (decide (2 = j)), .bl (decide (3 = j))]) (Same.refl H1) hl10
      have hl1 : upd H1 l1 (.lst [.bl (decide (0 = j)), .bl (decide (1 = j)), .bl (decide (2 = j)), .bl (decide (3 = j))]) l1 = some (.lst [.bl (decide (0 = j)), .bl (decide (1 = j)), .bl (decide (2 = j)), .bl (decide (3 = j))]) := upd_same
      generalize upd H1 l1 (.lst [.bl (decide (0 = j)), .bl (decide (1 = j)), .bl (decide (2 = j)), .bl (decide (3 = j))]) = H2 at s2 hl1
      refine xg_name ?_
      walk_at "z"
      refine ⟨_, rfl, ?_⟩
      refine ⟨_, rfl, isx 4 _ _ _ rfl ?_⟩
      refine ⟨_, rfl, isx 5 _ _ _ rfl ?_⟩
      refine ⟨_, rfl, isx 6 _ _ _ rfl ?_⟩
      refine ⟨by show 3 ≤ sizeLine; omega, fun l2 hl20 => ?_⟩
      have s3 := same_put (o := .lst [.bl (decide (4 = j)), .bl (decide (5 = j)), .bl (decide (6 = j))]) (Same.refl H2) hl20
      have hl2 : upd H2 l2 (.lst [.bl (decide (4 = j)), .bl (decide (5 = j)), .bl (decide (6 = j))]) l2 = some (.lst [.bl (decide (4 = j)), .bl (decide (5 = j)), .bl (decide (6 = j))]) := upd_same
      generalize upd H2 l2 (.lst [.bl (decide (4 = j)), .bl (decide (5 = j)), .bl (decide (6 = j))]) = H3 at s3 hl2
      refine ⟨l1, l2, [.bl (decide (0 = j)), .bl (decide (1 = j)), .bl (decide (2 = j)), .bl (decide (3 = j))], [.bl (decide (4 = j)), .bl (decide (5 = j)), .bl (decide (6 = j))], rfl, rfl, s3 _ _ hl1, hl2, by show 4 + 3 ≤ sizeLine; omega, fun l3 hl30 => ?_⟩
      have s4 := same_put (o := .lst ([.bl (decide (0 = j)), .bl (decide (1 = j)), .bl (decide (2 = j)), .bl (decide (3 = j))] ++ [.bl (decide (4 = j)), .bl (decide (5 = j)), .bl (decide (6 = j))])) (Same.refl H3) hl30
      have hl3 : upd H3 l3 (.lst ([.bl (decide (0 = j)), .bl (decide (1 = j)), .bl (decide (2 = j)), .bl (decide (3 = j))] ++ [.bl (decide (4 = j)), .bl (decide (5 = j)), .bl (decide (6 = j))])) l3 = some (.lst [.bl (decide (0 = j)), .bl (decide (1 = j)), .bl (decide (2 = j)), .bl (decide (3 = j)), .bl (decide (4 = j)), .bl (decide (5 = j)), .bl (decide (6 = j))]) := upd_same
      generalize upd H3 l3 (.lst ([.bl (decide (0 = j)), .bl (decide (1 = j)), .bl (decide (2 = j)), .bl (decide (3 = j))] ++ [.bl (decide (4 = j)), .bl (decide (5 = j)), .bl (decide (6 = j))])) = H4 at s4 hl3
      refine xg_name ?_
      walk_at "z"
      refine ⟨_, rfl, ?_⟩
      refine ⟨_, rfl, isx 7 _ _ _ rfl ?_⟩
      refine ⟨_, rfl, isx 8 _ _ _ rfl ?_⟩
      refine ⟨_, rfl, isx 9 _ _ _ rfl ?_⟩
      refine ⟨by show 3 ≤ sizeLine; omega, fun l4 hl40 => ?_⟩
      have s5 := same_put (o := .lst [.bl (decide (7 = j)), .bl (decide (8 = j)), .bl (decide (9 = j))]) (Same.refl H4) hl40
      have hl4 : upd H4 l4 (.lst [.bl (decide (7 = j)), .bl (decide (8 = j)), .bl (decide (9 = j))]) l4 = some (.lst [.bl (decide (7 = j)), .bl (decide (8 = j)), .bl (decide (9 = j))]) := upd_same
      generalize upd H4 l4 (.lst [.bl (decide (7 = j)), .bl (decide (8 = j)), .bl (decide (9 = j))]) = H5 at s5 hl4
      refine ⟨l3, l4, [.bl (decide (0 = j)), .bl (decide (1 = j)), .bl (decide (2 = j)), .bl (decide (3 = j)), .bl (decide (4 = j)), .bl (decide (5 = j)), .bl (decide (6 = j))], [.bl (decide (7 = j)), .bl (decide (8 = j)), .bl (decide (9 = j))], rfl, rfl, s5 _ _ hl3, hl4, by show 7 + 3 ≤ sizeLine; omega, fun l5 hl50 => ?_⟩
      have s6 := same_put (o := .lst ([.bl (decide (0 = j)), .bl (decide (1 = j)), .bl (decide (2 = j)), .bl (decide (3 = j)), .bl (decide (4 = j)), .bl (decide (5 = j)), .bl (decide (6 = j))] ++ [.bl (decide (7 = j)), .bl (decide (8 = j)), .bl (decide (9 = j))])) (Same.refl H5) hl50
      have hl5 : upd H5 l5 (.lst ([.bl (decide (0 = j)), .bl (decide (1 = j)), .bl (decide (2 = j)), .bl (decide (3 = j)), .bl (decide (4 = j)), .bl (decide (5 = j)), .bl (decide (6 = j))] ++ [.bl (decide (7 = j)), .bl (decide (8 = j)), .bl (decide (9 = j))])) l5 = some (.lst [.bl (decide (0 = j)), .bl (decide (1 = j)), .bl (decide (2 = j)), .bl (decide (3 = j)), .bl (decide (4 = j)), .bl (decide (5 = j)), .bl (decide (6 = j)), .bl (decide (7 = j)), .bl (decide (8 = j)), .bl (decide (9 = j))]) := upd_same
      generalize upd H5 l5 (.lst ([.bl (decide (0 = j)), .bl (decide (1 = j)), .bl (decide (2 = j)), .bl (decide (3 = j)), .bl (decide (4 = j)), .bl (decide (5 = j)), .bl (decide (6 = j))] ++ [.bl (decide (7 = j)), .bl (decide (8 = j)), .bl (decide (9 = j))])) = H6 at s6 hl5
      refine xg_name ?_
      walk_at "z"
      refine ⟨_, rfl, ?_⟩
      refine ⟨_, rfl, isx 10 _ _ _ rfl ?_⟩
      refine ⟨_, rfl, isx 11 _ _ _ rfl ?_⟩
      refine ⟨_, rfl, isx 12 _ _ _ rfl ?_⟩
      refine ⟨by show 3 ≤ sizeLine; omega, fun l6 hl60 => ?_⟩
      have s7 := same_put (o := .lst [.bl (decide (10 = j)), .bl (decide (11 = j)), .bl (decide (12 = j))]) (Same.refl H6) hl60
      have hl6 : upd H6 l6 (.lst [.bl (decide (10 = j)), .bl (decide (11 = j)), .bl (decide (12 = j))]) l6 = some (.lst [.bl (decide (10 = j)), .bl (decide (11 = j)), .bl (decide (12 = j))]) := upd_same
      generalize upd H6 l6 (.lst [.bl (decide (10 = j)), .bl (decide (11 = j)), .bl (decide (12 = j))]) = H7 at s7 hl6
      refine ⟨l5, l6, [.bl (decide (0 = j)), .bl (decide (1 = j)), .bl (decide (2 = j)), .bl (decide (3 = j)), .bl (decide (4 = j)), .bl (decide (5 = j)), .bl (decide (6 = j)), .bl (decide (7 = j)), .bl (decide (8 = j)), .bl (decide (9 = j))], [.bl (decide (10 = j)), .bl (decide (11 = j)), .bl (decide (12 = j))], rfl, rfl, s7 _ _ hl5, hl6, by show 10 + 3 ≤ sizeLine; omega, fun l7 hl70 => ?_⟩
      have s8 := same_put (o := .lst ([.bl (decide (0 = j)), .bl (decide (1 = j)), .bl (decide (2 = j)), .bl (decide (3 = j)), .bl (decide (4 = j)), .bl (decide (5 = j)), .bl (decide (6 = j)), .bl (decide (7 = j)), .bl (decide (8 = j)), .bl (decide (9 = j))] ++ [.bl (decide (10 = j)), .bl (decide (11 = j)), .bl (decide (12 = j))])) (Same.refl H7) hl70
      have hl7 : upd H7 l7 (.lst ([.bl (decide (0 = j)), .bl (decide (1 = j)), .bl (decide (2 = j)), .bl (decide (3 = j)), .bl (decide (4 = j)), .bl (decide (5 = j)), .bl (decide (6 = j)), .bl (decide (7 = j)), .bl (decide (8 = j)), .bl (decide (9 = j))] ++ [.bl (decide (10 = j)), .bl (decide (11 = j)), .bl (decide (12 = j))])) l7 = some (.lst [.bl (decide (0 = j)), .bl (decide (1 = j)), .bl (decide (2 = j)), .bl (decide (3 = j)), .bl (decide (4 = j)), .bl (decide (5 = j)), .bl (decide (6 = j)), .bl (decide (7 = j)), .bl (decide (8 = j)), .bl (decide (9 = j)), .bl (decide (10 = j)), .bl (decide (11 = j)), .bl (decide (12 = j))]) := upd_same
      generalize upd H7 l7 (.lst ([.bl (decide (0 = j)), .bl (decide (1 = j)), .bl (decide (2 = j)), .bl (decide (3 = j)), .bl (decide (4 = j)), .bl (decide (5 = j)), .bl (decide (6 = j)), .bl (decide (7 = j)), .bl (decide (8 = j)), .bl (decide (9 = j))] ++ [.bl (decide (10 = j)), .bl (decide (11 = j)), .bl (decide (12 = j))])) = H8 at s8 hl7
      refine xg_name ?_
      walk_at "z"
      refine ⟨_, rfl, ?_⟩
      refine ⟨_, rfl, isx 13 _ _ _ rfl ?_⟩
      refine ⟨_, rfl, isx 14 _ _ _ rfl ?_⟩
      refine ⟨_, rfl, isx 15 _ _ _ rfl ?_⟩
      refine ⟨by show 3 ≤ sizeLine; omega, fun l8 hl80 => ?_⟩
      have s9 := same_put (o := .lst [.bl (decide (13 = j)), .bl (decide (14 = j)), .bl (decide (15 = j))]) (Same.refl H8) hl80
      have hl8 : upd H8 l8 (.lst [.bl (decide (13 = j)), .bl (decide (14 = j)), .bl (decide (15 = j))]) l8 = some (.lst [.bl (decide (13 = j)), .bl (decide (14 = j)), .bl (decide (15 = j))]) := upd_same
      generalize upd H8 l8 (.lst [.bl (decide (13 = j)), .bl (decide (14 = j)), .bl (decide (15 = j))]) = H9 at s9 hl8
      refine ⟨l7, l8, [.bl (decide (0 = j)), .bl (decide (1 = j)), .bl (decide (2 = j)), .bl (decide (3 = j)), .bl (decide (4 = j)), .bl (decide (5 = j)), .bl (decide (6 = j)), .bl (decide (7 = j)), .bl (decide (8 = j)), .bl (decide (9 = j)), .bl (decide (10 = j)), .bl (decide (11 = j)), .bl (decide (12 = j))], [.bl (decide (13 = j)), .bl (decide (14 = j)), .bl (decide (15 = j))], rfl, rfl, s9 _ _ hl7, hl8, by show 13 + 3 ≤ sizeLine; omega, fun l9 hl90 => ?_⟩
      have s10 := same_put (o := .lst ([.bl (decide (0 = j)), .bl (decide (1 = j)), .bl (decide (2 = j)), .bl (decide (3 = j)), .bl (decide (4 = j)), .bl (decide (5 = j)), .bl (decide (6 = j)), .bl (decide (7 = j)), .bl (decide (8 = j)), .bl (decide (9 = j)), .bl (decide (10 = j)), .bl (decide (11 = j)), .bl (decide (12 = j))] ++ [.bl (decide (13 = j)), .bl (decide (14 = j)), .bl (decide (15 = j))])) (Same.refl H9) hl90
      have hl9 : upd H9 l9 (.lst ([.bl (decide (0 = j)), .bl (decide (1 = j)), .bl (decide (2 = j)), .bl (decide (3 = j)), .bl (decide (4 = j)), .bl (decide (5 = j)), .bl (decide (6 = j)), .bl (decide (7 = j)), .bl (decide (8 = j)), .bl (decide (9 = j)), .bl (decide (10 = j)), .bl (decide (11 = j)), .bl (decide (12 = j))] ++ [.bl (decide (13 = j)), .bl (decide (14 = j)), .bl (decide (15 = j))])) l9 = some (.lst [.bl (decide (0 = j)), .bl (decide (1 = j)), .bl (decide (2 = j)), .bl (decide (3 = j)), .bl (decide (4 = j)), .bl (decide (5 = j)), .bl (decide (6 = j)), .bl (decide (7 = j)), .bl (decide (8 = j)), .bl (decide (9 = j)), .bl (decide (10 = j)), .bl (decide (11 = j)), .bl (decide (12 = j)), .bl (decide (13 = j)), .bl (decide (14 = j)), .bl (decide (15 = j))]) := upd_same
      generalize upd H9 l9 (.lst ([.bl (decide (0 = j)), .bl (decide (1 = j)), .bl (decide (2 = j)), .bl (decide (3 = j)), .bl (decide (4 = j)), .bl (decide (5 = j)), .bl (decide (6 = j)), .bl (decide (7 = j)), .bl (decide (8 = j)), .bl (decide (9 = j)), .bl (decide (10 = j)), .bl (decide (11 = j)), .bl (decide (12 = j))] ++ [.bl (decide (13 = j)), .bl (decide (14 = j)), .bl (decide (15 = j))])) = H10 at s10 hl9
      refine xg_name ?_
      walk_at "z"
      have s110 := s2.trans (s3.trans (s4.trans (s5.trans (s6.trans (s7.trans (s8.trans (s9.trans s10)))))))
      have hn1 : H1 l9 = none := none_bk (s2.trans (s3.trans (s4.trans (s5.trans (s6.trans (s7.trans (s8.trans s9))))))) hl90
      refine ⟨_, rfl, .inl ⟨rfl, _, SqL.of hl9⟩, _, rfl, isx 16 _ _ _ rfl ?_⟩
      refine ⟨l9, [.bl (decide (0 = j)), .bl (decide (1 = j)), .bl (decide (2 = j)), .bl (decide (3 = j)), .bl (decide (4 = j)), .bl (decide (5 = j)), .bl (decide (6 = j)), .bl (decide (7 = j)), .bl (decide (8 = j)), .bl (decide (9 = j)), .bl (decide (10 = j)), .bl (decide (11 = j)), .bl (decide (12 = j)), .bl (decide (13 = j)), .bl (decide (14 = j)), .bl (decide (15 = j))], _, rfl, rfl, hl9, by show 16 < sizeLine; omega, ?_⟩
      have s11 := same_put (o := .lst ([.bl (decide (0 = j)), .bl (decide (1 = j)), .bl (decide (2 = j)), .bl (decide (3 = j)), .bl (decide (4 = j)), .bl (decide (5 = j)), .bl (decide (6 = j)), .bl (decide (7 = j)), .bl (decide (8 = j)), .bl (decide (9 = j)), .bl (decide (10 = j)), .bl (decide (11 = j)), .bl (decide (12 = j)), .bl (decide (13 = j)), .bl (decide (14 = j)), .bl (decide (15 = j))] ++ [.bl (decide (16 = j))])) s110 hn1
      have hk : upd H10 l9 (.lst ([.bl (decide (0 = j)), .bl (decide (1 = j)), .bl (decide (2 = j)), .bl (decide (3 = j)), .bl (decide (4 = j)), .bl (decide (5 = j)), .bl (decide (6 = j)), .bl (decide (7 = j)), .bl (decide (8 = j)), .bl (decide (9 = j)), .bl (decide (10 = j)), .bl (decide (11 = j)), .bl (decide (12 = j)), .bl (decide (13 = j)), .bl (decide (14 = j)), .bl (decide (15 = j))] ++ [.bl (decide (16 = j))])) l9 = some (.lst ((List.range 17).map fun i => V.bl (decide (i = j)))) := upd_same
      generalize upd H10 l9 (.lst ([.bl (decide (0 = j)), .bl (decide (1 = j)), .bl (decide (2 = j)), .bl (decide (3 = j)), .bl (decide (4 = j)), .bl (decide (5 = j)), .bl (decide (6 = j)), .bl (decide (7 = j)), .bl (decide (8 = j)), .bl (decide (9 = j)), .bl (decide (10 = j)), .bl (decide (11 = j)), .bl (decide (12 = j)), .bl (decide (13 = j)), .bl (decide (14 = j)), .bl (decide (15 = j))] ++ [.bl (decide (16 = j))])) = H11 at s11 hk
      have jj : j = 0 ∨ j = 1 ∨ j = 2 ∨ j = 3 ∨ j = 4 ∨ j = 5 ∨ j = 6 ∨ j = 7 ∨ j = 8 ∨ j = 9 ∨ j = 10 ∨ j = 11 ∨ j = 12 := by omega
      have cn : ((List.range 17).map fun i => V.bl (decide (i = j))).countP (fun z => eqV z (.bl true)) = 1 := by rcases jj with rfl | rfl | rfl | rfl | rfl | rfl | rfl | rfl | rfl | rfl | rfl | rfl | rfl <;> decide
      have fl : ((List.range 17).map fun i => V.bl (decide (i = j))).all flatV = true := by rcases jj with rfl | rfl | rfl | rfl | rfl | rfl | rfl | rfl | rfl | rfl | rfl | rfl | rfl <;> decide
      clear hl1 hl10 hl20 hl2 hl3 hl30 hl4 hl40 hl5 hl50 hl6 hl60 hl7 hl70 hl8 hl80 hl9 hl90 s2 s3 s4 s5 s6 s7 s8 s9 s10 s110
      dsimp only
      refine if_no (fun F f => ?_) ?_
      · refine ⟨_, rfl, .inl ⟨rfl, _, SqL.of hk⟩, l9, _, .bl true, rfl, rfl, SqL.of hk, rfl, fl, ?_⟩
        rw [cn]
        refine ⟨rfl, _, rfl, ?_⟩
        exact f
      refine ⟨by show 10 ≤ sizeLine; omega, fun n1 hn10 => ?_⟩
      have s12 := same_put (o := .lst [V.str "question", V.str "seed", V.str "name", V.str "many", V.str "taken", V.str "nomachine", V.str "notask", V.str "score", V.str "norun", V.str "notranked"]) (Same.refl H11) hn10
      have h12 : upd H11 n1 (.lst [V.str "question", V.str "seed", V.str "name", V.str "many", V.str "taken", V.str "nomachine", V.str "notask", V.str "score", V.str "norun", V.str "notranked"]) n1 = some (.lst [V.str "question", V.str "seed", V.str "name", V.str "many", V.str "taken", V.str "nomachine", V.str "notask", V.str "score", V.str "norun", V.str "notranked"]) := upd_same
      generalize upd H11 n1 (.lst [V.str "question", V.str "seed", V.str "name", V.str "many", V.str "taken", V.str "nomachine", V.str "notask", V.str "score", V.str "norun", V.str "notranked"]) = H12 at s12 h12
      refine xg_name ?_
      walk_at "z"
      refine ⟨_, rfl, by show 7 ≤ sizeLine; omega, fun n2 hn20 => ?_⟩
      have s13 := same_put (o := .lst [V.str "share", V.str "notahead", V.str "nopage", V.str "machine", V.str "text", V.str "task", V.str "deed"]) (Same.refl H12) hn20
      have h13 : upd H12 n2 (.lst [V.str "share", V.str "notahead", V.str "nopage", V.str "machine", V.str "text", V.str "task", V.str "deed"]) n2 = some (.lst [V.str "share", V.str "notahead", V.str "nopage", V.str "machine", V.str "text", V.str "task", V.str "deed"]) := upd_same
      generalize upd H12 n2 (.lst [V.str "share", V.str "notahead", V.str "nopage", V.str "machine", V.str "text", V.str "task", V.str "deed"]) = H13 at s13 h13
      refine ⟨n1, n2, [V.str "question", V.str "seed", V.str "name", V.str "many", V.str "taken", V.str "nomachine", V.str "notask", V.str "score", V.str "norun", V.str "notranked"], [V.str "share", V.str "notahead", V.str "nopage", V.str "machine", V.str "text", V.str "task", V.str "deed"], rfl, rfl, s13 _ _ h12, h13, by show 10 + 7 ≤ sizeLine; omega, fun n3 hn30 => ?_⟩
      have s14 := same_put (o := .lst ([V.str "question", V.str "seed", V.str "name", V.str "many", V.str "taken", V.str "nomachine", V.str "notask", V.str "score", V.str "norun", V.str "notranked"] ++ [V.str "share", V.str "notahead", V.str "nopage", V.str "machine", V.str "text", V.str "task", V.str "deed"])) (Same.refl H13) hn30
      have h14 : upd H13 n3 (.lst ([V.str "question", V.str "seed", V.str "name", V.str "many", V.str "taken", V.str "nomachine", V.str "notask", V.str "score", V.str "norun", V.str "notranked"] ++ [V.str "share", V.str "notahead", V.str "nopage", V.str "machine", V.str "text", V.str "task", V.str "deed"])) n3 = some (.lst (wNames.map V.str)) := upd_same
      generalize upd H13 n3 (.lst ([V.str "question", V.str "seed", V.str "name", V.str "many", V.str "taken", V.str "nomachine", V.str "notask", V.str "score", V.str "norun", V.str "notranked"] ++ [V.str "share", V.str "notahead", V.str "nopage", V.str "machine", V.str "text", V.str "task", V.str "deed"])) = H14 at s14 h14
      have hk14 := s14 _ _ (s13 _ _ (s12 _ _ hk))
      have lj17 : j < 17 := by omega
      refine ⟨_, rfl, .inl ⟨rfl, _, SqL.of hk14⟩, l9, _, .bl true, j, .bl true, rfl, rfl, SqL.of hk14, rfl, fl, by rw [List.getElem?_map, List.getElem?_range lj17]; simp, rfl, fun m z lm hm => ?_, ?_⟩
      · rw [List.getElem?_map, List.getElem?_range (by omega)] at hm
        have hm := Option.some.inj hm
        rw [← hm]
        show eqV (V.bl (decide (m = j))) (V.bl true) = false
        rw [decide_eq_false (by omega)]
        rfl
      have hx2 : (wNames.map V.str)[j]? = some (.str x) := by rw [List.getElem?_map, hx]; rfl
      refine ⟨n3, _, _, _, rfl, rfl, SqL.of h14, atI_nat (j := j) hx2, ?_⟩
      refine xg_name ?_
      walk_at "z"
      have in1 : inV (.str x) [.str "machine", .str "text"] = false := by rcases jj with rfl | rfl | rfl | rfl | rfl | rfl | rfl | rfl | rfl | rfl | rfl | rfl | rfl <;> (have e := Option.some.inj hx; subst e; decide +kernel)
      have in2 : inV (.str x) [.str "task", .str "deed"] = false := by rcases jj with rfl | rfl | rfl | rfl | rfl | rfl | rfl | rfl | rfl | rfl | rfl | rfl | rfl <;> (have e := Option.some.inj hx; subst e; decide +kernel)
      have s114 := s11.trans (s12.trans (s13.trans s14))
      clear hk hk14 h12 h13 h14 hn10 hn20 hn30 hn1 s11 s12 s13 s14 cn fl
      refine xif_r (fun b H' => b = false ∧ Same H1 H') (fun F f => ?_) (fun H' z => (by cases z.1)) (fun H15 z => ?_)
      · refine ⟨_, rfl, by show 2 ≤ sizeLine; omega, fun t1 ht1 => ?_⟩
        have s15 := s114.trans (same_put (o := .tup [.str "machine", .str "text"]) (Same.refl H14) ht1)
        refine ⟨t1, _, rfl, .inr (SqT.of upd_same), rfl, rfl, ?_⟩
        show ∃ k, V.bl (inV (.str x) [.str "machine", .str "text"]) = .bl k ∧ _
        rw [in1]
        exact ⟨_, rfl, f _ _ ⟨rfl, s15⟩⟩
      obtain ⟨_, s15⟩ := z
      refine ⟨_, rfl, ?_⟩
      refine ⟨_, rfl, by show 2 ≤ sizeLine; omega, fun t2 ht2 => ?_⟩
      have s16 := s15.trans (same_put (o := .tup [.str "task", .str "deed"]) (Same.refl H15) ht2)
      refine ⟨t2, _, rfl, .inr (SqT.of upd_same), rfl, rfl, ?_⟩
      generalize upd H15 t2 (.tup [.str "task", .str "deed"]) = H16 at s16
      show ∃ k, V.bl (inV (.str x) [.str "task", .str "deed"]) = .bl k ∧ _
      rw [in2]
      refine ⟨_, rfl, ?_⟩
      refine iteF ?_
      refine ⟨by show 2 ≤ sizeLine; omega, fun p hp => ?_⟩
      exact q p _ (none_bk s16 hp) (s16.trans (same_put (Same.refl _) hp)) upd_same
    · exact q
/-- the word of a lambda's refusal -/
def rdWord (X : Cx) (A : Adr) (D : LamD) : L2.St → List V → Hp → VK → Prop := fun σ vs H Q => ∃ f, vs = [.ref f] ∧ IsLm X D.m H f ∧
  ∀ (E' : XK) (Q' : VK), (∀ cls d H', wordE X.K A Q cls d H' → E' cls d H') → (∀ v H', Q .non H' → Q' v H') → D.t E' σ H Q'
theorem pe_word {Z : Cx} {A : Adr} {kk : Nat} {c Pt : Addr} {t : XK → TE} {p pos lpos : Pos} {params : Arguments} {body : Expr} {scope : Scope} (T : Txt Z.K Z.mg A) (hr : Room kk Z.A) (le : 12 ≤ kk) (hg : Gl Z "_law_word_of")
    (TB : TabB Z.base Z.mg c Pt) (hcode : Z.env.code = .ref c) (L : LamT Z.N Z.env.scope scope) (hd : params.defaults = []) (hk : params.kw_defaults = []) (hb : LmB ⟨params, body, scope, none⟩) (own : ∀ y, Z.fn y = true)
    (hbody : ∀ (A : Around) (outer : List Env) (s : Shared) (H : Hp) (E : XK) (f c' : Addr), Room 10 (A.deeper (lamEnv Z scope s.heap.objs.size f c')) → PE (lamCx Z A outer s H E scope f c') body (t E))
    (he : starEach [.Lambda params body scope lpos] Z.env = (false, eval (.Lambda params body scope lpos) Z.env) :: starEach [] Z.env := by rfl) :
    PE Z (.Call (.Name "_law_word_of" p) [.Lambda params body scope lpos] [] pos) (fun σ H Q => tCons (tLm Z Pt ⟨params, body, scope, none⟩) tNil σ H fun vs H1 => rdWord Z A ⟨⟨params, body, scope, none⟩, t⟩ σ vs H1 Q) :=
  pe_callAt (sp := spWord Z.prog Z.w Z.K Z.mg A) (fun base => ok_word_of T) (hr.mono le) hg T.word_of.n T.word_of.F.kp T.word_of.b (pa_cons (pe_lm TB hcode L hd hk) pa_nil he)
    (fun pins s σ H vs Q I ⟨f, e, il, h⟩ => ⟨f, _, e, lm_acts I own (m := ⟨params, body, scope, none⟩) L hb hbody, fun E' Q' h1 h2 => ⟨il, h E' Q' h1 h2⟩⟩) (by decide) he (by rfl)
/-! all of some works are refused by one word; what they may change is in S, what holds throughout is J -/
def Refuses (K : PySem.W.Frag) (A : Adr) (x : Str) (S : List Addr) (J : Hp → Prop) (tl : XK → Hp → VK → Prop) : Prop := ∃ j D, ExR K A.HallError (exs A) j D ∧ wNames[j]? = some x ∧ j < 13 ∧
  ∀ HZ, J HZ → ∀ (E' : XK) (Q' : VK), (∀ H', J H' → Bt S HZ H' → E' (.ref D) none H') → tl E' HZ Q'
def spAre (P : Program) (w : World) (K : PySem.W.Frag) (mg : Str → Option Value) (A : Adr) (base : Heap) : Sp := fun vs H Q _ => ∃ (l : Addr) (x : Str) (fs : List (Addr × (XK → Hp → VK → Prop))) (S : List Addr) (J : Hp → Prop), vs = [.ref l, .str x] ∧ J H ∧ (∀ Ha Hb, J Ha → Same Ha Hb → J Hb) ∧ (∀ Ha, J Ha → SqL K Ha l (fs.map fun z => V.ref z.1)) ∧ (∀ b ∈ S, H b ≠ none) ∧ PyData.strOk x = true ∧
  (∀ z ∈ fs, Acts P w K mg base 11 z.1 z.2 ∧ Refuses K A x S J z.2) ∧ ∀ H', J H' → Bt S H H' → Q (.bl true) H'
theorem ok_are (T : Txt K mg A) : FnOk P w K mg base CX0 13 A.are A.are_ ["_law_works", "_law_name"] (spAre P w K mg A base) := by
  refine T.are.F.ok sc_are (fun vs H Q E h => ?_) (fun cdv Ar outer s H vs Q E hr h => ?_)
  · obtain ⟨l, x, fs, S, J, rfl, _⟩ := h
    rfl
  · obtain ⟨l, x, fs, S, J, rfl, hJ, hJs, hl, hS, so, all, k⟩ := h
    refine ⟨_, (pss_one (ps_ret (pe_cmpR (op_eqD hr.units) (pe_lc (own := [("_law_work", 2)]) (g := gName 2)  rfl sc_are.nd (pi_list (pv 0)) (blkOk_by (N := N_are) (sc := defScope s_are) (by decide +kernel)) (fun _ _ _ _ _ => pg_name (i := 2) sc_are.nd rfl (Or.inl rfl) (hf := Or.inr rfl)) (fun _ _ _ _ _ => (pts_one (pt_cmpR (opK_neD (K := K) rfl hr.units) (pe_call (ok_word_of (P := P) (w := w) (K := K) (mg := mg) (base := base) T) (hr.mono (by decide)) (by rfl) T.word_of.n T.word_of.F.kp T.word_of.b .nil pass0 (pa_cons (pv 2) pa_nil)) (pe_tup (pa_cons (pv 1) (pa_cons pe_int pa_nil))) (nomark _)))) (fun _ _ _ _ _ => (pv 2))) (pe_lst pa_nil) (nomark _)))), ?_⟩
    have hL := sizeLine_eq
    have shx : Sh 20 (.tuple [.str x, .int 0]) := sh_tuple (n := 19) fun d hd => by
      simp only [List.mem_cons, List.not_mem_nil, or_false] at hd
      rcases hd with rfl | rfl
      · exact ⟨by simpa [PyData.canLay0] using so, by simp [PyData.depth]⟩
      · exact sh_int _
    refine ⟨_, rfl, l, rfl, ⟨_, hl _ hJ⟩, fun D hD => ?_⟩
    have hDS : D ∉ S := fun z => hS D z hD
    refine lc_w (walk_list (K := K) (xs := fs.map fun z => V.ref z.1)) [some (.ref l), some (.str x), none] (fun i H' => J H' ∧ Bt S H H' ∧ H' D = some (.lst [])) ⟨hJs _ _ hJ (same_put (Same.refl _) hD), Bt.of_same (same_put (Same.refl _) hD), upd_same⟩ (fun i H' _ z => hl _ z.1) ?_ ?_
    · rintro i v Ha Hb hi ⟨ja, sa, ha⟩ ⟨rfl, hx⟩
      rw [List.getElem?_map] at hx
      cases ez : fs[i]? with
      | none =>
        rw [ez] at hx
        cases hx
      | some z =>
        rw [ez] at hx
        have hx := Option.some.inj hx
        subst hx
        obtain ⟨ac, j, D0, X, hw, lj, rf⟩ := all z (List.mem_of_getElem? ez)
        refine ⟨by walk_at "w", ?_⟩
        walk_at "z"
        refine ⟨_, rfl, z.1, z.2, rfl, ac, fun E' Q' h1 h2 => rf _ ja _ _ fun H1 j1 s1 => h1 _ _ _ ⟨j, D0, x, rfl, rfl, X, hw, lj, fun p H2 hp s2 h2 => ?_⟩⟩
        refine ⟨_, rfl, by show 2 ≤ sizeLine; omega, fun t ht => ?_⟩
        have s3 := same_put (o := .tup [.str x, .int 0]) (Same.refl H2) ht
        have h3 : upd H2 t (.tup [.str x, .int 0]) t = some (.tup [.str x, .int 0]) := upd_same
        generalize upd H2 t (.tup [.str x, .int 0]) = H3 at s3 h3
        refine ⟨.tuple [.str x, .int 0], .tuple [.str x, .int 0], .tup (SqT.of (s3 _ _ h2)) (.cons (.str _) (.cons (.int _) .nil)), .tup (SqT.of h3) (.cons (.str _) (.cons (.int _) .nil)), shx.shaped (by decide), shx.shaped (by decide), ?_⟩
        rw [PySem.SeqAt.eqv_refl _ shx.1]
        refine ⟨_, rfl, ?_⟩
        refine iteF ?_
        exact ⟨hJs _ _ j1 (s2.trans s3), sa.trans (s1.trans (Bt.of_same (s2.trans s3))), (s2.trans s3) _ _ (s1 _ _ hDS ha)⟩
    · rintro Ha ⟨ja, sa, ha⟩
      refine ⟨Nat.zero_le _, fun e he => ?_⟩
      have s1 := same_put (o := .lst []) (Same.refl Ha) he
      refine ⟨.list [], .list [], .lst (SqL.of (s1 _ _ ha)) .nil, .lst (SqL.of upd_same) .nil, rfl, rfl, ?_⟩
      exact k _ (hJs _ _ ja s1) (sa.trans (Bt.of_same s1))
/-- works of a list, all refused by one word -/
def rdAre (X : Cx) (A : Adr) : L2.St → List V → Hp → VK → Prop := fun σ vs H Q => ∃ (l : Addr) (x : Str) (fs : List (Addr × LamD)) (S : List Addr) (J : Hp → Prop), vs = [.ref l, .str x] ∧ J H ∧ (∀ Ha Hb, J Ha → Same Ha Hb → J Hb) ∧ (∀ Ha, J Ha → SqL X.K Ha l (fs.map fun z => V.ref z.1) ∧ ∀ z ∈ fs, IsLm X z.2.m Ha z.1) ∧ (∀ b ∈ S, H b ≠ none) ∧ PyData.strOk x = true ∧
  (∀ z ∈ fs, LamOk X 11 z.2 ∧ ∃ j D, ExR X.K A.HallError (exs A) j D ∧ wNames[j]? = some x ∧ j < 13 ∧ ∀ HZ, J HZ → ∀ (E' : XK) (Q' : VK), (∀ H', J H' → Bt S HZ H' → E' (.ref D) none H') → z.2.t E' σ HZ Q') ∧ ∀ H', J H' → Bt S H H' → Q (.bl true) H'
theorem pe_are {Z : Cx} {A : Adr} {kk : Nat} {e1 e2 : Expr} {t : TA} {p pos : Pos} (T : Txt Z.K Z.mg A) (hr : Room kk Z.A) (le : 13 ≤ kk) (hg : Gl Z "_law_are") (ha : PA Z [e1, e2] t)
    (he : starEach [e1, e2] Z.env = (false, eval e1 Z.env) :: starEach [e2] Z.env := by rfl) (hpl : (backTo pos (starEach [e2] Z.env)).any (·.1) = false := by rfl) :
    PE Z (.Call (.Name "_law_are" p) [e1, e2] [] pos) (fun σ H Q => t σ H fun vs H1 => rdAre Z A σ vs H1 Q) :=
  pe_callAt (sp := spAre Z.prog Z.w Z.K Z.mg A) (fun base => ok_are T) (hr.mono le) hg T.are.n T.are.F.kp T.are.b ha
    (fun pins s σ H vs Q I ⟨l, x, fs, S, J, e, hJ, hJs, hl, hS, so, all, k⟩ => ⟨l, x, fs.map fun z => (z.1, fun E HZ Q => IsLm Z z.2.m HZ z.1 ∧ z.2.t E σ HZ Q), S, J, e, hJ, hJs, fun Ha ja => by rw [List.map_map]; exact (hl Ha ja).1, hS, so, fun y hy => by
      obtain ⟨z, hz, rfl⟩ := List.mem_map.mp hy
      obtain ⟨ok, j, D, X, hw, lj, h⟩ := all z hz
      exact ⟨ok pins σ H s z.1 I, j, D, X, hw, lj, fun HZ jz E' Q' q => ⟨(hl HZ jz).2 z hz, h HZ jz E' Q' q⟩⟩, k⟩) (by decide) he hpl
end
end Mh
namespace Mh
open PySem L2
local macro_rules | `(tactic| walk_at "z") => `(tactic| simp only [List.set_cons_succ, List.set_cons_zero])
local macro_rules | `(tactic| walk_at "w") => `(tactic| simp only [wipe, List.map, List.set_cons_succ, List.set_cons_zero])
/-! what is full or taken is refused -/
theorem xif_yes {c : TT} {t r : TS} {D : Ends} {σ : St} {H : Hp} (hc : ∀ F : Bool → Hp → Prop, F true H → c σ H F) (h : tSeq t r D σ H) : tSeq (tIfS c t tNext) r D σ H := by
  refine hc _ ?_
  show if true = true then _ else _
  rw [if_pos rfl]
  exact h
def spTaskNo (K : PySem.W.Frag) (C : Addr) (A : Adr) : Sp := fun vs H Q E => ∃ (a : PAd) (st : LHall) (n : Str) (v : V) (t : Task), vs = [.ref a.h, .str n, v] ∧ HFull K C H a st ∧ NameOk n ∧ Dp K H v t.dt ∧ t.Ok ∧ n ∉ namesT st ∧ st.tasks.length = 4 ∧ ∀ H', Same H H' → E (.ref A.TooMany) none H'
def spMachineNo (K : PySem.W.Frag) (C : Addr) (A : Adr) : Sp := fun vs H Q E => ∃ (a : PAd) (st : LHall) (n : Str) (v : V) (m : Mach) (D : Addr), vs = [.ref a.h, .str n, v] ∧ HFull K C H a st ∧ NameOk n ∧ Dp K H v (machDt m) ∧ MachOk m ∧
  (n ∈ namesG st ∧ D = A.Taken ∨ n ∉ namesG st ∧ st.machines.length = 6 ∧ D = A.TooMany) ∧ ∀ H', Same H H' → E (.ref D) none H'
def spTellNo (K : PySem.W.Frag) (C : Addr) (A : Adr) : Sp := fun vs H Q E => ∃ (a : PAd) (st : LHall) (n g : Str) (sd x : Int) (m : Mach) (t : Task) (DD : Addr), vs = [.ref a.h, .str n, .str g, .int sd, .int x] ∧ HFull K C H a st ∧ StOk st ∧ getL st.machines n = some m ∧ getL st.tasks g = some t ∧ t.Ok ∧
  0 ≤ sd ∧ sd ≤ 999 ∧ 0 ≤ x ∧ x ≤ t.qs.length ∧ ((∃ r ∈ st.runs, r.isOf n g = true ∧ r.seed = sd) ∧ DD = A.Taken ∨ (∀ r ∈ st.runs, r.isOf n g = true → r.seed ≠ sd) ∧ (scoresL st.runs n g).length = 5 ∧ DD = A.TooMany) ∧ ∀ H', Same H H' → E (.ref DD) none H'
section
variable {P : Program} {w : World} {K : PySem.W.Frag} {mg : Str → Option Value} {base : Heap} {A : Adr}
theorem okX_Hall_task_no (T : Txt K mg A) : FnOk P w K mg base (L2.CX P w) 7 A.Hall_task A.Hall_task_ ["self", "name", "task"] (spTaskNo K A.Hall A) := by
  refine T.Hall_task.F.okX sc_Hall_task (fun vs H Q E h => ?_) (fun cdv Ar outer s H vs Q E hr h => ?_)
  · obtain ⟨a, st, n, v, t, rfl, _⟩ := h
    rfl
  · obtain ⟨a, st, n, v, t, rfl, hf, no, dv, ot, nn, l4, k⟩ := h
    have hL := sizeLine_eq
    obtain ⟨nhT, nhG, nhR, nhP, nhD, nTP, nTD, nGP, nGD, nRP, nRD⟩ := hf.ne
    obtain ⟨nTG, nTR, nGR⟩ := hf.core.ne
    refine ⟨_, (pss_cons (ps_expr (pe_call (ok_check_name T) (hr.mono (by decide)) (by rfl) T.check_name.n T.check_name.F.kp T.check_name.b .nil pass0 (pa_cons (pv 1) pa_nil)))
    (pss_cons (ps_expr (pe_call (ok_check_task T) (hr.mono (by decide)) (by rfl) T.check_task.n T.check_task.F.kp T.check_task.b .nil pass0 (pa_cons (pv 2) pa_nil)))
    (pss_cons (ps_if (PW.pt (pw_and (pt_cmp (pc_dnotin (hu_of hr) (pv 1) (pe_fld (pv 0) rfl))) (pw_and1 (pt_cmpR op_eq (pe_callB call_lenD (by rfl) T.n_len PySem.boot_len (pa_cons (pe_fld (pv 0) rfl) pa_nil)) (pe_gv (by rfl) T.c_MOST_TASKS) (nomark _)))))
    (pss_one (ps_refuse T.x_TooMany rfl take_def T.g_TooMany (by rfl)))
    pss_nil)
    (pss_cons ps_never (pss_cons ps_never (pss_cons ps_never (pss_cons ps_never (pss_one ps_never)))))))), ?_⟩
    refine ⟨_, rfl, n, rfl, no, fun H1 s1 => ?_⟩
    refine ⟨_, rfl, v, t, rfl, dp_same s1 _ _ dv, ot, fun H2 s2 => ?_⟩
    have s12 := s1.trans s2
    have hf2 := hf.same s12
    have dv2 := dp_same s12 _ _ dv
    obtain ⟨kt, hT⟩ := hf2.T
    obtain ⟨kr, hR⟩ := hf2.R
    obtain ⟨kt', t1, t2, t3⟩ := hf2.core.tasks
    have e := rd_is hT t1
    subst e
    have lkt := dict_len t2
    -- name not in self.tasks and len(self.tasks) == 4
    dsimp only
    refine xif_yes (fun F f => ?_) ?_
    · refine ⟨_, rfl, _, rfl, a.h, _, _, _, _, rfl, hf2.core.ob, T.cl_Hall, T.nf_tasks, f_tasks, a.T, _, rfl, dget_rd (k := kk n) t1, _, rfl, ?_⟩
      have nk : (kk n) ∉ kt'.map (·.1) := fun z => by
        rw [t2, List.map_map] at z
        obtain ⟨y, hy, e⟩ := List.mem_map.mp z
        exact nn (List.mem_map.mpr ⟨y, hy, by injection e⟩)
      rw [val_out nk]
      refine iteT ?_
      refine ⟨_, rfl, a.h, _, _, _, _, rfl, hf2.core.ob, T.cl_Hall, T.nf_tasks, f_tasks, a.T, kt', rfl, hT, rfl, _, rfl, ?_⟩
      have e : decide (V.int (kt'.length : Nat) = V.int 4) = true := by rw [dI]; exact decide_eq_true (by omega)
      rw [e]
      exact f
    · exact k _ s12
theorem okX_Hall_machine_no (T : Txt K mg A) : FnOk P w K mg base (L2.CX P w) 7 A.Hall_machine A.Hall_machine_ ["self", "name", "machine"] (spMachineNo K A.Hall A) := by
  refine T.Hall_machine.F.okX sc_Hall_machine (fun vs H Q E h => ?_) (fun cdv Ar outer s H vs Q E hr h => ?_)
  · obtain ⟨a, st, n, v, m, D, rfl, _⟩ := h
    rfl
  · obtain ⟨a, st, n, v, m, D, rfl, hf, no, dv, om, why, k⟩ := h
    have hL := sizeLine_eq
    obtain ⟨nhT, nhG, nhR, nhP, nhD, nTP, nTD, nGP, nGD, nRP, nRD⟩ := hf.ne
    obtain ⟨nTG, nTR, nGR⟩ := hf.core.ne
    refine ⟨_, (pss_cons (ps_expr (pe_call (ok_check_name T) (hr.mono (by decide)) (by rfl) T.check_name.n T.check_name.F.kp T.check_name.b .nil pass0 (pa_cons (pv 1) pa_nil)))
    (pss_cons (ps_expr (pe_call (ok_check_machine T) (hr.mono (by decide)) (by rfl) T.check_machine.n T.check_machine.F.kp T.check_machine.b .nil pass0 (pa_cons (pv 2) pa_nil)))
    (pss_cons (ps_if (pt_cmp (pc_din (hu_of hr) (pv 1) (pe_fld (pv 0) rfl)))
    (pss_one (ps_refuse T.x_Taken rfl take_def T.g_Taken (by rfl)))
    pss_nil)
    (pss_cons (ps_if (pt_cmpR op_eq (pe_callB call_lenD (by rfl) T.n_len PySem.boot_len (pa_cons (pe_fld (pv 0) rfl) pa_nil)) (pe_gv (by rfl) T.c_MOST_MACHINES) (nomark _))
    (pss_one (ps_refuse T.x_TooMany rfl take_def T.g_TooMany (by rfl)))
    pss_nil)
    (pss_cons ps_never (pss_cons ps_never (pss_one ps_never))))))), ?_⟩
    refine ⟨_, rfl, n, rfl, no, fun H1 s1 => ?_⟩
    refine ⟨_, rfl, v, m, rfl, dp_same s1 _ _ dv, om, fun H2 s2 => ?_⟩
    have s12 := s1.trans s2
    have hf2 := hf.same s12
    have dv2 := dp_same s12 _ _ dv
    obtain ⟨kg, hG⟩ := hf2.G
    obtain ⟨kg', t1, t2, t3⟩ := hf2.core.machines
    have e := rd_is hG t1
    subst e
    have lkg := dict_len t2
    dsimp only
    rcases why with ⟨old, rfl⟩ | ⟨new, six, rfl⟩
    · refine xif_yes (fun F f => ?_) ?_
      · refine ⟨_, rfl, _, rfl, a.h, _, _, _, _, rfl, hf2.core.ob, T.cl_Hall, T.nf_machines, f_machines, a.G, _, rfl, dget_rd (k := kk n) t1, _, rfl, ?_⟩
        have e : (valV kg' (kk n)).isSome = true := by
          cases c : valV kg' (kk n) with
          | some v => rfl
          | none =>
            have q := valV_not c
            rw [t2, List.map_map] at q
            obtain ⟨y, hy, e⟩ := List.mem_map.mp old
            exact absurd (List.mem_map.mpr ⟨y, hy, by rw [← e]; rfl⟩) q
        rw [e]
        exact f
      · exact k _ s12
    · refine if_no (fun F f => ?_) ?_
      · refine ⟨_, rfl, _, rfl, a.h, _, _, _, _, rfl, hf2.core.ob, T.cl_Hall, T.nf_machines, f_machines, a.G, _, rfl, dget_rd (k := kk n) t1, _, rfl, ?_⟩
        have nn : (kk n) ∉ kg'.map (·.1) := fun z => by
          rw [t2, List.map_map] at z
          obtain ⟨y, hy, e⟩ := List.mem_map.mp z
          exact new (List.mem_map.mpr ⟨y, hy, by injection e⟩)
        have e := val_out nn
        rw [e]
        exact f
      refine xif_yes (fun F f => ?_) ?_
      · refine ⟨_, rfl, a.h, _, _, _, _, rfl, hf2.core.ob, T.cl_Hall, T.nf_machines, f_machines, a.G, kg', rfl, hG, rfl, _, rfl, ?_⟩
        have e : decide (V.int (kg'.length : Nat) = V.int 6) = true := by rw [dI]; exact decide_eq_true (by omega)
        rw [e]
        exact f
      · exact k _ s12
theorem okX_Hall_tell_no (T : Txt K mg A) : FnOk P w K mg base (L2.CX P w) 7 A.Hall_tell A.Hall_tell_ ["self", "machine", "task", "seed", "score"] (spTellNo K A.Hall A) := by
  refine T.Hall_tell.F.okX sc_Hall_tell (fun vs H Q E h => ?_) (fun cdv Ar outer s H vs Q E hr h => ?_)
  · obtain ⟨a, st, n, g, sd, x, m, t, DD, rfl, _⟩ := h
    rfl
  · obtain ⟨a, st, n, g, sd, x, m, t, DD, rfl, hf, ok, hm, ht, ot, s0, s9, x0, x9, why, k⟩ := h
    have hL := sizeLine_eq
    obtain ⟨nhT, nhG, nhR, nhP, nhD, nTP, nTD, nGP, nGD, nRP, nRD⟩ := hf.ne
    obtain ⟨nTG, nTR, nGR⟩ := hf.core.ne
    refine ⟨_, (pss_cons (ps_expr (pe_meth (pv 0) T.cl_Hall T.Hall_check_machine_told.m (ok_Hall_check_machine_told T) (hr.mono (by decide)) T.Hall_check_machine_told.b .nil pass0 (pa_cons (pv 1) pa_nil)))
    (pss_cons (ps_if (pt_not (pt_val (pe_call (ok_is_told T) (hr.mono (by decide)) (by rfl) T.is_told.n T.is_told.F.kp T.is_told.b .nil pass0 (pa_cons (pv 2) (pa_cons (pe_fld (pv 0) rfl) pa_nil)))))
    (pss_one ps_never)
    pss_nil)
    (pss_cons (ps_expr (pe_call (ok_check_seed T) (hr.mono (by decide)) (by rfl) T.check_seed.n T.check_seed.F.kp T.check_seed.b .nil pass0 (pa_cons (pv 3) pa_nil)))
    (pss_cons (ps_if (pt_not (pt_val (pe_call (ok_is_number T) (hr.mono (by decide)) (by rfl) T.is_number.n T.is_number.F.kp T.is_number.b .nil pass0 (pa_cons (pv 4) (pa_cons pe_int (pa_cons (pe_callB call_len_seq (by rfl) T.n_len PySem.boot_len (pa_cons (pe_ix ix_tup (pe_dget (hu_of hr) (pe_fld (pv 0) rfl) (pv 2) (fun _ _ => rfl)) pe_int (fun _ _ => rfl)) pa_nil)) pa_nil))))))
    (pss_one ps_never)
    pss_nil)
    (pss_cons (ps_lock (ps_setLc (i := 5) (own := [("run", 7)]) (g := gName 7)  rfl sc_Hall_tell.nd rfl rfl (sw_true rfl rfl rfl (by decide +kernel)) (pi_values (pe_fld (pv 0) rfl)) (blkOk_by (N := N_Hall_tell) (sc := defScope s_Hall_tell) (by decide +kernel)) (fun _ _ _ _ _ => pg_name (i := 7) sc_Hall_tell.nd rfl (Or.inl rfl) (hf := Or.inr rfl)) (fun _ _ _ _ _ => (pts_one (PW.pt (pw_and (pt_cmpR op_eq (pe_ix (ixK_tup (K := K) rfl) (pv 7) pe_int (fun _ _ => rfl)) (pv 1) (nomark _)) (pw_and1 (pt_cmpR op_eq (pe_ix (ixK_tup (K := K) rfl) (pv 7) pe_int (fun _ _ => rfl)) (pv 2) (nomark _))))))) (fun _ _ _ _ _ => (pe_ix (ixK_tup (K := K) rfl) (pv 7) pe_int (fun _ _ => rfl)))))
    (pss_cons (ps_if (pt_cmpR op_in_seq (pv 3) (pv 5) (by rfl))
    (pss_one (ps_refuse T.x_Taken rfl take_def T.g_Taken (by rfl)))
    pss_nil)
    (pss_cons (ps_if (pt_cmpR op_eq (pe_callB call_len_seq (by rfl) T.n_len PySem.boot_len (pa_cons (pv 5) pa_nil)) (pe_gv (by rfl) T.c_MOST_RUNS) (nomark _))
    (pss_one (ps_refuse T.x_TooMany rfl take_def T.g_TooMany (by rfl)))
    pss_nil)
    (pss_cons ps_never (pss_cons ps_never (pss_cons ps_never (pss_cons ps_never (pss_one ps_never)))))))))))), ?_⟩
    refine ⟨_, rfl, a.h, _, _, rfl, hf.core.ob, f_no (by decide +kernel), _, rfl, a, st.runs.length, st.tasks, st.machines, n, m, rfl, hf.core.htg, hm, ?_⟩
    obtain ⟨kt, hT⟩ := hf.T
    obtain ⟨kr, hR⟩ := hf.R
    obtain ⟨kg, hG⟩ := hf.G
    obtain ⟨ps, hP, dP⟩ := hf.P
    obtain ⟨ds, hDn, dD⟩ := hf.D
    obtain ⟨kt', t1, t2, t3⟩ := hf.core.tasks
    have e := rd_is hT t1
    subst e
    obtain ⟨kr', r1, r2, r3⟩ := hf.core.runs
    have e := rd_is hR r1
    subst e
    obtain ⟨tv, tg, td⟩ := val_get t2 t3 (n := g) (d := t.dt) (by rw [getL_map, ht]; rfl)
    dsimp only
    refine if_no (fun F f => ?_) ?_
    · refine ⟨_, rfl, _, rfl, a.h, _, _, _, _, rfl, hf.core.ob, T.cl_Hall, T.nf_tasks, f_tasks, g, a.T, kt', rfl, t1, ?_⟩
      rw [tg]
      exact ⟨_, rfl, f⟩
    refine ⟨_, rfl, sd, rfl, s0, s9, ?_⟩
    dsimp only
    refine if_no (fun F f => ?_) ?_
    · obtain ⟨u, g2, d2⟩ := hf.core.tasks.at_ (f := Task.dt) ht
      obtain ⟨ta, tb, tu, rfl, hs, hb, hu, hl⟩ := dp_tk d2
      refine ⟨_, rfl, _, rfl, a.h, _, _, _, _, rfl, hf.core.ob, T.cl_Hall, T.nf_tasks, f_tasks, _, rfl, a.T, _, rfl, g2, ta, _, _, _, rfl, rfl, hs, at0, tb, tu, rfl, .inr hb, _, _, _, rfl, .int _, ?_⟩
      have e : isNum 0 (tu.length : Nat) (V.int x) = true := by
        show (decide (0 ≤ x) && decide (x ≤ (tu.length : Nat))) = true
        rw [decide_eq_true x0, decide_eq_true (by rw [hl]; exact x9)]
        rfl
      rw [e]
      exact ⟨_, rfl, f⟩
    have lk := kv_len r2
    have lc := cnt_len st.runs
    have lrn := ok.runs
    refine ⟨a.R, _, hR, trivial, fun od => ?_⟩
    have hfL := hf.core.lock (od := od) hR
    have ktl : KTL K H (upd H a.R (.frz od (.dK kr'))) := .lock hR
    have hRL : upd H a.R (.frz od (.dK kr')) a.R = some (.frz od (.dK kr')) := upd_same
    have r3L := dps_ktl ktl _ _ r3
    have oth : ∀ b, b ≠ a.R → upd H a.R (.frz od (.dK kr')) b = H b := fun b hb => upd_ne hb
    refine ⟨_, rfl, a.h, _, _, _, _, rfl, hfL.ob, T.cl_Hall, T.nf_runs, f_runs, a.R, od, _, rfl, hRL, fun D hD => ?_⟩
    have nRD2 : a.R ≠ D := ne_of_none hRL hD
    have unl : ∀ H1, Same (upd H a.R (.frz od (.dK kr'))) H1 → Same H (upd H1 a.R (.dK kr')) := fun H1 s => same_unlock hR s
    have hDn0 : H D = none := by
      rw [← oth D nRD2.symm]
      exact hD
    generalize upd H a.R (.frz od (.dK kr')) = H0 at hfL ktl hRL r3L oth hD unl
    refine lc_w walk_values [some (.ref a.h), some (.str n), some (.str g), some (.int sd), some (.int x), none, none, none] (fun i H' => Same H0 H' ∧ H' D = some (.lst (((((cnt st.runs).take i).filter (ofIn n g)).map fun p => p.1.seed).map V.int))) ⟨same_put (Same.refl _) hD, upd_same⟩ (fun i H' _ z => z.1 _ _ hRL) ?_ ?_
    · rintro i x H1 H2 hi ⟨s1, h1⟩ ⟨rfl, kx, ek⟩
      obtain ⟨r, mm, t, hm, rfl, rfl, ht⟩ := cnt_run r2 r3L ek
      have ht1 := KT.same s1 _ _ ht
      have es : (((cnt st.runs).take (i + 1)).filter (ofIn n g)) = (((cnt st.runs).take i).filter (ofIn n g)) ++ if ofIn n g (r, mm) = true then [(r, mm)] else [] := by
        rw [List.take_add_one, hm, List.filter_append]
        congr 1
        by_cases e : ofIn n g (r, mm) = true
        · rw [if_pos e]
          simp [List.filter_cons, e]
        · rw [if_neg e]
          simp [List.filter_cons, e]
      refine ⟨by walk_at "w", ?_⟩
      walk_at "z"
      refine ⟨_, rfl, t, _, _, _, rfl, rfl, ht1, at0, _, rfl, scal_str ⟨_, rfl, ?_⟩⟩
      have la : ((((cnt st.runs).take i).filter (ofIn n g)).map fun p => p.1.seed).length ≤ 1000 := by
        have q1 := List.length_filter_le (ofIn n g) ((cnt st.runs).take i)
        rw [List.length_take] at q1
        rw [List.length_map]
        omega
      have neg : ¬ ofIn n g (r, mm) = true → Same H0 H2 ∧ H2 D = some (.lst (((((cnt st.runs).take (i + 1)).filter (ofIn n g)).map fun p => p.1.seed).map V.int)) := fun f => by
        rw [es, if_neg f, List.append_nil]
        exact ⟨s1, h1⟩
      refine ite2 (fun e1 => ?_) (fun e1 => ?_)
      · refine ⟨_, rfl, t, _, _, _, rfl, rfl, ht1, at1, _, rfl, scal_str ⟨_, rfl, ?_⟩⟩
        refine ite2 (fun e2 => ?_) (fun e2 => ?_)
        · have f : ofIn n g (r, mm) = true := by
            unfold ofIn
            rw [e1, e2]
            rfl
          refine ⟨_, rfl, t, _, _, _, rfl, rfl, ht1, rfl, _, h1, by rw [List.length_map]; omega, same_put s1 hD, ?_⟩
          rw [upd_same, es, if_pos f, List.map_append, List.map_append]
          rfl
        · refine neg fun f => e2 ?_
          unfold ofIn at f
          rw [Bool.and_eq_true] at f
          exact f.2
      · refine iteF ?_
        refine neg fun f => e1 ?_
        unfold ofIn at f
        rw [Bool.and_eq_true] at f
        exact f.1
    · rintro H1 ⟨s1, h1⟩
      rw [lk, List.take_length] at h1
      refine ⟨s1 _ _ hRL, ?_⟩
      have su := unl _ s1
      have h2 := (upd_ne (o := .dK kr') nRD2.symm).trans h1
      have hR2 : upd H1 a.R (.dK kr') a.R = some (.dK kr') := upd_same
      generalize upd H1 a.R (.dK kr') = H2 at su h2 hR2
      have lsd : (((cnt st.runs).filter (ofIn n g)).map fun p => p.1.seed).length = (scoresL st.runs n g).length := by
        have e := congrArg List.length (inRuns_scores st.runs n g)
        unfold inRuns at e
        rw [List.length_map, List.length_map] at e
        rw [List.length_map, e]
      dsimp only
      rcases why with ⟨⟨r, hr1, hr2, hr3⟩, rfl⟩ | ⟨new, l5, rfl⟩
      · have inn : sd ∈ ((cnt st.runs).filter (ofIn n g)).map fun p => p.1.seed := by
          obtain ⟨i, hi⟩ := List.getElem?_of_mem hr1
          unfold Run.isOf at hr2
          simp only [Bool.and_eq_true] at hr2
          refine List.mem_map.mpr ⟨(r, i), List.mem_filter.mpr ⟨List.mem_filter.mpr ⟨List.mk_mem_zipIdx_iff_getElem?.mpr hi, hr2.1⟩, ?_⟩, hr3⟩
          unfold ofIn
          rw [Bool.and_eq_true]
          exact hr2.2
        generalize ((cnt st.runs).filter (ofIn n g)).map (fun p => p.1.seed) = sds at h2 inn
        refine xif_yes (fun F f => ?_) ?_
        · refine ⟨_, rfl, _, rfl, D, _, rfl, .inl (SqL.of h2), rfl, by simp [flatV], ?_⟩
          have e : (if false = true then !inV (.int sd) (sds.map V.int) else inV (.int sd) (sds.map V.int)) = true := by
            rw [if_neg Bool.false_ne_true, inV_ints]
            exact decide_eq_true inn
          show ∃ k, V.bl (if false = true then !inV (.int sd) (sds.map V.int) else inV (.int sd) (sds.map V.int)) = V.bl k ∧ F k H2
          rw [e]
          exact ⟨_, rfl, f⟩
        · exact k _ su
      · have notin : sd ∉ ((cnt st.runs).filter (ofIn n g)).map fun p => p.1.seed := fun z => by
          obtain ⟨p, hp, e⟩ := List.mem_map.mp z
          obtain ⟨p1, p2⟩ := List.mem_filter.mp hp
          obtain ⟨p3, p4⟩ := List.mem_filter.mp p1
          obtain ⟨r, kq⟩ := p
          have p5 := List.mk_mem_zipIdx_iff_getElem?.mp p3
          refine new r (List.mem_of_getElem? p5) ?_ e
          unfold Run.isOf
          unfold ofIn at p2
          simp only [Bool.and_eq_true] at p2 ⊢
          exact ⟨p4, p2⟩
        rw [l5] at lsd
        generalize ((cnt st.runs).filter (ofIn n g)).map (fun p => p.1.seed) = sds at h2 notin lsd
        refine if_no (fun F f => ?_) ?_
        · refine ⟨_, rfl, _, rfl, D, _, rfl, .inl (SqL.of h2), rfl, by simp [flatV], ?_⟩
          have e : (if false = true then !inV (.int sd) (sds.map V.int) else inV (.int sd) (sds.map V.int)) = false := by
            rw [if_neg Bool.false_ne_true, inV_ints]
            exact decide_eq_false notin
          show ∃ k, V.bl (if false = true then !inV (.int sd) (sds.map V.int) else inV (.int sd) (sds.map V.int)) = V.bl k ∧ F k H2
          rw [e]
          exact ⟨_, rfl, f⟩
        refine xif_yes (fun F f => ?_) ?_
        · refine ⟨_, rfl, D, _, rfl, .inl (SqL.of h2), rfl, _, rfl, ?_⟩
          have e : decide (V.int ((sds.map V.int).length : Nat) = V.int 5) = true := by rw [dI, List.length_map]; exact decide_eq_true (by omega)
          rw [e]
          exact f
        · exact k _ su
theorem okX_Hall_task (T : Txt K mg A) : FnOk P w K mg base (L2.CX P w) 7 A.Hall_task A.Hall_task_ ["self", "name", "task"] (fun vs H Q E => spTaskM K A.Hall vs H Q E ∨ spTaskNo K A.Hall A vs H Q E) :=
  Mh.FnOk.or (Mh.FnOk.lift (ok_Hall_task T)) (okX_Hall_task_no T)
theorem okX_Hall_machine (T : Txt K mg A) : FnOk P w K mg base (L2.CX P w) 7 A.Hall_machine A.Hall_machine_ ["self", "name", "machine"] (fun vs H Q E => spMachineM K A.Hall vs H Q E ∨ spMachineNo K A.Hall A vs H Q E) :=
  Mh.FnOk.or (Mh.FnOk.lift (ok_Hall_machine T)) (okX_Hall_machine_no T)
theorem okX_Hall_tell (T : Txt K mg A) : FnOk P w K mg base (L2.CX P w) 7 A.Hall_tell A.Hall_tell_ ["self", "machine", "task", "seed", "score"] (fun vs H Q E => spTellM K A.Hall vs H Q E ∨ spTellNo K A.Hall A vs H Q E) :=
  Mh.FnOk.or (Mh.FnOk.lift (ok_Hall_tell T)) (okX_Hall_tell_no T)
end
end Mh
namespace Mh
open PySem L2 LamX
/-! the program's hall by itself, the dice, the table of code objects, lists and data beside it -/
theorem xcut_seq {a b : TS} {D : Ends} {σ : St} {H : Hp} (h : tSeq a b D σ H) : Evl.tCut a b D σ H := ⟨b D, h, fun _ _ q => q⟩
theorem xif_rr {c : TT} {t r : TS} {D : Ends} {σ : St} {H : Hp} (Pv : Hp → Prop) (hc : ∀ F : Bool → Hp → Prop, (∀ H1, Pv H1 → F false H1) → c σ H F) (rest : ∀ H1, Pv H1 → r D σ H1) : tSeq (tIfS c t tNext) r D σ H := by
  refine hc _ fun H1 p => ?_
  show if false = true then _ else _
  rw [if_neg (by decide)]
  exact rest H1 p
section
variable {K : PySem.W.Frag} {C : Addr} {H H' : Hp} {a : PAd} {st : LHall}
/-- what lies elsewhere changes -/
theorem xhall_bt {S : List Addr} (h : HFull K C H a st) (b : Bt S H H') (kt : KT K H H') (dj : ∀ x ∈ hallF a, x ∉ S) : HFull K C H' a st := by
  have i0 : a.h ∉ S := dj _ (by simp [hallF])
  have i2 : a.T ∉ S := dj _ (by simp [hallF])
  have i3 : a.G ∉ S := dj _ (by simp [hallF])
  have i4 : a.R ∉ S := dj _ (by simp [hallF])
  have i5 : a.P ∉ S := dj _ (by simp [hallF])
  have i6 : a.D ∉ S := dj _ (by simp [hallF])
  have rd : ∀ {d : Addr} {kv : List (Key × V)}, d ∉ S → Rd H d (.dK kv) → Rd H' d (.dK kv) := fun {d kv} nd q => by
    rcases q with q | ⟨o, q⟩
    · exact .inl (b _ _ nd q)
    · exact .inr ⟨o, b _ _ nd q⟩
  obtain ⟨⟨e1, ⟨k1, a1, b1, c1⟩, ⟨k2, a2, b2, c2⟩, ⟨k3, a3, b3, c3⟩, ne⟩, ⟨t, ht⟩, ⟨g, hg⟩, ⟨r, hr⟩, ⟨p, hp, dp⟩, ⟨d, hd, dd⟩, x, y, z⟩ := h
  exact ⟨⟨b _ _ i0 e1, ⟨k1, rd i2 a1, b1, dps_keep kt _ _ (tds_fst fun t => task_td t) c1⟩, ⟨k2, rd i3 a2, b2, dps_keep kt _ _ (tds_fst fun m => mach_td m) c2⟩, ⟨k3, rd i4 a3, b3, dps_keep kt _ _ (tds_runs _) c3⟩, ne⟩,
    ⟨t, b _ _ i2 ht⟩, ⟨g, b _ _ i3 hg⟩, ⟨r, b _ _ i4 hr⟩, ⟨p, b _ _ i5 hp, dps_keep kt _ _ x dp⟩, ⟨d, b _ _ i6 hd, dps_keep kt _ _ y dd⟩, x, y, z⟩
end
theorem xtab_bt {H H' : Hp} {P : Addr} {q : Str} {S : List Addr} (t : TabS H P q) (b : Bt S H H') (n : P ∉ S) (e : ∀ c ∈ S, ∀ φ, H c ≠ some (.ext φ)) : TabS H' P q := by
  obtain ⟨ps, h1, h2, h3⟩ := t
  refine ⟨ps, b _ _ n h1, h2, fun pos cv hc => ?_⟩
  obtain ⟨c, e1, e2⟩ := h3 pos cv hc
  exact ⟨c, e1, b _ _ (fun z => e c z _ e2) e2⟩
theorem xtab_same {H H' : Hp} {P : Addr} {q : Str} (t : TabS H P q) (s : Same H H') : TabS H' P q := t.ext fun b o e => s b o e
theorem xnoext {K : PySem.W.Frag} {C : Addr} {H : Hp} {a : PAd} {st : LHall} (h : HFull K C H a st) : ∀ c ∈ hallF a, ∀ φ, H c ≠ some (.ext φ) := fun c hc φ q => by
  obtain ⟨core, ⟨t, ht⟩, ⟨g, hg⟩, ⟨r, hr⟩, ⟨p, hp, dp⟩, ⟨d, hd, dd⟩, x, y, z⟩ := h
  simp only [hallF, List.mem_cons, List.not_mem_nil, or_false] at hc
  have ob := core.ob
  rcases hc with e | e | e | e | e | e <;> rw [e] at q <;> simp_all
theorem xtab_kt {K : PySem.W.Frag} {H H' : Hp} {P : Addr} {ps : Array Value} (hP : H P = some (.tbl ps)) (b : Bt [P] H H') : KT K H H' := b.kt fun c hc ys q => by
  have e : c = P := by simpa using hc
  rw [e] at q
  rcases q with q | ⟨o, q⟩ <;> rw [hP] at q <;> cases q
structure One (K : PySem.W.Frag) (C : Addr) (H : Hp) (a : PAd) (st : LHall) (d tb : Addr) (qn : Str) (Ls : List (Addr × List V)) (Ds : List (V × PyData)) : Prop where
  hall : HFull K C H a st
  ok : StOk st
  ds : DS d H
  tab : TabS H tb qn
  nd : d ∉ hallF a
  nt : tb ∉ hallF a
  ntd : tb ≠ d
  ls : ∀ z ∈ Ls, H z.1 = some (.lst z.2) ∧ z.1 ∉ hallF a ∧ z.1 ≠ d ∧ z.1 ≠ tb
  dd : ∀ z ∈ Ds, Dp K H z.1 z.2 ∧ TD z.2 = true
section
variable {K : PySem.W.Frag} {C : Addr} {H H' : Hp} {a : PAd} {st st' : LHall} {d tb : Addr} {qn : Str} {Ls : List (Addr × List V)} {Ds : List (V × PyData)}
theorem One.same (h : One K C H a st d tb qn Ls Ds) (s : Same H H') : One K C H' a st d tb qn Ls Ds :=
  ⟨h.hall.same s, h.ok, h.ds.same s, xtab_same h.tab s, h.nd, h.nt, h.ntd, fun z hz => ⟨s _ _ (h.ls z hz).1, (h.ls z hz).2⟩, fun z hz => ⟨dp_same s _ _ (h.dd z hz).1, (h.dd z hz).2⟩⟩
theorem One.step (h : One K C H a st d tb qn Ls Ds) (b : Bt (hallF a) H H') (hall : HFull K C H' a st') (ok : StOk st') : One K C H' a st' d tb qn Ls Ds := by
  have kt := h.hall.kt b
  obtain ⟨ys, e, dy⟩ := h.ds
  exact ⟨hall, ok, ⟨ys, b _ _ h.nd e, dy⟩, xtab_bt h.tab b h.nt (xnoext h.hall), h.nd, h.nt, h.ntd, fun z hz => ⟨b _ _ (h.ls z hz).2.1 (h.ls z hz).1, (h.ls z hz).2⟩, fun z hz => ⟨dp_keep kt _ _ (h.dd z hz).2 (h.dd z hz).1, (h.dd z hz).2⟩⟩
theorem One.cast (h : One K C H a st d tb qn Ls Ds) (b : Bt [d] H H') (dd : DS d H') : One K C H' a st d tb qn Ls Ds := by
  have kt := h.ds.kt (K := K) b
  obtain ⟨ys, e, dy⟩ := h.ds
  exact ⟨xhall_bt h.hall b kt fun x hx q => h.nd (by have e : x = d := by simpa using q
                                                     rw [← e]; exact hx), h.ok, dd, xtab_bt h.tab b (by simpa using h.ntd) (fun c hc φ q => by
    have e2 : c = d := by simpa using hc
    rw [e2, e] at q
    cases q), h.nd, h.nt, h.ntd, fun z hz => ⟨b _ _ (by simpa using (h.ls z hz).2.2.1) (h.ls z hz).1, (h.ls z hz).2⟩, fun z hz => ⟨dp_keep kt _ _ (h.dd z hz).2 (h.dd z hz).1, (h.dd z hz).2⟩⟩
theorem One.tabl (h : One K C H a st d tb qn Ls Ds) (b : Bt [tb] H H') (t : TabS H' tb qn) : One K C H' a st d tb qn Ls Ds := by
  obtain ⟨qs, tP, _⟩ := h.tab
  have kt := xtab_kt (K := K) tP b
  obtain ⟨ys, e, dy⟩ := h.ds
  exact ⟨xhall_bt h.hall b kt fun x hx q => h.nt (by have e : x = tb := by simpa using q
                                                     rw [← e]; exact hx), h.ok, ⟨ys, b _ _ (by simpa using h.ntd.symm) e, dy⟩, t, h.nd, h.nt, h.ntd, fun z hz => ⟨b _ _ (by simpa using (h.ls z hz).2.2.2) (h.ls z hz).1, (h.ls z hz).2⟩, fun z hz => ⟨dp_keep kt _ _ (h.dd z hz).2 (h.dd z hz).1, (h.dd z hz).2⟩⟩
/-- a place that was free is none of these -/
theorem One.off (h : One K C H a st d tb qn Ls Ds) {p : Addr} (e : H p = none) : p ∉ hallF a ∧ p ≠ d ∧ p ≠ tb := by
  refine ⟨h.hall.fresh e, fun z => ?_, fun z => ?_⟩
  · obtain ⟨ys, e1, _⟩ := h.ds
    rw [← z, e] at e1
    cases e1
  · obtain ⟨qs, tP, _⟩ := h.tab
    rw [← z, e] at tP
    cases tP
theorem One.list (h : One K C H a st d tb qn Ls Ds) {p : Addr} {xs : List V} (e : H' p = some (.lst xs)) (h' : One K C H' a st' d tb qn Ls Ds) (e0 : H p = none) : One K C H' a st' d tb qn ((p, xs) :: Ls) Ds :=
  ⟨h'.hall, h'.ok, h'.ds, h'.tab, h'.nd, h'.nt, h'.ntd, fun z hz => by
    rcases List.mem_cons.mp hz with rfl | hz
    · exact ⟨e, h.off e0⟩
    · exact h'.ls z hz, h'.dd⟩
theorem One.data (h : One K C H a st d tb qn Ls Ds) {v : V} {x : PyData} (e : Dp K H v x) (td : TD x = true) : One K C H a st d tb qn Ls ((v, x) :: Ds) :=
  ⟨h.hall, h.ok, h.ds, h.tab, h.nd, h.nt, h.ntd, h.ls, fun z hz => by
    rcases List.mem_cons.mp hz with rfl | hz
    · exact ⟨e, td⟩
    · exact h.dd z hz⟩
theorem One.offL (h : One K C H a st d tb qn Ls Ds) {p : Addr} (e : H p = none) : ∀ z ∈ Ls, z.1 ≠ p := fun z hz q => by
  have e1 := (h.ls z hz).1
  rw [q, e] at e1
  cases e1
/-- a list beside these is changed -/
theorem One.put (h : One K C H a st d tb qn Ls Ds) {p : Addr} {xs ys : List V} (e : H p = some (.lst xs)) (n : p ∉ hallF a ∧ p ≠ d ∧ p ≠ tb) (nl : ∀ z ∈ Ls, z.1 ≠ p) : One K C (upd H p (.lst ys)) a st d tb qn Ls Ds := by
  have b : Bt [p] H (upd H p (.lst ys)) := Bt.refl.set (by simp)
  have kt : KT K H (upd H p (.lst ys)) := b.kt1 e
  obtain ⟨zs, e2, dy⟩ := h.ds
  exact ⟨xhall_bt h.hall b kt fun x hx q => n.1 (by have e : x = p := by simpa using q
                                                    rw [← e]; exact hx), h.ok, ⟨zs, (upd_ne n.2.1.symm).trans e2, dy⟩, xtab_bt h.tab b (by simpa using n.2.2.symm) (fun c hc φ q => by
    have e2 : c = p := by simpa using hc
    rw [e2, e] at q
    cases q), h.nd, h.nt, h.ntd, fun z hz => ⟨(upd_ne (nl z hz)).trans (h.ls z hz).1, (h.ls z hz).2⟩, fun z hz => ⟨dp_keep kt _ _ (h.dd z hz).2 (h.dd z hz).1, (h.dd z hz).2⟩⟩
theorem One.at_ (h : One K C H a st d tb qn Ls Ds) {p : Addr} {xs : List V} (hz : (p, xs) ∈ Ls) : H p = some (.lst xs) := (h.ls _ hz).1
theorem One.dat (h : One K C H a st d tb qn Ls Ds) {v : V} {x : PyData} (hz : (v, x) ∈ Ds) : Dp K H v x := (h.dd _ hz).1
end
theorem xok_none : StOk LHall.none := by
  refine ⟨by decide, by decide, by decide, ?_, ?_, List.nodup_nil, List.nodup_nil, ?_, ?_, by decide, by decide, by decide⟩
  · intro z hz; cases hz
  · intro z hz; cases hz
  · intro z hz; cases hz
  · intro n g; exact Nat.zero_le _
theorem islm_bt {X : Cx} {m : Lm} {H H' : Hp} {f : Addr} {S : List Addr} (h : IsLm X m H f) (b : Bt S H H') (no : ∀ c ∈ S, (∀ φ, H c ≠ some (.ext φ)) ∧ ∀ xs, H c ≠ some (.tup xs)) : IsLm X m H' f := by
  obtain ⟨c, dV, h1, h2, h3⟩ := h
  refine ⟨c, dV, b _ _ (fun z => (no _ z).1 _ h1) h1, b _ _ (fun z => (no _ z).1 _ h2) h2, ?_⟩
  revert h3
  rcases m.dflt with _ | p
  · exact id
  · rintro ⟨t, h1, h2⟩
    exact ⟨t, h1, b _ _ (fun z => (no _ z).2 _ h2) h2⟩
abbrev frefs (fs : List (Addr × LamD)) : List V := fs.map fun z : Addr × LamD => V.ref z.1
/-- works of a list, all refused, the hall as it stood -/
theorem rd_are {X : Cx} {A : Adr} {σ : L2.St} {l : Addr} {x : Str} {fs : List (Addr × LamD)} {Q : VK} {C : Addr} {H : Hp} {a : PAd} {st : LHall} {d tb : Addr} {qn : Str} {Ls : List (Addr × List V)} {Ds : List (V × PyData)}
    (o : One X.K C H a st d tb qn ((l, frefs fs) :: Ls) Ds) (il : ∀ z ∈ fs, IsLm X z.2.m H z.1) (so : PyData.strOk x = true)
    (all : ∀ z ∈ fs, LamOk X 11 z.2 ∧ ∃ j D, ExR X.K A.HallError (exs A) j D ∧ wNames[j]? = some x ∧ j < 13 ∧ ∀ HZ, One X.K C HZ a st d tb qn ((l, frefs fs) :: Ls) Ds → ∀ (E' : XK) (Q' : VK),
      (∀ H', One X.K C H' a st d tb qn ((l, frefs fs) :: Ls) Ds → Bt [d] HZ H' → E' (.ref D) none H') → z.2.t E' σ HZ Q')
    (k : ∀ H', One X.K C H' a st d tb qn Ls Ds → Q (.bl true) H') : rdAre X A σ [.ref l, .str x] H Q := by
  refine ⟨l, x, fs, [d], fun H' => One X.K C H' a st d tb qn ((l, frefs fs) :: Ls) Ds ∧ ∀ z ∈ fs, IsLm X z.2.m H' z.1, rfl, ⟨o, il⟩, fun Ha Hb ⟨o, il⟩ s => ⟨o.same s, fun z hz => (il z hz).same s⟩, fun Ha ⟨o, il⟩ => ⟨SqL.of (o.at_ (by simp)), il⟩, fun b hb e => ?_, so, fun z hz => ?_, fun H' ⟨o, _⟩ _ => k H' ⟨o.hall, o.ok, o.ds, o.tab, o.nd, o.nt, o.ntd, fun z hz => o.ls z (List.mem_cons_of_mem _ hz), o.dd⟩⟩
  · have e2 : b = d := by simpa using hb
    obtain ⟨ys, e3, _⟩ := o.ds
    rw [← e2, e] at e3
    cases e3
  · obtain ⟨ok, j, D, X1, hw, lj, h⟩ := all z hz
    refine ⟨ok, j, D, X1, hw, lj, fun HZ ⟨oz, iz⟩ E' Q' q => h HZ oz E' Q' fun H' o' b' => q H' ⟨o', fun y hy => islm_bt (iz y hy) b' fun c hc => ?_⟩ b'⟩
    have e2 : c = d := by simpa using hc
    obtain ⟨ys, e3, _⟩ := oz.ds
    rw [e2, e3]
    exact ⟨fun φ q => (by cases q), fun xs q => (by cases q)⟩
def RefBy (X : Cx) (A : Adr) (σ : L2.St) (x : Str) (J : Hp → Prop) (d : Addr) (t : XK → TE) : Prop := ∃ j D, ExR X.K A.HallError (exs A) j D ∧ wNames[j]? = some x ∧ j < 13 ∧ ∀ HZ, J HZ → ∀ (E' : XK) (Q' : VK), (∀ H', J H' → Bt [d] HZ H' → E' (.ref D) none H') → t E' σ HZ Q'
section
variable {X : Cx} {A : Adr} {σ : L2.St} {l f g : Addr} {x : Str} {D D2 : LamD} {Q : VK} {C : Addr} {H : Hp} {a : PAd} {st : LHall} {d tb : Addr} {qn : Str} {Ls : List (Addr × List V)} {Ds : List (V × PyData)}
theorem rd_are1 (ok : LamOk X 11 D) (il : IsLm X D.m H f) (o : One X.K C H a st d tb qn ((l, [V.ref f]) :: Ls) Ds) (so : PyData.strOk x = true) (r : RefBy X A σ x (fun H' => One X.K C H' a st d tb qn ((l, [V.ref f]) :: Ls) Ds) d D.t)
    (k : ∀ H', One X.K C H' a st d tb qn Ls Ds → Q (.bl true) H') : rdAre X A σ [.ref l, .str x] H Q := by
  refine rd_are (fs := [(f, D)]) o (fun z hz => ?_) so (fun z hz => ?_) k
  · rcases List.mem_singleton.mp hz with rfl
    exact il
  · rcases List.mem_singleton.mp hz with rfl
    exact ⟨ok, r⟩
theorem rd_are2 (ok : LamOk X 11 D) (ok2 : LamOk X 11 D2) (il : IsLm X D.m H f) (il2 : IsLm X D2.m H g) (o : One X.K C H a st d tb qn ((l, [V.ref f, V.ref g]) :: Ls) Ds) (so : PyData.strOk x = true) (r : RefBy X A σ x (fun H' => One X.K C H' a st d tb qn ((l, [V.ref f, V.ref g]) :: Ls) Ds) d D.t) (r2 : RefBy X A σ x (fun H' => One X.K C H' a st d tb qn ((l, [V.ref f, V.ref g]) :: Ls) Ds) d D2.t)
    (k : ∀ H', One X.K C H' a st d tb qn Ls Ds → Q (.bl true) H') : rdAre X A σ [.ref l, .str x] H Q := by
  refine rd_are (fs := [(f, D), (g, D2)]) o (fun z hz => ?_) so (fun z hz => ?_) k
  · rcases List.mem_cons.mp hz with rfl | hz
    · exact il
    rcases List.mem_singleton.mp hz with rfl
    exact il2
  · rcases List.mem_cons.mp hz with rfl | hz
    · exact ⟨ok, r⟩
    rcases List.mem_singleton.mp hz with rfl
    exact ⟨ok2, r2⟩
/-- a lambda's own table grows -/
theorem islm_tab {m : Lm} {H' : Hp} {P : Addr} {q : Str} (h : IsLm X m H f) (t : TabS H P q) (b : Bt [P] H H') : IsLm X m H' f := by
  obtain ⟨_, tP, _⟩ := t
  refine islm_bt h b fun c hc => ?_
  have e2 : c = P := by simpa using hc
  rw [e2, tP]
  exact ⟨fun φ q => (by cases q), fun xs q => (by cases q)⟩
end
theorem dps_nil_eq {K : PySem.W.Frag} {H : Hp} {us : List V} (h : DpAll K H us []) : us = [] := by cases h; rfl
/-- names in some order, out of strings that are mixed -/
theorem mixed_names {K : PySem.W.Frag} {H : Hp} {ns : List Str} (h : ∀ n ∈ ns, PyData.strOk n = true) : ((ns.map fun n => ((V.str n, PyData.str n) : V × PyData)).map (·.1)) = ns.map V.str ∧ Mixable K H (ns.map fun n => ((V.str n, PyData.str n) : V × PyData)) := by
  refine ⟨by rw [List.map_map]; rfl, fun z hz => ?_⟩
  obtain ⟨n, hn, rfl⟩ := List.mem_map.mp hz
  exact ⟨.str _, rfl, by simpa [Sh, PyData.canLay0, PyData.depth] using h n hn⟩
theorem mixed_back {ns : List Str} {ys : List (V × PyData)} (p : ys.Perm (ns.map fun n => ((V.str n, PyData.str n) : V × PyData))) : ∃ ms : List Str, ms.Perm ns ∧ ys.map (·.1) = ms.map V.str := by
  refine ⟨ys.map fun z => match z.1 with | .str s => s | _ => Str.ofString "", ?_, ?_⟩
  · have q := p.map fun z : V × PyData => match z.1 with | .str s => s | _ => Str.ofString ""
    rw [List.map_map] at q
    have e : ((fun z : V × PyData => match z.1 with | .str s => s | _ => Str.ofString "") ∘ fun n : Str => (V.str n, PyData.str n)) = id := rfl
    rwa [e, List.map_id] at q
  · rw [List.map_map]
    refine List.map_congr_left fun z hz => ?_
    obtain ⟨n, _, rfl⟩ := List.mem_map.mp (p.mem_iff.mp hz)
    rfl
theorem at_names {ns : List Str} {r : Int} (r0 : 0 ≤ r) (r1 : r < (ns.length : Int)) : ∃ n ∈ ns, atI (ns.map V.str) r = some (.str n) := by
  obtain ⟨j, rfl⟩ : ∃ j : Nat, r = (j : Int) := ⟨r.toNat, by omega⟩
  have h : j < ns.length := by omega
  exact ⟨ns[j], List.getElem_mem _, atI_nat (by rw [List.getElem?_map]; simp [h])⟩
def nRg (n : Nat) : List (V × PyData) := (List.range n).map fun i : Nat => (V.int (0 + (i : Int)), PyData.int (0 + (i : Int)))
theorem mixed_rg {K : PySem.W.Frag} {H : Hp} {n : Nat} : (nRg n).map (·.1) = rgV 0 n ∧ Mixable K H (nRg n) := by
  refine ⟨?_, fun z hz => ?_⟩
  · unfold nRg rgV
    rw [List.map_map]
    rfl
  · obtain ⟨i, _, rfl⟩ := List.mem_map.mp hz
    exact ⟨.int _, rfl, sh_int _⟩
theorem mixed_ints {n : Nat} {ys : List (V × PyData)} (p : ys.Perm (nRg n)) : ∃ is : List Int, is.Perm ((List.range n).map fun i : Nat => (i : Int)) ∧ ys.map (·.1) = is.map V.int := by
  refine ⟨ys.map fun z => match z.1 with | .int s => s | _ => 0, ?_, ?_⟩
  · have q := p.map fun z : V × PyData => match z.1 with | .int s => s | _ => (0 : Int)
    unfold nRg at q
    rw [List.map_map] at q
    refine q.trans (List.Perm.of_eq (List.map_congr_left fun i _ => ?_))
    show (0 : Int) + (i : Int) = i
    omega
  · rw [List.map_map]
    refine List.map_congr_left fun z hz => ?_
    obtain ⟨n, _, rfl⟩ := List.mem_map.mp (p.mem_iff.mp hz)
    rfl
end Mh
namespace Mh
open PySem L2 LamX
local macro_rules | `(tactic| walk_at "z") => `(tactic| simp only [List.set_cons_succ, List.set_cons_zero])
local macro_rules | `(tactic| walk_at "w") => `(tactic| simp only [wipe, List.map, List.set_cons_succ, List.set_cons_zero])
theorem xputL_new {α : Type} {l : List (Str × α)} {n : Str} {x : α} (h : n ∉ l.map (·.1)) : putL l n x = l ++ [(n, x)] := by
  unfold putL
  rw [if_neg]
  intro q
  obtain ⟨z, hz, e⟩ := List.any_eq_true.mp q
  exact h (List.mem_map.mpr ⟨z, hz, of_decide_eq_true e⟩)
theorem unr_nil {st : LHall} (h : ∀ n ∈ namesG st, isRanked st n = false) : rankedL st = [] := by
  refine List.filter_eq_nil_iff.mpr fun n hn => ?_
  rw [h n ((sortN_perm _).mem_iff.mp hn)]
  decide
theorem ranks_nil {st : LHall} (h : rankedL st = []) : ranksL st = [] ∧ rowsL st = [] := by
  constructor
  · unfold ranksL meansL
    rw [h]
    rfl
  · unfold rowsL rowsU meansL
    rw [h]
    exact (sortR_perm []).eq_nil
theorem unr_goal {st : LHall} {g : Str} (hg : g ∈ namesT st) (no : ∀ r ∈ st.runs, r.goal ≠ g) (n : Str) : isRanked st n = false := by
  cases c : isRanked st n with
  | false => rfl
  | true =>
    unfold isRanked at c
    rw [Bool.and_eq_true, List.all_eq_true] at c
    have q := c.2 g hg
    have z : (scoresL st.runs n g).length = 0 := by
      unfold scoresL
      rw [List.length_map, List.length_eq_zero_iff, List.filter_eq_nil_iff]
      intro r hr q
      unfold Run.isOf at q
      rw [Bool.and_eq_true, Bool.and_eq_true] at q
      exact no r hr (of_decide_eq_true q.2.2)
    rw [z] at q
    cases q
theorem chg_nil {st st' : LHall} (h : rankedL st = []) (h' : rankedL st' = []) : chgS st st' = [] := by
  unfold chgS
  rw [(ranks_nil h).1, (ranks_nil h').1]
  unfold chgOf
  rw [List.map_eq_nil_iff, List.filter_eq_nil_iff]
  intro x _
  simp
theorem take_new {gs : List Str} {i : Nat} {g : Str} (nd : gs.Nodup) (h : gs[i]? = some g) : g ∉ gs.take i ∧ gs.take (i + 1) = gs.take i ++ [g] := by
  have e : gs.take (i + 1) = gs.take i ++ [g] := by
    rw [List.take_add_one, h]
    rfl
  have q := nd.sublist (List.take_sublist (i + 1) gs)
  rw [e, List.nodup_append] at q
  exact ⟨fun z => q.2.2 g z g (by simp) rfl, e⟩
structure At11 (st : LHall) (gs : List Str) (t : Task) (ns : List Str) (m : Mach) (rs : List Run) (k : Nat) : Prop where
  T : st.tasks = gs.map fun g => (g, t)
  G : st.machines = ns.map fun n => (n, m)
  R : st.runs = rs
  D : st.deeds.length = k
theorem At11.nT {st : LHall} {gs : List Str} {t : Task} {ns : List Str} {m : Mach} {rs : List Run} {k : Nat} (h : At11 st gs t ns m rs k) : namesT st = gs := by
  unfold namesT
  rw [h.T, List.map_map]
  exact List.map_id _
theorem At11.nG {st : LHall} {gs : List Str} {t : Task} {ns : List Str} {m : Mach} {rs : List Run} {k : Nat} (h : At11 st gs t ns m rs k) : namesG st = ns := by
  unfold namesG
  rw [h.G, List.map_map]
  exact List.map_id _
theorem getL_all {α : Type} {t : α} : ∀ {gs : List Str} {g : Str}, g ∈ gs → getL (gs.map fun g => (g, t)) g = some t
  | [], _, h => by cases h
  | x :: l, g, h => by
    unfold getL
    rw [List.map_cons, List.find?_cons]
    by_cases c : x = g
    · rw [decide_eq_true c]
      rfl
    · rw [decide_eq_false c]
      rcases List.mem_cons.mp h with e | e
      · exact absurd e.symm c
      · exact getL_all e
theorem At11.task {st : LHall} {gs : List Str} {t : Task} {ns : List Str} {m : Mach} {k : Nat} {g : Str} (h : At11 st gs t ns m [] k) (n : g ∉ gs) : At11 (stepS st (.task g t)) (gs ++ [g]) t ns m [] (k + 1) := by
  refine ⟨?_, h.G, ?_, ?_⟩
  · show putL st.tasks g t = _
    rw [xputL_new (by have e := h.nT; unfold namesT at e; rw [e]; exact n), h.T, List.map_append]
    rfl
  · show st.runs.map _ = _
    rw [h.R]
    rfl
  · show (st.deeds ++ [_]).length = _
    rw [List.length_append, h.D]
    rfl
theorem At11.machine {st : LHall} {gs : List Str} {t : Task} {ns : List Str} {m : Mach} {k : Nat} {n : Str} {rs : List Run} (h : At11 st gs t ns m rs k) (no : n ∉ ns) : At11 (stepS st (.machine n m)) gs t (ns ++ [n]) m rs (k + 1) := by
  refine ⟨h.T, ?_, h.R, ?_⟩
  · show putL st.machines n m = _
    rw [xputL_new (by have e := h.nG; unfold namesG at e; rw [e]; exact no), h.G, List.map_append]
    rfl
  · show (st.deeds ++ [_]).length = _
    rw [List.length_append, h.D]
    rfl
theorem At11.tell {st : LHall} {gs : List Str} {t : Task} {ns : List Str} {m : Mach} {k : Nat} {rs : List Run} {n g : Str} {s x : Int} (h : At11 st gs t ns m rs k) : At11 (stepS st (.tell n g s x)) gs t ns m (rs ++ [⟨n, g, s, x, true⟩]) (k + 1) := by
  refine ⟨h.T, h.G, ?_, ?_⟩
  · show st.runs ++ _ = _
    rw [h.R]
  · show (st.deeds ++ [_]).length = _
    rw [List.length_append, h.D]
    rfl
theorem At11.strike {st : LHall} {gs : List Str} {t : Task} {ns : List Str} {m : Mach} {k : Nat} {rs : List Run} {i : Nat} (h : At11 st gs t ns m rs k) : At11 (stepS st (.strike i)) gs t ns m (rs.modify i off) (k + 1) := by
  refine ⟨h.T, h.G, ?_, ?_⟩
  · show st.runs.modify i off = _
    rw [h.R]
  · show (st.deeds ++ [_]).length = _
    rw [List.length_append, h.D]
    rfl
theorem At11.tellOk {st : LHall} {gs : List Str} {t : Task} {ns : List Str} {m : Mach} {k : Nat} {rs : List Run} {n g : Str} {s : Int} (h : At11 st gs t ns m rs k) (hn : n ∈ ns) (hg : g ∈ gs) (s0 : 0 ≤ s) (s1 : s ≤ 999) (five : (scoresL rs n g).length < 5) (new : ∀ r ∈ rs, r.isOf n g = true → r.seed ≠ s) : DeedOk st (.tell n g s 0) :=
  ⟨m, t, by rw [h.G]; exact getL_all hn, by rw [h.T]; exact getL_all hg, s0, s1, by decide, by omega, by rw [h.R]; exact five, by rw [h.R]; exact new⟩
def rsO (n g : Str) (is : List Int) : List Run := is.map fun s => ⟨n, g, s, 0, true⟩
theorem rsO_five (n g : Str) (is : List Int) : (scoresL (rsO n g is) n g).length = is.length := by
  unfold scoresL rsO
  rw [List.length_map, List.filter_eq_self.mpr, List.length_map]
  intro r hr
  obtain ⟨s, _, rfl⟩ := List.mem_map.mp hr
  simp [Run.isOf]
theorem rsO_new {n g : Str} {is : List Int} {s : Int} (h : s ∉ is) : ∀ r ∈ rsO n g is, r.isOf n g = true → r.seed ≠ s := fun r hr _ e => by
  obtain ⟨x, hx, rfl⟩ := List.mem_map.mp hr
  exact h (by rw [← e]; exact hx)
theorem isOf_goal {r : Run} {n g : Str} (h : r.isOf n g = true) : r.goal = g := by
  unfold Run.isOf at h
  rw [Bool.and_eq_true, Bool.and_eq_true] at h
  exact of_decide_eq_true h.2.2
theorem no_scores {rs : List Run} {n o : Str} (h : ∀ r ∈ rs, r.goal ≠ o) : (scoresL rs n o).length = 0 := by
  unfold scoresL
  rw [List.length_map, List.length_eq_zero_iff, List.filter_eq_nil_iff]
  exact fun r hr q => h r hr (isOf_goal q)
theorem third : ∀ g ∈ (["a", "b", "c", "d"] : List Str), ∀ o ∈ (["a", "b", "c", "d"] : List Str), ∃ p ∈ (["a", "b", "c", "d"] : List Str), p ≠ g ∧ p ≠ o := by decide +kernel
theorem three : ∀ g ∈ (["a", "b", "c", "d"] : List Str), ((["a", "b", "c", "d"] : List Str).filter fun x => !decide (x = g)).length = 3 := by decide +kernel
theorem list8 {is : List Int} (h : is.length = 8) : ∃ i0 i1 i2 i3 i4 i5 i6 i7, is = [i0, i1, i2, i3, i4, i5, i6, i7] := by
  match is, h with
  | [i0, i1, i2, i3, i4, i5, i6, i7], _ => exact ⟨_, _, _, _, _, _, _, _, rfl⟩
abbrev qnL : Str := (Str.ofString "law" ++ Str.ofString ".<locals>.") ++ Str.ofString "<lambda>"
section
variable {P : Program} {w : World} {K : PySem.W.Frag} {mg : Str → Option Value} {base : Heap} {A : Adr}
theorem ok_law (T : Txt K mg A) (TB : TabB base mg A.law_cd A.law_tb) : FnOk P w K mg base CX0 15 A.law A.law_ ["_law_script"] (spLawT K A.law_tb) := by
  refine okC T.law.F sc_law (fun vs H Q E h => ?_) (fun cdv hcd Ar outer s H vs Q E hr h => ?_)
  · obtain ⟨a, ns, rfl, _⟩ := h
    rfl
  · obtain ⟨a, ns, rfl, hS, hlen, hTb, k⟩ := h
    have hcode : cdv = .ref A.law_cd := hcd.trans T.law_c
    have hL := sizeLine_eq
    refine ⟨_, (pss_cons (ps_set (i := 4) sc_law.nd rfl (Or.inr rfl) (pe_call (ok_dice T) (hr.mono (by decide)) (by rfl) T.dice.n T.dice.F.kp T.dice.b .nil pass0 (pa_cons (pv 0) (pa_cons pe_int pa_nil))))
    (pss_cons (ps_set (i := 7) sc_law.nd rfl (Or.inr rfl) (pe_make0 T.mk_Hall (ok_Hall___init__ T) (hr.mono (by decide)) rfl T.g_Hall T.Hall___init__.b .nil pass0))
    (pss_cons (ps_set (i := 8) sc_law.nd rfl (Or.inr rfl) (pe_call (ok_machine T) (hr.mono (by decide)) (by rfl) T.machine.n T.machine.F.kp T.machine.b .nil pass0 (pa_cons (pv 4) pa_nil)))
    (pss_cons (ps_set (i := 11) sc_law.nd rfl (Or.inr rfl) (pe_call (ok_task T) (hr.mono (by decide)) (by rfl) T.task.n T.task.F.kp T.task.b .nil pass0 (pa_cons (pv 4) (pa_cons (pv 8) pa_nil))))
    (pss_cons (ps_asg (pe_tup (pa_cons (pe_lst (pa_cons pe_str (pa_cons pe_str (pa_cons pe_str (pa_cons pe_str pa_nil))))) (pa_cons (pe_lst (pa_cons pe_str (pa_cons pe_str (pa_cons pe_str (pa_cons pe_str (pa_cons pe_str (pa_cons pe_str pa_nil))))))) pa_nil))) (pg_tup rfl (pgs_cons (pg_name (i := 1) sc_law.nd rfl (Or.inl rfl)) (pgs_cons (pg_name (i := 10) sc_law.nd rfl (Or.inr rfl)) pgs_nil))))
    (pss_cons (ps_for PassesOwn.never rfl (pi_list (pe_call (ok_mixed T) (hr.mono (by decide)) (by rfl) T.mixed.n T.mixed.F.kp T.mixed.b .nil pass0 (pa_cons (pv 4) (pa_cons (pv 1) pa_nil)))) (pg_name (i := 5) sc_law.nd rfl (Or.inr rfl))
    (pss_one (ps_if (pt_cmpR (op_neD hr.units) (pe_meth (pv 7) T.cl_Hall T.Hall_task.m (ok_Hall_task T) (hr.mono (by decide)) T.Hall_task.b .nil pass0 (pa_cons (pv 5) (pa_cons (pv 11) pa_nil))) (pe_lst pa_nil) (nomark _))
    (pss_one (ps_ret pe_bl))
    pss_nil)))
    (pss_cons (ps_for PassesOwn.never rfl (pi_list (pe_call (ok_mixed T) (hr.mono (by decide)) (by rfl) T.mixed.n T.mixed.F.kp T.mixed.b .nil pass0 (pa_cons (pv 4) (pa_cons (pv 10) pa_nil)))) (pg_name (i := 9) sc_law.nd rfl (Or.inr rfl))
    (pss_one (ps_if (pt_cmpR (op_neD hr.units) (pe_meth (pv 7) T.cl_Hall T.Hall_machine.m (ok_Hall_machine T) (hr.mono (by decide)) T.Hall_machine.b .nil pass0 (pa_cons (pv 9) (pa_cons (pv 8) pa_nil))) (pe_lst pa_nil) (nomark _))
    (pss_one (ps_ret pe_bl))
    pss_nil)))
    (pss_cons (ps_if (pt_not (pt_val (pe_are T hr (by decide) (by rfl) (pa_cons (pe_lst (pa_cons (pe_lmG (P := A.law_tb) (k := 10) TB hcode (lamT_by (N := N_law) (sc := defScope s_law) (by decide +kernel)) rfl rfl (show ∀ _ _ _ _ _ _, _ from fun _ _ _ _ _ _ => rfl) (fun _ => rfl) (fun Al ol sl Hl El fl cl hr => (pe_meth (E := El) (pv 7) T.cl_Hall T.Hall_task.m (okX_Hall_task T) (hr.mono (by decide)) T.Hall_task.b .nil (pass_lam rfl rfl) (pa_cons pe_str (pa_cons (pv 11) pa_nil))))) (pa_cons (pe_lmGD (P := A.law_tb) (k := 10) (a := "_law_a") TB hcode (lamT_by (N := N_law) (sc := defScope s_law) (by decide +kernel)) rfl rfl (show _ ∧ _ from ⟨rfl, fun _ _ _ _ _ _ _ => ⟨_, rfl, fun _ => rfl⟩⟩) (fun _ => rfl) (fun Al ol sl Hl El fl cl hr => (pe_meth (E := El) (pv 7) T.cl_Hall T.Hall_machine.m (okX_Hall_machine T) (hr.mono (by decide)) T.Hall_machine.b .nil (pass_lam rfl rfl) (pa_cons pe_str (pa_cons (pv 8) pa_nil))))) pa_nil))) (pa_cons pe_str pa_nil)))))
    (pss_one (ps_ret pe_bl))
    pss_nil)
    (pss_cons (ps_if (pt_not (pt_val (pe_are T hr (by decide) (by rfl) (pa_cons (pe_lst (pa_cons (pe_lmG (P := A.law_tb) (k := 10) TB hcode (lamT_by (N := N_law) (sc := defScope s_law) (by decide +kernel)) rfl rfl (show ∀ _ _ _ _ _ _, _ from fun _ _ _ _ _ _ => rfl) (fun _ => rfl) (fun Al ol sl Hl El fl cl hr => (pe_meth (E := El) (pv 7) T.cl_Hall T.Hall_machine.m (okX_Hall_machine T) (hr.mono (by decide)) T.Hall_machine.b .nil (pass_lam rfl rfl) (pa_cons (pe_ix (ixK_list (K := K) rfl) (pv 10) (pe_call (ok_off T) (hr.mono (by decide)) (by rfl) T.off.n T.off.F.kp T.off.b .nil pass0 (pa_cons (pv 4) (pa_cons pe_int pa_nil))) (fun _ _ => rfl)) (pa_cons (pv 8) pa_nil))))) pa_nil)) (pa_cons pe_str pa_nil)))))
    (pss_one (ps_ret pe_bl))
    pss_nil)
    (pss_cons (ps_asg (pe_tup (pa_cons (pe_ix ix_list (pv 10) (pe_call (ok_off T) (hr.mono (by decide)) (by rfl) T.off.n T.off.F.kp T.off.b .nil pass0 (pa_cons (pv 4) (pa_cons pe_int pa_nil))) (fun _ _ => rfl)) (pa_cons (pe_ix ix_list (pv 1) (pe_call (ok_off T) (hr.mono (by decide)) (by rfl) T.off.n T.off.F.kp T.off.b .nil pass0 (pa_cons (pv 4) (pa_cons pe_int pa_nil))) (fun _ _ => rfl)) pa_nil))) (pg_tup rfl (pgs_cons (pg_name (i := 9) sc_law.nd rfl (Or.inr rfl)) (pgs_cons (pg_name (i := 5) sc_law.nd rfl (Or.inr rfl)) pgs_nil))))
    (pss_cons (ps_set (i := 6) sc_law.nd rfl (Or.inr rfl) (pe_call (ok_mixed T) (hr.mono (by decide)) (by rfl) T.mixed.n T.mixed.F.kp T.mixed.b .nil pass0 (pa_cons (pv 4) (pa_cons (pe_listRg rfl (by rfl) T.n_list (prg_1 (by rfl) T.n_range pe_int)) pa_nil))))
    (pss_cons (ps_setLc (i := 2) (own := [("_law_grain", 12)]) (g := gName 12) (tt := tYes) rfl sc_law.nd rfl rfl (sw_true rfl rfl rfl (by decide +kernel)) (pi_list (pe_slice sl_list (pv 6) po_none (po_some pe_int))) (blkOk_by (N := N_law) (sc := defScope s_law) (by decide +kernel)) (fun _ _ _ _ _ => pg_name (i := 12) sc_law.nd rfl (Or.inl rfl) (hf := Or.inr rfl)) (fun _ _ _ _ _ => pts_nil) (fun _ _ _ _ _ => (pe_meth (pv 7) T.cl_Hall T.Hall_tell.m (ok_Hall_tell T) (hr.mono (by decide)) T.Hall_tell.b .nil pass0 (pa_cons (pv 9) (pa_cons (pv 5) (pa_cons (pv 12) (pa_cons pe_int pa_nil)))))))
    (pss_cons (ps_if (PW.pt (pw_or (pt_cmpR (op_neD hr.units) (pv 2) (pe_lst (pa_cons pe_int (pa_cons pe_int (pa_cons pe_int (pa_cons pe_int (pa_cons pe_int pa_nil)))))) (nomark _)) (pw_or1 (pt_not (pt_val (pe_are T hr (by decide) (by rfl) (pa_cons (pe_lst (pa_cons (pe_lmG (P := A.law_tb) (k := 10) TB hcode (lamT_by (N := N_law) (sc := defScope s_law) (by decide +kernel)) rfl rfl (show ∀ _ _ _ _ _ _, _ from fun _ _ _ _ _ _ => rfl) (fun _ => rfl) (fun Al ol sl Hl El fl cl hr => (pe_meth (E := El) (pv 7) T.cl_Hall T.Hall_tell.m (okX_Hall_tell T) (hr.mono (by decide)) T.Hall_tell.b .nil (pass_lam rfl rfl) (pa_cons (pv 9) (pa_cons (pv 5) (pa_cons (pe_ix (ixK_list (K := K) rfl) (pv 6) pe_int (fun _ _ => rfl)) (pa_cons pe_int pa_nil))))))) pa_nil)) (pa_cons pe_str pa_nil))))))))
    (pss_one (ps_ret pe_bl))
    pss_nil)
    (pss_cons (ps_if (pt_not (pt_val (pe_are T hr (by decide) (by rfl) (pa_cons (pe_lst (pa_cons (pe_lmG (P := A.law_tb) (k := 10) TB hcode (lamT_by (N := N_law) (sc := defScope s_law) (by decide +kernel)) rfl rfl (show ∀ _ _ _ _ _ _, _ from fun _ _ _ _ _ _ => rfl) (fun _ => rfl) (fun Al ol sl Hl El fl cl hr => (pe_meth (E := El) (pv 7) T.cl_Hall T.Hall_tell.m (okX_Hall_tell T) (hr.mono (by decide)) T.Hall_tell.b .nil (pass_lam rfl rfl) (pa_cons (pv 9) (pa_cons (pv 5) (pa_cons (pe_ix (ixK_list (K := K) rfl) (pv 6) pe_int (fun _ _ => rfl)) (pa_cons pe_int pa_nil))))))) pa_nil)) (pa_cons pe_str pa_nil)))))
    (pss_one (ps_ret pe_bl))
    pss_nil)
    (pss_cons (ps_expr (pe_meth (pv 7) T.cl_Hall T.Hall_strike.m (ok_Hall_strike T) (hr.mono (by decide)) T.Hall_strike.b .nil pass0 (pa_cons pe_int pa_nil)))
    (pss_cons (ps_if (pt_cmpR op_ne (pe_meth (pv 7) T.cl_Hall T.Hall_tell.m (ok_Hall_tell T) (hr.mono (by decide)) T.Hall_tell.b .nil pass0 (pa_cons (pv 9) (pa_cons (pv 5) (pa_cons (pe_ix ix_list (pv 6) pe_int (fun _ _ => rfl)) (pa_cons pe_int pa_nil))))) pe_int (nomark _))
    (pss_one (ps_ret pe_bl))
    pss_nil)
    (pss_cons (ps_if (pt_not (pt_val (pe_are T hr (by decide) (by rfl) (pa_cons (pe_lst (pa_cons (pe_lmG (P := A.law_tb) (k := 10) TB hcode (lamT_by (N := N_law) (sc := defScope s_law) (by decide +kernel)) rfl rfl (show ∀ _ _ _ _ _ _, _ from fun _ _ _ _ _ _ => rfl) (fun _ => rfl) (fun Al ol sl Hl El fl cl hr => (pe_meth (E := El) (pv 7) T.cl_Hall T.Hall_tell.m (okX_Hall_tell T) (hr.mono (by decide)) T.Hall_tell.b .nil (pass_lam rfl rfl) (pa_cons (pv 9) (pa_cons (pv 5) (pa_cons (pe_ix (ixK_list (K := K) rfl) (pv 6) pe_int (fun _ _ => rfl)) (pa_cons pe_int pa_nil))))))) pa_nil)) (pa_cons pe_str pa_nil)))))
    (pss_one (ps_ret pe_bl))
    pss_nil)
    (pss_cons (ps_set (i := 3) sc_law.nd rfl (Or.inl rfl) (pe_ix ix_list (pe_lc (own := [("_law_one", 13)]) (g := gName 13)  rfl sc_law.nd (pi_list (pv 1)) (blkOk_by (N := N_law) (sc := defScope s_law) (by decide +kernel)) (fun _ _ _ _ _ => pg_name (i := 13) sc_law.nd rfl (Or.inl rfl) (hf := Or.inr rfl)) (fun _ _ _ _ _ => (pts_one (pt_cmpR op_ne (pv 13) (pv 5) (nomark _)))) (fun _ _ _ _ _ => (pv 13))) (pe_call (ok_off T) (hr.mono (by decide)) (by rfl) T.off.n T.off.F.kp T.off.b .nil pass0 (pa_cons (pv 4) (pa_cons pe_int pa_nil))) (fun _ _ => rfl)))
    (pss_one (ps_ret (pe_and (pe_cmpR op_eq (pe_meth (pv 7) T.cl_Hall T.Hall_tell.m (ok_Hall_tell T) (hr.mono (by decide)) T.Hall_tell.b .nil pass0 (pa_cons (pv 9) (pa_cons (pv 3) (pa_cons (pe_ix ix_list (pv 6) pe_int (fun _ _ => rfl)) (pa_cons pe_int pa_nil))))) pe_int (nomark _)) (pe_and (pe_cmpR (op_eqD hr.units) (pe_meth (pv 7) T.cl_Hall T.Hall_task.m (ok_Hall_task T) (hr.mono (by decide)) T.Hall_task.b .nil pass0 (pa_cons (pv 5) (pa_cons (pv 11) pa_nil))) (pe_lst pa_nil) (nomark _)) (pe_one (pe_cmpR (op_eqD hr.units) (pe_meth0 (pv 7) T.cl_Hall T.Hall_ranks.m (ok_Hall_ranks T) (hr.mono (by decide)) T.Hall_ranks.b .nil pass0) (pe_lst pa_nil) (nomark _))))))))))))))))))))))))), ?_⟩
    refine ⟨_, rfl, a, ns, 0, rfl, hS, hlen, by decide, by decide, fun d H1 xs hd s1 hx dx => ?_⟩
    have d1 : DS d H1 := ⟨xs, hx, dx⟩
    refine fun x dx hx hdx ne => ?_
    refine ⟨x, dx, rfl, upd_same, fun ha H2 ea edx fT fG fR fP fD nd hh hT hG hR hP hD keep => ⟨rfl, ?_⟩⟩
    subst ea
    have up : ∀ b, upd (upd H1 dx (.own ha.h)) ha.h (.ins A.Hall dx []) b = none → H1 b = none := fun b e => by
      by_cases q1 : b = ha.h
      · rw [q1, upd_same] at e
        cases e
      · rw [upd_ne q1] at e
        by_cases q2 : b = dx
        · rw [q2, upd_same] at e
          cases e
        · rwa [upd_ne q2] at e
    have s2 : Same H1 H2 := fun b o e => keep b o ((upd_ne (ne_of_none e hx)).trans ((upd_ne (ne_of_none e hdx)).trans e)) (ne_of_none e hx)
    have fa : ∀ b ∈ hallF ha, H1 b = none := fun b hb => by
      simp only [hallF, List.mem_cons, List.not_mem_nil, or_false] at hb
      rcases hb with e | e | e | e | e | e <;> rw [e]
      · exact hx
      · exact up _ fT
      · exact up _ fG
      · exact up _ fR
      · exact up _ fP
      · exact up _ fD
    simp only [List.nodup_cons, List.mem_cons, List.not_mem_nil, or_false, not_or, List.nodup_nil, and_true, not_false_eq_true] at nd
    obtain ⟨⟨nTG, nTR, nTP, nTD⟩, ⟨nGR, nGP, nGD⟩, ⟨nRP, nRD⟩, nPD⟩ := nd
    have hall2 : HFull K A.Hall H2 ha LHall.none := ⟨⟨by rw [edx, hh.2]; exact hh.1, ⟨[], .inl hT, rfl, .nil⟩, ⟨[], .inl hG, rfl, .nil⟩, ⟨[], .inl hR, rfl, .nil⟩, nTG, nTR, nGR⟩, ⟨_, hT⟩, ⟨_, hG⟩, ⟨_, hR⟩, ⟨_, hP, .nil⟩, ⟨_, hD, .nil⟩, rfl, rfl, nPD⟩
    have hTb1 := s1 _ _ hTb
    have tbd : A.law_tb ≠ d := fun z => by
      rw [z, hd] at hTb
      cases hTb
    have nd2 : d ∉ hallF ha := fun q => by
      obtain ⟨ys, e, _⟩ := d1
      rw [fa d q] at e
      cases e
    have nt2 : A.law_tb ∉ hallF ha := fun q => by
      rw [fa _ q] at hTb1
      cases hTb1
    have one2 : One K A.Hall H2 ha LHall.none d A.law_tb qnL [] [] := ⟨hall2, xok_none, d1.same s2, TabS.nil (s2 _ _ hTb1), nd2, nt2, tbd, fun z hz => (by cases hz), fun z hz => (by cases hz)⟩
    clear nd2 nt2
    clear fa hall2 up hTb1 hTb d1 hD hP hR hG hT hh keep hdx hx s2 s1 hd
    refine xg_name ?_
    walk_at "z"
    refine ⟨_, rfl, d, rfl, one2.ds, fun mv m H3 b3 d3 dm3 om3 => ?_⟩
    have one3 := (one2.cast b3 d3).data dm3 (mach_td m)
    clear one2 b3 d3 dm3
    refine xg_name ?_
    walk_at "z"
    refine ⟨_, rfl, _, rfl, d, mv, m, rfl, one3.ds, one3.dat (by simp), om3, fun tv t H4 b4 d4 dt4 ot4 => ?_⟩
    have one4 := (one3.cast b4 d4).data dt4 (task_td t)
    clear one3 b4 d4 dt4
    refine xg_name ?_
    walk_at "z"
    refine ⟨by show 4 ≤ sizeLine; omega, fun l1 hl1 => ?_⟩
    have one5 := one4.same (same_put (o := .lst [.str "a", .str "b", .str "c", .str "d"]) (Same.refl _) hl1)
    have h5 : upd H4 l1 (.lst [.str "a", .str "b", .str "c", .str "d"]) l1 = some (.lst [.str "a", .str "b", .str "c", .str "d"]) := upd_same
    have one5 := one4.list h5 one5 hl1
    generalize upd H4 l1 (.lst [.str "a", .str "b", .str "c", .str "d"]) = H5 at one5
    clear h5 hl1 one4
    refine ⟨by show 6 ≤ sizeLine; omega, fun l2 hl2 => ?_⟩
    have one6 := one5.same (same_put (o := .lst [.str "m", .str "n", .str "o", .str "p", .str "q", .str "r"]) (Same.refl _) hl2)
    have h6 : upd H5 l2 (.lst [.str "m", .str "n", .str "o", .str "p", .str "q", .str "r"]) l2 = some (.lst [.str "m", .str "n", .str "o", .str "p", .str "q", .str "r"]) := upd_same
    have one6 := one5.list h6 one6 hl2
    generalize upd H5 l2 (.lst [.str "m", .str "n", .str "o", .str "p", .str "q", .str "r"]) = H6 at one6
    clear h6 hl2 one5
    refine ⟨by show 2 ≤ sizeLine; omega, fun t3 ht3 => ?_⟩
    have s7 := same_put (o := .tup [.ref l1, .ref l2]) (Same.refl H6) ht3
    have h7 : upd H6 t3 (.tup [.ref l1, .ref l2]) t3 = some (.tup [.ref l1, .ref l2]) := upd_same
    generalize upd H6 t3 (.tup [.ref l1, .ref l2]) = H7 at s7 h7
    refine ⟨t3, _, rfl, SqT.of h7, rfl, ?_⟩
    refine ⟨_, _, rfl, ?_⟩
    refine ⟨_, _, rfl, ?_⟩
    refine ⟨rfl, ?_⟩
    have one7 := one6.same s7
    clear one6 s7 h7 ht3
    -- the tasks
    have okG : ∀ n ∈ (["a", "b", "c", "d"] : List Str), NameOk n := fun n hn => by
      simp only [List.mem_cons, List.not_mem_nil, or_false] at hn
      rcases hn with rfl | rfl | rfl | rfl <;> exact NameOk.of (by decide +kernel)
    have okN : ∀ n ∈ (["m", "n", "o", "p", "q", "r"] : List Str), NameOk n := fun n hn => by
      simp only [List.mem_cons, List.not_mem_nil, or_false] at hn
      rcases hn with rfl | rfl | rfl | rfl | rfl | rfl <;> exact NameOk.of (by decide +kernel)
    obtain ⟨eG, mxG⟩ := mixed_names (K := K) (H := H7) (ns := ["a", "b", "c", "d"]) fun n hn => (okG n hn).1
    refine ⟨_, rfl, _, rfl, d, l1, _, rfl, one7.ds, (by rw [eG]; exact SqL.of (one7.at_ (by simp))), by simp, mxG, fun q8 ys H8 hq8 b8 d8 h8 pm _ => ?_⟩
    obtain ⟨gs, pgs, egs⟩ := mixed_back pm
    rw [egs] at h8
    have one8 := one7.list h8 (one7.cast b8 d8) hq8
    have ndg : gs.Nodup := pgs.nodup_iff.mpr (by decide +kernel)
    have lng : gs.length = 4 := pgs.length_eq
    have okg : ∀ n ∈ gs, NameOk n := fun n hn => okG n (pgs.mem_iff.mp hn)
    have at8 : At11 LHall.none (gs.take 0) t [] m [] 0 := ⟨rfl, rfl, rfl, rfl⟩
    clear one7 b8 d8 h8 hq8 pm egs mxG eG
    refine ⟨q8, rfl, ⟨_, SqL.of (one8.at_ (xs := gs.map V.str) (by simp))⟩, for_list (K := K) (a := q8) (xs := gs.map V.str) (fun i σ H' => ∃ st, One K A.Hall H' ha st d A.law_tb qnL [(q8, gs.map V.str), (l2, [.str "m", .str "n", .str "o", .str "p", .str "q", .str "r"]), (l1, [.str "a", .str "b", .str "c", .str "d"])] [(tv, t.dt), (mv, machDt m)] ∧ At11 st (gs.take i) t [] m [] i ∧ ∃ x5, σ = [some (.ref a), some (.ref l1), none, none, some (.ref d), x5, none, some (.ref ha.h), some mv, none, some (.ref l2), some tv, none, none])
      ⟨_, one8, at8, _, rfl⟩ (fun i σ H' _ ⟨_, z, _⟩ => SqL.of (z.at_ (by simp))) ?_ ?_⟩
    · rintro i xv σ H9 hi ⟨st, one9, at9, x5, rfl⟩
      obtain ⟨g, hg, rfl⟩ := str_at hi
      obtain ⟨ng, etk⟩ := take_new ndg hg
      have li : i < 4 := by
        have := (List.getElem?_eq_some_iff.mp hg).1
        omega
      have at10 := at9.task (g := g) ng
      rw [← etk] at at10
      have og := okg g (List.mem_of_getElem? hg)
      have lst : st.tasks.length = i := by
        rw [at9.T, List.length_map, List.length_take]
        omega
      have ok10 := stok_step (d := .task g t) one9.ok ⟨og, ot4, .inr (by omega)⟩ (by rw [at9.D]; omega)
      have ec : chgS st (stepS st (.task g t)) = [] := chg_nil (unr_nil fun n hn => by rw [at9.nG] at hn; cases hn) (unr_nil fun n hn => by rw [at10.nG] at hn; cases hn)
      refine xg_name ?_
      walk_at "z"
      refine ⟨_, rfl, ha.h, _, _, rfl, one9.hall.core.ob, f_no (by decide +kernel), _, rfl, _, rfl, ha, st, g, tv, t, rfl, one9.hall, one9.ok, ok10, og, one9.dat (by simp), ot4, .inr (by omega), fun p H10 us hp b10 hall10 h10 d10 => ?_⟩
      rw [ec] at d10
      have one10 := one9.step b10 hall10 ok10
      refine ⟨Nat.zero_le _, fun e11 he11 => ?_⟩
      have s11 := same_put (o := .lst []) (Same.refl H10) he11
      refine ⟨.list [], .list [], .lst (SqL.of (s11 _ _ h10)) (dps_same s11 _ _ d10), .lst (SqL.of upd_same) .nil, rfl, rfl, _, rfl, ?_⟩
      refine iteF ?_
      exact ⟨_, one10.same s11, at10, _, rfl⟩
    rintro σ H9 ⟨st, one9, at9, x5, rfl⟩
    rw [List.length_map, lng, List.take_of_length_le (Nat.le_of_eq lng)] at at9
    clear one8 at8
    dsimp only
    -- the machines
    obtain ⟨eN, mxN⟩ := mixed_names (K := K) (H := H9) (ns := ["m", "n", "o", "p", "q", "r"]) fun n hn => (okN n hn).1
    refine ⟨_, rfl, _, rfl, d, l2, _, rfl, one9.ds, (by rw [eN]; exact SqL.of (one9.at_ (by simp))), by simp, mxN, fun q10 ys H10 hq10 b10 d10 h10 pm _ => ?_⟩
    obtain ⟨nms, pns, ens⟩ := mixed_back pm
    rw [ens] at h10
    have one10 := one9.list h10 (one9.cast b10 d10) hq10
    have ndn : nms.Nodup := pns.nodup_iff.mpr (by decide +kernel)
    have lnn : nms.length = 6 := pns.length_eq
    have okn : ∀ n ∈ nms, NameOk n := fun n hn => okN n (pns.mem_iff.mp hn)
    have at10 : At11 st gs t (nms.take 0) m [] (4 + 0) := at9
    clear one9 at9 b10 d10 h10 hq10 pm ens mxN eN
    refine ⟨q10, rfl, ⟨_, SqL.of (one10.at_ (xs := nms.map V.str) (by simp))⟩, for_list (K := K) (a := q10) (xs := nms.map V.str) (fun i σ H' => ∃ st, One K A.Hall H' ha st d A.law_tb qnL [(q10, nms.map V.str), (q8, gs.map V.str), (l2, [.str "m", .str "n", .str "o", .str "p", .str "q", .str "r"]), (l1, [.str "a", .str "b", .str "c", .str "d"])] [(tv, t.dt), (mv, machDt m)] ∧ At11 st gs t (nms.take i) m [] (4 + i) ∧ ∃ x5 x9, σ = [some (.ref a), some (.ref l1), none, none, some (.ref d), x5, none, some (.ref ha.h), some mv, x9, some (.ref l2), some tv, none, none])
      ⟨_, one10, at10, _, _, rfl⟩ (fun i σ H' _ ⟨_, z, _⟩ => SqL.of (z.at_ (by simp))) ?_ ?_⟩
    · rintro i xv σ H11 hi ⟨st, one11, at11, x5, x9, rfl⟩
      obtain ⟨n, hn, rfl⟩ := str_at hi
      obtain ⟨nn, etk⟩ := take_new ndn hn
      have li : i < 6 := by
        have := (List.getElem?_eq_some_iff.mp hn).1
        omega
      have at12 := at11.machine (n := n) nn
      rw [← etk] at at12
      have on := okn n (List.mem_of_getElem? hn)
      have lsm : st.machines.length = i := by
        rw [at11.G, List.length_map, List.length_take]
        omega
      have ok12 := stok_step (d := .machine n m) one11.ok ⟨on, om3, by rw [at11.nG]; exact nn, by omega⟩ (by rw [at11.D]; omega)
      refine xg_name ?_
      walk_at "z"
      refine ⟨_, rfl, ha.h, _, _, rfl, one11.hall.core.ob, f_no (by decide +kernel), _, rfl, _, rfl, ha, st, n, mv, m, rfl, one11.hall, one11.ok, on, one11.dat (by simp), om3, by rw [at11.nG]; exact nn, by omega, fun p H12 hp b12 hall12 h12 => ?_⟩
      have one12 := one11.step b12 hall12 ok12
      refine ⟨Nat.zero_le _, fun e13 he13 => ?_⟩
      have s13 := same_put (o := .lst []) (Same.refl H12) he13
      refine ⟨.list [], .list [], .lst (SqL.of (s13 _ _ h12)) .nil, .lst (SqL.of upd_same) .nil, rfl, rfl, _, rfl, ?_⟩
      refine iteF ?_
      exact ⟨_, one12.same s13, at12, _, _, rfl⟩
    rintro σ H11 ⟨st, one11, at11, x5, x9, rfl⟩
    rw [List.length_map, lnn, List.take_of_length_le (Nat.le_of_eq lnn)] at at11
    clear one10 at10
    dsimp only
    -- too many tasks, too many machines
    have ltk : st.tasks.length = 4 := by rw [at11.T, List.length_map, lng]
    have lmc : st.machines.length = 6 := by rw [at11.G, List.length_map, lnn]
    refine xif_rr (fun H' => One K A.Hall H' ha st d A.law_tb qnL [(q10, nms.map V.str), (q8, gs.map V.str), (l2, [.str "m", .str "n", .str "o", .str "p", .str "q", .str "r"]), (l1, [.str "a", .str "b", .str "c", .str "d"])] [(tv, t.dt), (mv, machDt m)]) (fun F hF => ?_) (fun H12 one12 => ?_)
    · refine ⟨one11.tab, fun ok1 f1 H12 nf1 b12 t12 il1 => ?_⟩
      have one12 := one11.tabl b12 t12
      refine ⟨one12.tab, fun ok2 f2 H13 nf2 b13 t13 il2 => ?_⟩
      have one13 := one12.tabl b13 t13
      have il1 := islm_tab il1 one12.tab b13
      refine ⟨by show 2 ≤ sizeLine; omega, fun l14 hl14 => ?_⟩
      have s14 := same_put (o := .lst [.ref f1, .ref f2]) (Same.refl H13) hl14
      have h14 : upd H13 l14 (.lst [.ref f1, .ref f2]) l14 = some (.lst [.ref f1, .ref f2]) := upd_same
      have one14 := one13.list h14 (one13.same s14) hl14
      generalize upd H13 l14 (.lst [.ref f1, .ref f2]) = H14 at s14 one14
      have sL : ∀ n : Str, n ∈ (["e", "s"] : List Str) → NameOk n := fun n hn => by
        simp only [List.mem_cons, List.not_mem_nil, or_false] at hn
        rcases hn with rfl | rfl <;> exact NameOk.of (by decide +kernel)
      dsimp only [tCons, tNil, tC]
      refine rd_are2 ok1 ok2 (il1.same s14) (il2.same s14) one14 (by decide +kernel) ?_ ?_ (fun H15 one15 => ⟨_, rfl, hF _ one15⟩)
      · refine ⟨3, A.TooMany, T.x_TooMany, rfl, by decide, fun HZ oz E' Q' q => ?_⟩
        refine ⟨_, rfl, ha.h, _, _, rfl, oz.hall.core.ob, f_no (by decide +kernel), _, rfl, .inr ⟨ha, st, _, tv, t, rfl, oz.hall, sL _ (by simp), oz.dat (by simp), ot4, ?_, ltk, fun H' s' => q _ (oz.same s') (Bt.of_same s')⟩⟩
        rw [at11.nT, pgs.mem_iff]
        decide +kernel
      · refine ⟨3, A.TooMany, T.x_TooMany, rfl, by decide, fun HZ oz E' Q' q => ?_⟩
        refine ⟨_, rfl, ha.h, _, _, rfl, oz.hall.core.ob, f_no (by decide +kernel), _, rfl, .inr ⟨ha, st, _, mv, m, A.TooMany, rfl, oz.hall, sL _ (by simp), oz.dat (by simp), om3, .inr ⟨?_, lmc, rfl⟩, fun H' s' => q _ (oz.same s') (Bt.of_same s')⟩⟩
        rw [at11.nG, pns.mem_iff]
        decide +kernel
    clear one11
    -- a machine that is there
    refine xif_rr (fun H' => One K A.Hall H' ha st d A.law_tb qnL [(q10, nms.map V.str), (q8, gs.map V.str), (l2, [.str "m", .str "n", .str "o", .str "p", .str "q", .str "r"]), (l1, [.str "a", .str "b", .str "c", .str "d"])] [(tv, t.dt), (mv, machDt m)]) (fun F hF => ?_) (fun H13 one13 => ?_)
    · refine ⟨one12.tab, fun ok1 f1 H13 nf1 b13 t13 il1 => ?_⟩
      have one13 := one12.tabl b13 t13
      refine ⟨by show 1 ≤ sizeLine; omega, fun l14 hl14 => ?_⟩
      have s14 := same_put (o := .lst [.ref f1]) (Same.refl H13) hl14
      have h14 : upd H13 l14 (.lst [.ref f1]) l14 = some (.lst [.ref f1]) := upd_same
      have one14 := one13.list h14 (one13.same s14) hl14
      generalize upd H13 l14 (.lst [.ref f1]) = H14 at s14 one14
      dsimp only [tCons, tNil, tC]
      refine rd_are1 ok1 (il1.same s14) one14 (by decide +kernel) ?_ (fun H15 one15 => ⟨_, rfl, hF _ one15⟩)
      refine ⟨4, A.Taken, T.x_Taken, rfl, by decide, fun HZ oz E' Q' q => ?_⟩
      refine ⟨_, rfl, ha.h, _, _, rfl, oz.hall.core.ob, f_no (by decide +kernel), _, rfl, rd_off rfl oz.ds (by decide) (by decide) fun r H15 r0 r1 b15 d15 => ?_⟩
      have o15 := oz.cast b15 d15
      obtain ⟨n, hn, en⟩ := at_names (ns := ["m", "n", "o", "p", "q", "r"]) r0 r1
      refine ⟨l2, _, _, _, rfl, rfl, SqL.of (o15.at_ (by simp)), en, _, rfl, .inr ⟨ha, st, n, mv, m, A.Taken, rfl, o15.hall, okN n hn, o15.dat (by simp), om3, .inl ⟨?_, rfl⟩, fun H' s' => q _ (o15.same s') (b15.trans (Bt.of_same s'))⟩⟩
      rw [at11.nG, pns.mem_iff]
      exact hn
    clear one12
    -- a machine and a task of them
    refine ⟨_, rfl, rd_off rfl one13.ds (by decide) (by decide) fun r1 H14 r10 r11 b14 d14 => ?_⟩
    have one14 := one13.cast b14 d14
    obtain ⟨n, hn, en⟩ := at_names (ns := ["m", "n", "o", "p", "q", "r"]) r10 r11
    refine ⟨l2, _, _, _, rfl, rfl, SqL.of (one14.at_ (by simp)), en, ?_⟩
    refine ⟨_, rfl, rd_off rfl one14.ds (by decide) (by decide) fun r2 H15 r20 r21 b15 d15 => ?_⟩
    have one15 := one14.cast b15 d15
    obtain ⟨g, hg, eg⟩ := at_names (ns := ["a", "b", "c", "d"]) r20 r21
    refine ⟨l1, _, _, _, rfl, rfl, SqL.of (one15.at_ (by simp)), eg, ?_⟩
    refine ⟨by show 2 ≤ sizeLine; omega, fun t16 ht16 => ?_⟩
    have s16 := same_put (o := .tup [.str n, .str g]) (Same.refl H15) ht16
    have h16 : upd H15 t16 (.tup [.str n, .str g]) t16 = some (.tup [.str n, .str g]) := upd_same
    generalize upd H15 t16 (.tup [.str n, .str g]) = H16 at s16 h16
    refine ⟨t16, _, rfl, SqT.of h16, rfl, ?_⟩
    refine ⟨_, _, rfl, ?_⟩
    refine ⟨_, _, rfl, ?_⟩
    refine ⟨rfl, ?_⟩
    have one16 := one15.same s16
    have hnn : n ∈ nms := pns.mem_iff.mpr hn
    have hgg : g ∈ gs := pgs.mem_iff.mpr hg
    clear one13 one14 one15 s16 h16 ht16 b14 b15 d14 d15 en eg
    -- the grains
    refine ⟨_, rfl, 8, rfl, RgOk.of_le (by decide) (by decide) (by decide) (by decide), fun q17 hq17 => nil_ ?_⟩
    obtain ⟨eR, mxR⟩ := mixed_rg (K := K) (H := upd H16 q17 (.lst (rgV 0 8))) (n := 8)
    have one17 := one16.same (same_put (o := .lst (rgV 0 8)) (Same.refl _) hq17)
    refine ⟨d, q17, _, rfl, one17.ds, (by rw [eR]; exact SqL.of upd_same), by simp [nRg], mxR, fun q18 ys H18 hq18 b18 d18 h18 pm _ => ?_⟩
    obtain ⟨is, pis, eis⟩ := mixed_ints pm
    rw [eis] at h18
    have one18 := one17.list h18 (one17.cast b18 d18) hq18
    have li8 : is.length = 8 := pis.length_eq
    obtain ⟨i0, i1, i2, i3, i4, i5, i6, i7, rfl⟩ := list8 li8
    have ndi : [i0, i1, i2, i3, i4, i5, i6, i7].Nodup := pis.nodup_iff.mpr (by decide)
    have bdi : ∀ x ∈ [i0, i1, i2, i3, i4, i5, i6, i7], 0 ≤ x ∧ x ≤ 999 := fun x hx => by
      obtain ⟨j, hj, rfl⟩ := List.mem_map.mp (pis.mem_iff.mp hx)
      have := List.mem_range.mp hj
      omega
    clear one17 one16 mxR eR eis b18 d18 h18 hq18 pm pis li8 hq17
    refine xg_name ?_
    walk_at "z"
    -- five runs
    refine ⟨_, rfl, _, rfl, q18, _, rfl, SqL.of (one18.at_ (xs := ([i0, i1, i2, i3, i4, i5, i6, i7] : List Int).map V.int) (by simp)), fun q19 hq19 => ?_⟩
    have e19 : cutV [V.int i0, .int i1, .int i2, .int i3, .int i4, .int i5, .int i6, .int i7] none (some 5) = [i0, i1, i2, i3, i4].map V.int := rfl
    have one18' : One K A.Hall H18 ha st d A.law_tb qnL [(q18, [V.int i0, .int i1, .int i2, .int i3, .int i4, .int i5, .int i6, .int i7]), (q10, nms.map V.str), (q8, gs.map V.str), (l2, [.str "m", .str "n", .str "o", .str "p", .str "q", .str "r"]), (l1, [.str "a", .str "b", .str "c", .str "d"])] [(tv, t.dt), (mv, machDt m)] := one18
    rw [show cutV (([i0, i1, i2, i3, i4, i5, i6, i7] : List Int).map V.int) none (some 5) = [i0, i1, i2, i3, i4].map V.int from rfl]
    have h19 : upd H18 q19 (.lst ([i0, i1, i2, i3, i4].map V.int)) q19 = some (.lst ([i0, i1, i2, i3, i4].map V.int)) := upd_same
    have one19 := one18'.list h19 (one18'.same (same_put (Same.refl _) hq19)) hq19
    clear one18 one18' e19
    generalize upd H18 q19 (.lst ([i0, i1, i2, i3, i4].map V.int)) = H19 at h19 one19
    refine ⟨q19, rfl, ⟨_, SqL.of h19⟩, fun Dn hD => ?_⟩
    have nD := one19.off hD
    have nDL := one19.offL hD
    have at19 : At11 st gs t nms m (rsO n g ([i0, i1, i2, i3, i4].take 0)) (10 + 0) := at11
    have one20 := one19.same (same_put (o := .lst []) (Same.refl _) hD)
    have ni5 : ∀ i x, ([i0, i1, i2, i3, i4] : List Int)[i]? = some x → x ∉ ([i0, i1, i2, i3, i4] : List Int).take i ∧ ([i0, i1, i2, i3, i4] : List Int).take (i + 1) = ([i0, i1, i2, i3, i4] : List Int).take i ++ [x] ∧ x ∈ [i0, i1, i2, i3, i4, i5, i6, i7] ∧ i < 5 := fun i x hx => by
      have nd5 : [i0, i1, i2, i3, i4].Nodup := ndi.sublist (show [i0, i1, i2, i3, i4].Sublist [i0, i1, i2, i3, i4, i5, i6, i7] from List.take_sublist 5 [i0, i1, i2, i3, i4, i5, i6, i7])
      have q : x ∉ ([i0, i1, i2, i3, i4] : List Int).take i ∧ ([i0, i1, i2, i3, i4] : List Int).take (i + 1) = ([i0, i1, i2, i3, i4] : List Int).take i ++ [x] := by
        have e : ([i0, i1, i2, i3, i4] : List Int).take (i + 1) = ([i0, i1, i2, i3, i4] : List Int).take i ++ [x] := by
          rw [List.take_add_one, hx]
          rfl
        have q := nd5.sublist (List.take_sublist (i + 1) _)
        rw [e, List.nodup_append] at q
        exact ⟨fun z => q.2.2 x z x (by simp) rfl, e⟩
      exact ⟨q.1, q.2, List.mem_of_mem_take (i := 5) (List.mem_of_getElem? hx), (List.getElem?_eq_some_iff.mp hx).1⟩
    refine lc_w (walk_list (K := K) (xs := ([i0, i1, i2, i3, i4] : List Int).map V.int)) [some (.ref a), some (.ref l1), none, none, some (.ref d), some (.str g), some (.ref q18), some (.ref ha.h), some mv, some (.str n), some (.ref l2), some tv, none, none] (fun i H' => ∃ st, One K A.Hall H' ha st d A.law_tb qnL ((q19, ([i0, i1, i2, i3, i4] : List Int).map V.int) :: [(q18, [V.int i0, .int i1, .int i2, .int i3, .int i4, .int i5, .int i6, .int i7]), (q10, nms.map V.str), (q8, gs.map V.str), (l2, [.str "m", .str "n", .str "o", .str "p", .str "q", .str "r"]), (l1, [.str "a", .str "b", .str "c", .str "d"])]) [(tv, t.dt), (mv, machDt m)] ∧ At11 st gs t nms m (rsO n g (([i0, i1, i2, i3, i4] : List Int).take i)) (10 + i) ∧ H' Dn = some (.lst ((List.range i).map fun k : Nat => V.int k))) ⟨_, one20, at19, upd_same⟩ (fun i H' _ ⟨_, z, _⟩ => SqL.of (z.at_ (by simp))) ?_ ?_
    · rintro i v H21 H21' hi ⟨st, one21, at21, hD21⟩ ⟨rfl, hx⟩
      obtain ⟨x, hx2, rfl⟩ := int_at hx
      obtain ⟨nx, etk, mx, li⟩ := ni5 i x hx2
      have bx := bdi x mx
      refine ⟨by walk_at "w", ?_⟩
      walk_at "z"
      refine yes_ ?_
      refine iteT ?_
      have five : (scoresL (rsO n g (([i0, i1, i2, i3, i4] : List Int).take i)) n g).length < 5 := by
        rw [rsO_five, List.length_take]
        omega
      have dok := at21.tellOk (s := x) hnn hgg bx.1 bx.2 five (rsO_new nx)
      have ok22 := stok_step one21.ok dok (by rw [at21.D]; omega)
      have at22 := at21.tell (n := n) (g := g) (s := x) (x := 0)
      have er : rsO n g (([i0, i1, i2, i3, i4] : List Int).take i) ++ [⟨n, g, x, 0, true⟩] = rsO n g (([i0, i1, i2, i3, i4] : List Int).take (i + 1)) := by
        rw [etk]
        unfold rsO
        rw [List.map_append]
        rfl
      rw [er] at at22
      have lr : st.runs.length = i := by
        rw [at21.R]
        unfold rsO
        rw [List.length_map, List.length_take]
        show min i 5 = i
        omega
      refine ⟨_, rfl, ha.h, _, _, rfl, one21.hall.core.ob, f_no (by decide +kernel), _, rfl, _, rfl, _, rfl, ha, st, n, g, x, 0, m, t, rfl, one21.hall, one21.ok, by rw [at21.G]; exact getL_all hnn, by rw [at21.T]; exact getL_all hgg, ot4, bx.1, bx.2, by decide, by omega, by rw [at21.R]; exact five, by rw [at21.R]; exact rsO_new nx, fun H22 b22 hall22 => ?_⟩
      have one22 := one21.step b22 hall22 ok22
      have hD22 := b22 _ _ nD.1 hD21
      refine ⟨_, hD22, by rw [List.length_map, List.length_range]; omega, _, one22.put hD22 nD (fun z hz => ?_), at22, ?_⟩
      · rcases List.mem_cons.mp hz with rfl | hz
        · exact nDL _ (by simp)
        · exact nDL z (List.mem_cons_of_mem _ hz)
      · rw [List.range_succ, List.map_append, lr]
        exact upd_same
    rintro H21 ⟨st, one21, at21, hD21⟩
    have hD21 : H21 Dn = some (.lst [.int 0, .int 1, .int 2, .int 3, .int 4]) := hD21
    have at21 : At11 st gs t nms m (rsO n g [i0, i1, i2, i3, i4]) 15 := at21
    have one21 : One K A.Hall H21 ha st d A.law_tb qnL [(q18, ([i0, i1, i2, i3, i4, i5, i6, i7] : List Int).map V.int), (q10, nms.map V.str), (q8, gs.map V.str), (l2, [.str "m", .str "n", .str "o", .str "p", .str "q", .str "r"]), (l1, [.str "a", .str "b", .str "c", .str "d"])] [(tv, t.dt), (mv, machDt m)] := ⟨one21.hall, one21.ok, one21.ds, one21.tab, one21.nd, one21.nt, one21.ntd, fun z hz => one21.ls z (List.mem_cons_of_mem _ hz), one21.dd⟩
    clear one19 one20 nDL at19 at11 ni5 ltk lmc h19 hq19 hD
    refine xg_name ?_
    walk_at "z"
    have gN : ∀ {st : LHall} {rs : List Run} {k : Nat}, At11 st gs t nms m rs k → getL st.machines n = some m := fun h => by rw [h.G]; exact getL_all hnn
    have gT : ∀ {st : LHall} {rs : List Run} {k : Nat}, At11 st gs t nms m rs k → getL st.tasks g = some t := fun h => by rw [h.T]; exact getL_all hgg
    simp only [List.nodup_cons, List.mem_cons, List.not_mem_nil, or_false, not_or, List.nodup_nil, and_true, not_false_eq_true] at ndi
    obtain ⟨⟨n01, n02, n03, n04, n05, n06, n07⟩, ⟨n12, n13, n14, n15, n16, n17⟩, ⟨n23, n24, n25, n26, n27⟩, ⟨n34, n35, n36, n37⟩, ⟨n45, n46, n47⟩, ⟨n56, n57⟩, n67⟩ := ndi
    have m2 : i2 ∉ [i0, i1, i3, i4] := fun h => by
      simp only [List.mem_cons, List.not_mem_nil, or_false] at h
      rcases h with h | h | h | h
      · exact n02 h.symm
      · exact n12 h.symm
      · exact n23 h
      · exact n24 h
    have m5 : i5 ∉ [i0, i1, i2, i3, i4] := fun h => by
      simp only [List.mem_cons, List.not_mem_nil, or_false] at h
      rcases h with h | h | h | h | h
      · exact n05 h.symm
      · exact n15 h.symm
      · exact n25 h.symm
      · exact n35 h.symm
      · exact n45 h.symm
    have m6 : i6 ∉ [i0, i1, i3, i4, i2] := fun h => by
      simp only [List.mem_cons, List.not_mem_nil, or_false] at h
      rcases h with h | h | h | h | h
      · exact n06 h.symm
      · exact n16 h.symm
      · exact n36 h.symm
      · exact n46 h.symm
      · exact n26 h.symm
    clear n01 n02 n03 n04 n05 n06 n07 n12 n13 n14 n15 n16 n17 n23 n24 n25 n26 n27 n34 n35 n36 n37 n45 n46 n47 n56 n57 n67
    refine xif_rr (fun H' => One K A.Hall H' ha st d A.law_tb qnL [(q18, ([i0, i1, i2, i3, i4, i5, i6, i7] : List Int).map V.int), (q10, nms.map V.str), (q8, gs.map V.str), (l2, [.str "m", .str "n", .str "o", .str "p", .str "q", .str "r"]), (l1, [.str "a", .str "b", .str "c", .str "d"])] [(tv, t.dt), (mv, machDt m)]) (fun F hF => ?_) (fun H23 one23 => ?_)
    · refine ⟨_, rfl, by show 5 ≤ sizeLine; omega, fun l22 hl22 => ?_⟩
      have s22 := same_put (o := .lst [.int 0, .int 1, .int 2, .int 3, .int 4]) (Same.refl H21) hl22
      have h22 : upd H21 l22 (.lst [.int 0, .int 1, .int 2, .int 3, .int 4]) l22 = some (.lst [.int 0, .int 1, .int 2, .int 3, .int 4]) := upd_same
      generalize upd H21 l22 (.lst [.int 0, .int 1, .int 2, .int 3, .int 4]) = H22 at s22 h22
      have one22 := one21.same s22
      refine ⟨.list [.int 0, .int 1, .int 2, .int 3, .int 4], .list [.int 0, .int 1, .int 2, .int 3, .int 4], .lst (SqL.of (s22 _ _ hD21)) (.cons (.int _) (.cons (.int _) (.cons (.int _) (.cons (.int _) (.cons (.int _) .nil))))), .lst (SqL.of h22) (.cons (.int _) (.cons (.int _) (.cons (.int _) (.cons (.int _) (.cons (.int _) .nil))))), by decide +kernel, by decide +kernel, _, rfl, ?_⟩
      rw [show PyData.eqv (.list [.int 0, .int 1, .int 2, .int 3, .int 4]) (.list [.int 0, .int 1, .int 2, .int 3, .int 4]) = true by decide +kernel]
      refine iteF ?_
      refine ⟨one22.tab, fun ok1 f1 H13 nf1 b13 t13 il1 => ?_⟩
      have one13 := one22.tabl b13 t13
      refine ⟨by show 1 ≤ sizeLine; omega, fun l14 hl14 => ?_⟩
      have s14 := same_put (o := .lst [.ref f1]) (Same.refl H13) hl14
      have h14 : upd H13 l14 (.lst [.ref f1]) l14 = some (.lst [.ref f1]) := upd_same
      have one14 := one13.list h14 (one13.same s14) hl14
      generalize upd H13 l14 (.lst [.ref f1]) = H14 at s14 one14
      dsimp only [tCons, tNil, tC]
      refine rd_are1 ok1 (il1.same s14) one14 (by decide +kernel) ?_ (fun H15 one15 => ⟨_, rfl, hF _ one15⟩)
      refine ⟨3, A.TooMany, T.x_TooMany, rfl, by decide, fun HZ oz E' Q' q => ?_⟩
      refine ⟨_, rfl, ha.h, _, _, rfl, oz.hall.core.ob, f_no (by decide +kernel), _, rfl, _, rfl, _, rfl, q18, _, _, _, rfl, rfl, SqL.of (oz.at_ (xs := ([i0, i1, i2, i3, i4, i5, i6, i7] : List Int).map V.int) (by simp)), atI_nat (j := 5) rfl, .inr ⟨ha, st, n, g, i5, 0, m, t, A.TooMany, rfl, oz.hall, oz.ok, gN at21, gT at21, ot4, (bdi i5 (by simp)).1, (bdi i5 (by simp)).2, by decide, by omega, .inr ⟨by rw [at21.R]; exact rsO_new m5, by rw [at21.R, rsO_five]; rfl, rfl⟩, fun H' s' => q _ (oz.same s') (Bt.of_same s')⟩⟩
    clear one21 hD21 nD
    refine xif_rr (fun H' => One K A.Hall H' ha st d A.law_tb qnL [(q18, ([i0, i1, i2, i3, i4, i5, i6, i7] : List Int).map V.int), (q10, nms.map V.str), (q8, gs.map V.str), (l2, [.str "m", .str "n", .str "o", .str "p", .str "q", .str "r"]), (l1, [.str "a", .str "b", .str "c", .str "d"])] [(tv, t.dt), (mv, machDt m)]) (fun F hF => ?_) (fun H24 one24 => ?_)
    · refine ⟨one23.tab, fun ok1 f1 H13 nf1 b13 t13 il1 => ?_⟩
      have one13 := one23.tabl b13 t13
      refine ⟨by show 1 ≤ sizeLine; omega, fun l14 hl14 => ?_⟩
      have s14 := same_put (o := .lst [.ref f1]) (Same.refl H13) hl14
      have h14 : upd H13 l14 (.lst [.ref f1]) l14 = some (.lst [.ref f1]) := upd_same
      have one14 := one13.list h14 (one13.same s14) hl14
      generalize upd H13 l14 (.lst [.ref f1]) = H14 at s14 one14
      dsimp only [tCons, tNil, tC]
      refine rd_are1 ok1 (il1.same s14) one14 (by decide +kernel) ?_ (fun H15 one15 => ⟨_, rfl, hF _ one15⟩)
      refine ⟨4, A.Taken, T.x_Taken, rfl, by decide, fun HZ oz E' Q' q => ?_⟩
      refine ⟨_, rfl, ha.h, _, _, rfl, oz.hall.core.ob, f_no (by decide +kernel), _, rfl, _, rfl, _, rfl, q18, _, _, _, rfl, rfl, SqL.of (oz.at_ (xs := ([i0, i1, i2, i3, i4, i5, i6, i7] : List Int).map V.int) (by simp)), atI_nat (j := 0) rfl, .inr ⟨ha, _, n, g, i0, 0, m, t, A.Taken, rfl, oz.hall, oz.ok, gN at21, gT at21, ot4, (bdi i0 (by simp)).1, (bdi i0 (by simp)).2, by decide, by omega, .inl ⟨⟨⟨n, g, i0, 0, true⟩, by rw [at21.R]; simp [rsO], by simp [Run.isOf], rfl⟩, rfl⟩, fun H' s' => q _ (oz.same s') (Bt.of_same s')⟩⟩
    clear one23
    -- one is struck
    have r2 : st.runs[2]? = some ⟨n, g, i2, 0, true⟩ := by rw [at21.R]; rfl
    have dok25 : DeedOkF st (.strike 2) := ⟨_, r2, rfl⟩
    have ok25 := stok_stepF one24.ok dok25 (by rw [at21.D]; omega)
    have at25 := at21.strike (i := 2)
    refine ⟨_, rfl, ha.h, _, _, rfl, one24.hall.core.ob, f_no (by decide +kernel), ha, st, 2, _, rfl, one24.hall, one24.ok, ok25, r2, rfl, fun p H25 us hp b25 hall25 h25 d25 => ?_⟩
    have one25 := one24.step b25 hall25 ok25
    clear one24 h25 d25 hp b25 hall25 at21 r2 dok25 ok25
    generalize stepS st (.strike 2) = st at at25 one25
    have eR : (rsO n g [i0, i1, i2, i3, i4]).modify 2 off = [⟨n, g, i0, 0, true⟩, ⟨n, g, i1, 0, true⟩, ⟨n, g, i2, 0, false⟩, ⟨n, g, i3, 0, true⟩, ⟨n, g, i4, 0, true⟩] := rfl
    rw [eR] at at25
    have lr25 : st.runs.length = 5 := by rw [at25.R]; rfl
    have five25 : (scoresL [⟨n, g, i0, 0, true⟩, ⟨n, g, i1, 0, true⟩, ⟨n, g, i2, 0, false⟩, ⟨n, g, i3, 0, true⟩, ⟨n, g, i4, 0, true⟩] n g).length = 4 := by simp [scoresL, Run.isOf]
    have new25 : ∀ {s : Int} {r : Run}, s ∉ [i0, i1, i3, i4] → r ∈ ([⟨n, g, i0, 0, true⟩, ⟨n, g, i1, 0, true⟩, ⟨n, g, i2, 0, false⟩, ⟨n, g, i3, 0, true⟩, ⟨n, g, i4, 0, true⟩] : List Run) → r.isOf n g = true → r.seed ≠ s := fun {s r} hs hr ho e => by
      simp only [List.mem_cons, List.not_mem_nil, or_false] at hr
      rcases hr with rfl | rfl | rfl | rfl | rfl
      · exact hs (by rw [← e]; simp)
      · exact hs (by rw [← e]; simp)
      · simp [Run.isOf] at ho
      · exact hs (by rw [← e]; simp)
      · exact hs (by rw [← e]; simp)
    -- and told anew
    have dok26 := at25.tellOk (s := i2) hnn hgg (bdi i2 (by simp)).1 (bdi i2 (by simp)).2 (by rw [five25]; omega) fun r hr => new25 m2 hr
    have ok26 := stok_step one25.ok dok26 (by rw [at25.D]; omega)
    have at26 := at25.tell (n := n) (g := g) (s := i2) (x := 0)
    dsimp only
    refine xif_rr (fun H' => One K A.Hall H' ha (stepS st (.tell n g i2 0)) d A.law_tb qnL [(q18, ([i0, i1, i2, i3, i4, i5, i6, i7] : List Int).map V.int), (q10, nms.map V.str), (q8, gs.map V.str), (l2, [.str "m", .str "n", .str "o", .str "p", .str "q", .str "r"]), (l1, [.str "a", .str "b", .str "c", .str "d"])] [(tv, t.dt), (mv, machDt m)]) (fun F hF => ?_) (fun H26 one26 => ?_)
    · refine ⟨_, rfl, ha.h, _, _, rfl, one25.hall.core.ob, f_no (by decide +kernel), _, rfl, _, rfl, _, rfl, q18, _, _, _, rfl, rfl, SqL.of (one25.at_ (xs := ([i0, i1, i2, i3, i4, i5, i6, i7] : List Int).map V.int) (by simp)), atI_nat (j := 2) rfl, ha, st, n, g, i2, 0, m, t, rfl, one25.hall, one25.ok, gN at25, gT at25, ot4, (bdi i2 (by simp)).1, (bdi i2 (by simp)).2, by decide, by omega, by rw [at25.R, five25]; omega, by rw [at25.R]; exact fun r hr => new25 m2 hr, fun H26 b26 hall26 => ?_⟩
      have one26 := one25.step b26 hall26 ok26
      rw [lr25]
      have fin : ∀ b : Bool, b = false → F b H26 := fun b e => by
        rw [e]
        exact hF _ one26
      exact ⟨rfl, _, rfl, fin _ (by simp)⟩
    clear one25 at25 lr25
    generalize stepS st (.tell n g i2 0) = st at at26 one26
    have five26 : (scoresL ([⟨n, g, i0, 0, true⟩, ⟨n, g, i1, 0, true⟩, ⟨n, g, i2, 0, false⟩, ⟨n, g, i3, 0, true⟩, ⟨n, g, i4, 0, true⟩] ++ [⟨n, g, i2, 0, true⟩]) n g).length = 5 := by simp [scoresL, Run.isOf]
    have new26 : ∀ r ∈ ([⟨n, g, i0, 0, true⟩, ⟨n, g, i1, 0, true⟩, ⟨n, g, i2, 0, false⟩, ⟨n, g, i3, 0, true⟩, ⟨n, g, i4, 0, true⟩] ++ [⟨n, g, i2, 0, true⟩] : List Run), r.isOf n g = true → r.seed ≠ i6 := fun r hr ho e => by
      simp only [List.mem_append, List.mem_cons, List.not_mem_nil, or_false] at hr
      rcases hr with (rfl | rfl | rfl | rfl | rfl) | rfl <;> exact m6 (by rw [← e]; simp)
    refine xif_rr (fun H' => One K A.Hall H' ha st d A.law_tb qnL [(q18, ([i0, i1, i2, i3, i4, i5, i6, i7] : List Int).map V.int), (q10, nms.map V.str), (q8, gs.map V.str), (l2, [.str "m", .str "n", .str "o", .str "p", .str "q", .str "r"]), (l1, [.str "a", .str "b", .str "c", .str "d"])] [(tv, t.dt), (mv, machDt m)]) (fun F hF => ?_) (fun H27 one27 => ?_)
    · refine ⟨one26.tab, fun ok1 f1 H13 nf1 b13 t13 il1 => ?_⟩
      have one13 := one26.tabl b13 t13
      refine ⟨by show 1 ≤ sizeLine; omega, fun l14 hl14 => ?_⟩
      have s14 := same_put (o := .lst [.ref f1]) (Same.refl H13) hl14
      have h14 : upd H13 l14 (.lst [.ref f1]) l14 = some (.lst [.ref f1]) := upd_same
      have one14 := one13.list h14 (one13.same s14) hl14
      generalize upd H13 l14 (.lst [.ref f1]) = H14 at s14 one14
      dsimp only [tCons, tNil, tC]
      refine rd_are1 ok1 (il1.same s14) one14 (by decide +kernel) ?_ (fun H15 one15 => ⟨_, rfl, hF _ one15⟩)
      refine ⟨3, A.TooMany, T.x_TooMany, rfl, by decide, fun HZ oz E' Q' q => ?_⟩
      refine ⟨_, rfl, ha.h, _, _, rfl, oz.hall.core.ob, f_no (by decide +kernel), _, rfl, _, rfl, _, rfl, q18, _, _, _, rfl, rfl, SqL.of (oz.at_ (xs := ([i0, i1, i2, i3, i4, i5, i6, i7] : List Int).map V.int) (by simp)), atI_nat (j := 6) rfl, .inr ⟨ha, _, n, g, i6, 0, m, t, A.TooMany, rfl, oz.hall, oz.ok, gN at26, gT at26, ot4, (bdi i6 (by simp)).1, (bdi i6 (by simp)).2, by decide, by omega, .inr ⟨by rw [at26.R]; exact new26, by rw [at26.R]; exact five26, rfl⟩, fun H' s' => q _ (oz.same s') (Bt.of_same s')⟩⟩
    clear one26
    have lr26 : st.runs.length = 6 := by rw [at26.R]; rfl
    -- another task
    refine ⟨_, rfl, l1, rfl, ⟨_, SqL.of (one27.at_ (xs := (["a", "b", "c", "d"] : List Str).map V.str) (by simp))⟩, fun D hD => ?_⟩
    have nD := one27.off hD
    have nDL := one27.offL hD
    have one28 := one27.same (same_put (o := .lst []) (Same.refl _) hD)
    refine lc_w (walk_list (K := K) (xs := (["a", "b", "c", "d"] : List Str).map V.str)) [some (.ref a), some (.ref l1), some (.ref Dn), none, some (.ref d), some (.str g), some (.ref q18), some (.ref ha.h), some mv, some (.str n), some (.ref l2), some tv, none, none] (fun i H' => One K A.Hall H' ha st d A.law_tb qnL [(q18, ([i0, i1, i2, i3, i4, i5, i6, i7] : List Int).map V.int), (q10, nms.map V.str), (q8, gs.map V.str), (l2, [.str "m", .str "n", .str "o", .str "p", .str "q", .str "r"]), (l1, [.str "a", .str "b", .str "c", .str "d"])] [(tv, t.dt), (mv, machDt m)] ∧ H' D = some (.lst ((((["a", "b", "c", "d"] : List Str).take i).filter fun x => !decide (x = g)).map V.str))) ⟨one28, upd_same⟩ (fun i H' _ z => SqL.of (z.1.at_ (xs := (["a", "b", "c", "d"] : List Str).map V.str) (by simp))) ?_ ?_
    · rintro i v H29 H29' hi ⟨one29, hD29⟩ ⟨rfl, hx⟩
      obtain ⟨x, hx2, rfl⟩ := str_at hx
      refine ⟨by walk_at "w", ?_⟩
      walk_at "z"
      have etk : (["a", "b", "c", "d"] : List Str).take (i + 1) = (["a", "b", "c", "d"] : List Str).take i ++ [x] := by
        rw [List.take_add_one, hx2]
        rfl
      rw [etk, List.filter_append]
      refine ⟨_, rfl, _, rfl, rfl, _, rfl, ?_⟩
      by_cases c : x = g
      · have e : (!decide (V.str x = V.str g)) = false := by simp [c]
        rw [e]
        refine iteF ?_
        rw [List.filter_cons_of_neg (by simp [c]), List.filter_nil, List.append_nil]
        exact ⟨one29, hD29⟩
      · have e : (!decide (V.str x = V.str g)) = true := by simp [c]
        rw [e]
        refine iteT ?_
        rw [List.filter_cons_of_pos (by simp [c]), List.filter_nil, List.map_append]
        have ll : ((((["a", "b", "c", "d"] : List Str).take i).filter fun x => !decide (x = g)).map V.str).length ≤ i := by
          rw [List.length_map]
          exact Nat.le_trans (List.length_filter_le _ _) (List.length_take_le _ _)
        have i4 : i < 4 := hi
        exact ⟨_, rfl, _, hD29, by omega, one29.put hD29 nD nDL, upd_same⟩
    rintro H29 ⟨one29, hD29⟩
    have hD29 : H29 D = some (.lst (((["a", "b", "c", "d"] : List Str).filter fun x => !decide (x = g)).map V.str)) := hD29
    refine rd_off rfl one29.ds (by decide) (by decide) fun r3 H30 r30 r31 b30 d30 => ?_
    have hD30 := b30 _ _ (by simpa using nD.2.1) hD29
    have one30 := one29.cast b30 d30
    obtain ⟨o, ho, eo⟩ := at_names (ns := (["a", "b", "c", "d"] : List Str).filter fun x => !decide (x = g)) r30 (by rw [three g hg]; exact r31)
    obtain ⟨ho1, ho2⟩ := List.mem_filter.mp ho
    have ho2 : o ≠ g := by simpa using ho2
    have hog : o ∈ gs := pgs.mem_iff.mpr ho1
    obtain ⟨pp, hp1, hp2, hp3⟩ := third g hg o ho1
    have hpg : pp ∈ gs := pgs.mem_iff.mpr hp1
    refine ⟨D, _, _, _, rfl, rfl, SqL.of hD30, eo, ?_⟩
    refine xg_name ?_
    walk_at "z"
    clear one27 one28 one29 hD29 hD30 nD nDL hD b30 d30
    -- told in it
    have allg : ∀ r ∈ ([⟨n, g, i0, 0, true⟩, ⟨n, g, i1, 0, true⟩, ⟨n, g, i2, 0, false⟩, ⟨n, g, i3, 0, true⟩, ⟨n, g, i4, 0, true⟩] ++ [⟨n, g, i2, 0, true⟩] : List Run), r.goal = g := fun r hr => by
      simp only [List.mem_append, List.mem_cons, List.not_mem_nil, or_false] at hr
      rcases hr with (rfl | rfl | rfl | rfl | rfl) | rfl <;> rfl
    generalize ([⟨n, g, i0, 0, true⟩, ⟨n, g, i1, 0, true⟩, ⟨n, g, i2, 0, false⟩, ⟨n, g, i3, 0, true⟩, ⟨n, g, i4, 0, true⟩] ++ [⟨n, g, i2, 0, true⟩] : List Run) = rs at at26 allg five26 new26
    have no30 : ∀ r ∈ rs, r.goal ≠ o := fun r hr e => ho2 (e.symm.trans (allg r hr))
    have five30 : (scoresL rs n o).length < 5 := by rw [no_scores no30]; omega
    have new30 : ∀ r ∈ rs, r.isOf n o = true → r.seed ≠ i5 := fun r hr q => absurd (isOf_goal q) (no30 r hr)
    have dok31 := at26.tellOk (s := i5) hnn hog (bdi i5 (by simp)).1 (bdi i5 (by simp)).2 five30 new30
    have ok31 := stok_step one30.ok dok31 (by rw [at26.D]; omega)
    have at31 := at26.tell (n := n) (g := o) (s := i5) (x := 0)
    refine ⟨_, rfl, ha.h, _, _, rfl, one30.hall.core.ob, f_no (by decide +kernel), _, rfl, _, rfl, _, rfl, q18, _, _, _, rfl, rfl, SqL.of (one30.at_ (xs := ([i0, i1, i2, i3, i4, i5, i6, i7] : List Int).map V.int) (by simp)), atI_nat (j := 5) rfl, ha, st, n, o, i5, 0, m, t, rfl, one30.hall, one30.ok, gN at26, by rw [at26.T]; exact getL_all hog, ot4, (bdi i5 (by simp)).1, (bdi i5 (by simp)).2, by decide, by omega, by rw [at26.R]; exact five30, by rw [at26.R]; exact new30, fun H31 b31 hall31 => ?_⟩
    have one31 := one30.step b31 hall31 ok31
    rw [lr26]
    clear one30 at26 lr26 b31 hall31 dok31 five26 new26
    generalize stepS st (.tell n o i5 0) = st at at31 one31 ok31
    refine ⟨rfl, _, rfl, ?_⟩
    rw [if_pos (by simp)]
    -- the task anew
    have un31 : rankedL st = [] := unr_nil fun x _ => unr_goal (g := pp) (by rw [at31.nT]; exact hpg) (fun r hr e => by
      rw [at31.R] at hr
      rcases List.mem_append.mp hr with hr | hr
      · exact hp2 (e.symm.trans (allg r hr))
      · have e2 : r = ⟨n, o, i5, 0, true⟩ := by simpa using hr
        rw [e2] at e
        exact hp3 e.symm) x
    have mT : g ∈ namesT st := by rw [at31.nT]; exact hgg
    have ok32 := stok_step (d := .task g t) one31.ok ⟨okg g hgg, ot4, .inl mT⟩ (by rw [at31.D]; omega)
    have nT32 : namesT (stepS st (.task g t)) = namesT st := by
      show (putL st.tasks g t).map (·.1) = _
      rw [putL_namesN, if_pos (show g ∈ st.tasks.map (·.1) from mT)]
      rfl
    have un32 : rankedL (stepS st (.task g t)) = [] := unr_nil fun x _ => unr_goal (g := pp) (by rw [nT32, at31.nT]; exact hpg) (fun r hr e => by
      obtain ⟨r0, hr0, rfl⟩ := List.mem_map.mp (show r ∈ st.runs.map _ from hr)
      rw [(mendR_who _ _ _).2.1] at e
      rw [at31.R] at hr0
      rcases List.mem_append.mp hr0 with hr | hr
      · exact hp2 (e.symm.trans (allg r0 hr))
      · have e2 : r0 = ⟨n, o, i5, 0, true⟩ := by simpa using hr
        rw [e2] at e
        exact hp3 e.symm) x
    have ec : chgS st (stepS st (.task g t)) = [] := chg_nil un31 un32
    refine ⟨_, rfl, ha.h, _, _, rfl, one31.hall.core.ob, f_no (by decide +kernel), _, rfl, _, rfl, ha, st, g, tv, t, rfl, one31.hall, one31.ok, ok32, okg g hgg, one31.dat (by simp), ot4, .inl mT, fun p H32 us hp b32 hall32 h32 d32 => ?_⟩
    rw [ec] at d32
    have one32 := one31.step b32 hall32 ok32
    refine ⟨Nat.zero_le _, fun e33 he33 => ?_⟩
    have s33 := same_put (o := .lst []) (Same.refl H32) he33
    refine ⟨.list [], .list [], .lst (SqL.of (s33 _ _ h32)) (dps_same s33 _ _ d32), .lst (SqL.of upd_same) .nil, rfl, rfl, ?_⟩
    refine ⟨_, rfl, ?_⟩
    rw [if_pos (by decide +kernel)]
    have one33 := one32.same s33
    generalize upd H32 e33 (.lst []) = H33 at one33
    clear one31 one32 s33 h32 d32 he33
    obtain ⟨kT, hT33⟩ := one33.hall.T
    obtain ⟨kR, hR33⟩ := one33.hall.R
    refine ⟨_, rfl, ha.h, _, _, rfl, one33.hall.core.ob, f_no (by decide +kernel), ha, _, kT, kR, rfl, one33.hall.core, hT33, hR33, one33.ok, fun p34 H34 us34 hp34 s34 h34 pr34 => ?_⟩
    rw [(ranks_nil un32).2] at pr34
    cases pr34
    refine ⟨Nat.zero_le _, fun e35 he35 => ?_⟩
    have s35 := same_put (o := .lst []) (Same.refl H34) he35
    refine ⟨.list [], .list [], .lst (SqL.of (s35 _ _ h34)) .nil, .lst (SqL.of upd_same) .nil, rfl, rfl, ?_⟩
    exact k _
end
end Mh
namespace Mh
open PySem L2
theorem all_mk {l : PySem.W.OpenLaw} {w : World} {K : PySem.W.Frag} {h : Heap} {mg : Str → Option Value} {fa : Addr} (X : K.In h) (G : h.Ns mainGlobals mg) (hfa : mg "law" = some (.ref fa))
    {f0 f1 f2 f3 f4 f5 f6 f7 f8 f9 f10 f11 f12 f13 f14 f15 f16 f17 f18 f19 f20 f21 f22 f23 f24 f25 f26 f27 f28 f29 f30 f31 f32 f33 f34 f35 f36 f37 f38 f39 f40 f41 f42 f43 f44 f45 f46 f47 f48 f49 f50 f51 f52 f53 f54 : Addr}
    {od0 an0 od1 an1 od2 an2 od3 an3 od4 an4 od5 an5 od6 an6 od7 an7 od8 an8 od9 an9 od10 an10 od11 an11 od12 an12 od13 an13 od14 an14 od15 an15 od16 an16 od17 an17 od18 an18 od19 an19 od20 an20 od21 an21 od22 an22 od23 an23 od24 an24 od25 an25 od26 an26 od27 an27 od28 an28 od29 an29 od30 an30 od31 an31 od32 an32 od33 an33 od34 an34 od35 an35 od36 an36 od37 an37 od38 an38 od39 an39 od40 an40 od41 an41 od42 an42 od43 an43 od44 an44 od45 an45 od46 an46 od47 an47 od48 an48 od49 an49 od50 an50 od51 an51 od52 an52 od53 an53 od54 an54 : Option Addr}
    {sl0 sl1 sl2 sl3 sl4 sl5 sl6 sl7 sl8 sl9 sl10 sl11 sl12 sl13 sl14 sl15 sl16 sl17 sl18 sl19 sl20 sl21 sl22 sl23 sl24 sl25 sl26 sl27 sl28 sl29 sl30 sl31 sl32 sl33 sl34 sl35 sl36 sl37 sl38 sl39 sl40 sl41 sl42 sl43 sl44 sl45 sl46 sl47 sl48 sl49 sl50 sl51 sl52 sl53 sl54 : Array (Option Value)}
    {oc0 dc0 pm0 cd0 ct0 kV0 oc1 dc1 pm1 cd1 ct1 kV1 oc2 dc2 pm2 cd2 ct2 kV2 oc3 dc3 pm3 cd3 ct3 kV3 oc4 dc4 pm4 cd4 ct4 kV4 oc5 dc5 pm5 cd5 ct5 kV5 oc6 dc6 pm6 cd6 ct6 kV6 oc7 dc7 pm7 cd7 ct7 kV7 oc8 dc8 pm8 cd8 ct8 kV8 oc9 dc9 pm9 cd9 ct9 kV9 oc10 dc10 pm10 cd10 ct10 kV10 oc11 dc11 pm11 cd11 ct11 kV11 oc12 dc12 pm12 cd12 ct12 kV12 oc13 dc13 pm13 cd13 ct13 kV13 oc14 dc14 pm14 cd14 ct14 kV14 oc15 dc15 pm15 cd15 ct15 kV15 oc16 dc16 pm16 cd16 ct16 kV16 oc17 dc17 pm17 cd17 ct17 kV17 oc18 dc18 pm18 cd18 ct18 kV18 oc19 dc19 pm19 cd19 ct19 kV19 oc20 dc20 pm20 cd20 ct20 kV20 oc21 dc21 pm21 cd21 ct21 kV21 oc22 dc22 pm22 cd22 ct22 kV22 oc23 dc23 pm23 cd23 ct23 kV23 oc24 dc24 pm24 cd24 ct24 kV24 oc25 dc25 pm25 cd25 ct25 kV25 oc26 dc26 pm26 cd26 ct26 kV26 oc27 dc27 pm27 cd27 ct27 kV27 oc28 dc28 pm28 cd28 ct28 kV28 oc29 dc29 pm29 cd29 ct29 kV29 oc30 dc30 pm30 cd30 ct30 kV30 oc31 dc31 pm31 cd31 ct31 kV31 oc32 dc32 pm32 cd32 ct32 kV32 oc33 dc33 pm33 cd33 ct33 kV33 oc34 dc34 pm34 cd34 ct34 kV34 oc35 dc35 pm35 cd35 ct35 kV35 oc36 dc36 pm36 cd36 ct36 kV36 oc37 dc37 pm37 cd37 ct37 kV37 oc38 dc38 pm38 cd38 ct38 kV38 oc39 dc39 pm39 cd39 ct39 kV39 oc40 dc40 pm40 cd40 ct40 kV40 oc41 dc41 pm41 cd41 ct41 kV41 oc42 dc42 pm42 cd42 ct42 kV42 oc43 dc43 pm43 cd43 ct43 kV43 oc44 dc44 pm44 cd44 ct44 kV44 oc45 dc45 pm45 cd45 ct45 kV45 oc46 dc46 pm46 cd46 ct46 kV46 oc47 dc47 pm47 cd47 ct47 kV47 oc48 dc48 pm48 cd48 ct48 kV48 oc49 dc49 pm49 cd49 ct49 kV49 oc50 dc50 pm50 cd50 ct50 kV50 oc51 dc51 pm51 cd51 ct51 kV51 oc52 dc52 pm52 cd52 ct52 kV52 oc53 dc53 pm53 cd53 ct53 kV53 oc54 dc54 pm54 cd54 ct54 kV54 : Value}
    {fC : Addr} (aC : PySem.W.nsIn K mainGlobals "Hall" = some (some (.ref fC)))
    (pgC : PySem.W.plainGet K fC Str.empty = true) (hdC : PySem.W.hasDictIn K fC = true) (poC : PySem.W.plainOver K fC = true) (saC : PySem.W.findIn K (.ref fC) "__setattr__" = some (some (.builtin "object.__setattr__"))) (mkC : PySem.W.makesIn K fC = true) (kcC : PySem.W.keepIn K (.ref fC) = true)
    (nf_tasks : PySem.W.findIn K (.ref fC) "tasks" = some none)
    (nf_machines : PySem.W.findIn K (.ref fC) "machines" = some none)
    (nf_runs : PySem.W.findIn K (.ref fC) "runs" = some none)
    (nf_next_run : PySem.W.findIn K (.ref fC) "next_run" = some none)
    (nf_pages : PySem.W.findIn K (.ref fC) "pages" = some none)
    (nf_done : PySem.W.findIn K (.ref fC) "done" = some none)
    (nf_dealing : PySem.W.findIn K (.ref fC) "dealing" = some none)
    (a0 : PySem.W.nsIn K mainGlobals "is_number" = some (some (.ref f0)))
     (l0 : K.lookup f0 = some ⟨oc0, od0, .func (PySem.W.fnOf "is_number" "is_number" (defArgs s_is_number) (defBody s_is_number) (defScope s_is_number) .none kV0 dc0 pm0 an0 cd0 ct0), sl0⟩) (c0 : PySem.W.codeIn K cd0 "is_number" = true) (k0 : PySem.W.keepIn K (.ref f0) = true)
    (a1 : PySem.W.nsIn K mainGlobals "is_question" = some (some (.ref f1)))
     (l1 : K.lookup f1 = some ⟨oc1, od1, .func (PySem.W.fnOf "is_question" "is_question" (defArgs s_is_question) (defBody s_is_question) (defScope s_is_question) .none kV1 dc1 pm1 an1 cd1 ct1), sl1⟩) (c1 : PySem.W.codeIn K cd1 "is_question" = true) (k1 : PySem.W.keepIn K (.ref f1) = true)
    (a2 : PySem.W.nsIn K mainGlobals "is_seed" = some (some (.ref f2)))
     (l2 : K.lookup f2 = some ⟨oc2, od2, .func (PySem.W.fnOf "is_seed" "is_seed" (defArgs s_is_seed) (defBody s_is_seed) (defScope s_is_seed) .none kV2 dc2 pm2 an2 cd2 ct2), sl2⟩) (c2 : PySem.W.codeIn K cd2 "is_seed" = true) (k2 : PySem.W.keepIn K (.ref f2) = true)
    (a3 : PySem.W.nsIn K mainGlobals "is_divisor" = some (some (.ref f3)))
     (l3 : K.lookup f3 = some ⟨oc3, od3, .func (PySem.W.fnOf "is_divisor" "is_divisor" (defArgs s_is_divisor) (defBody s_is_divisor) (defScope s_is_divisor) .none kV3 dc3 pm3 an3 cd3 ct3), sl3⟩) (c3 : PySem.W.codeIn K cd3 "is_divisor" = true) (k3 : PySem.W.keepIn K (.ref f3) = true)
    (a4 : PySem.W.nsIn K mainGlobals "is_known" = some (some (.ref f4)))
     (l4 : K.lookup f4 = some ⟨oc4, od4, .func (PySem.W.fnOf "is_known" "is_known" (defArgs s_is_known) (defBody s_is_known) (defScope s_is_known) .none kV4 dc4 pm4 an4 cd4 ct4), sl4⟩) (c4 : PySem.W.codeIn K cd4 "is_known" = true) (k4 : PySem.W.keepIn K (.ref f4) = true)
    (a5 : PySem.W.nsIn K mainGlobals "is_test" = some (some (.ref f5)))
     (l5 : K.lookup f5 = some ⟨oc5, od5, .func (PySem.W.fnOf "is_test" "is_test" (defArgs s_is_test) (defBody s_is_test) (defScope s_is_test) .none kV5 dc5 pm5 an5 cd5 ct5), sl5⟩) (c5 : PySem.W.codeIn K cd5 "is_test" = true) (k5 : PySem.W.keepIn K (.ref f5) = true)
    (a6 : PySem.W.nsIn K mainGlobals "is_answer" = some (some (.ref f6)))
     (l6 : K.lookup f6 = some ⟨oc6, od6, .func (PySem.W.fnOf "is_answer" "is_answer" (defArgs s_is_answer) (defBody s_is_answer) (defScope s_is_answer) .none kV6 dc6 pm6 an6 cd6 ct6), sl6⟩) (c6 : PySem.W.codeIn K cd6 "is_answer" = true) (k6 : PySem.W.keepIn K (.ref f6) = true)
    (a7 : PySem.W.nsIn K mainGlobals "is_row" = some (some (.ref f7)))
     (l7 : K.lookup f7 = some ⟨oc7, od7, .func (PySem.W.fnOf "is_row" "is_row" (defArgs s_is_row) (defBody s_is_row) (defScope s_is_row) .none kV7 dc7 pm7 an7 cd7 ct7), sl7⟩) (c7 : PySem.W.codeIn K cd7 "is_row" = true) (k7 : PySem.W.keepIn K (.ref f7) = true)
    (a8 : PySem.W.nsIn K mainGlobals "check_machine" = some (some (.ref f8)))
     (l8 : K.lookup f8 = some ⟨oc8, od8, .func (PySem.W.fnOf "check_machine" "check_machine" (defArgs s_check_machine) (defBody s_check_machine) (defScope s_check_machine) .none kV8 dc8 pm8 an8 cd8 ct8), sl8⟩) (c8 : PySem.W.codeIn K cd8 "check_machine" = true) (k8 : PySem.W.keepIn K (.ref f8) = true)
    (a9 : PySem.W.nsIn K mainGlobals "check_seed" = some (some (.ref f9)))
     (l9 : K.lookup f9 = some ⟨oc9, od9, .func (PySem.W.fnOf "check_seed" "check_seed" (defArgs s_check_seed) (defBody s_check_seed) (defScope s_check_seed) .none kV9 dc9 pm9 an9 cd9 ct9), sl9⟩) (c9 : PySem.W.codeIn K cd9 "check_seed" = true) (k9 : PySem.W.keepIn K (.ref f9) = true)
    (a10 : PySem.W.nsIn K mainGlobals "does_hold" = some (some (.ref f10)))
     (l10 : K.lookup f10 = some ⟨oc10, od10, .func (PySem.W.fnOf "does_hold" "does_hold" (defArgs s_does_hold) (defBody s_does_hold) (defScope s_does_hold) .none kV10 dc10 pm10 an10 cd10 ct10), sl10⟩) (c10 : PySem.W.codeIn K cd10 "does_hold" = true) (k10 : PySem.W.keepIn K (.ref f10) = true)
    (a11 : PySem.W.nsIn K mainGlobals "outcome" = some (some (.ref f11)))
     (l11 : K.lookup f11 = some ⟨oc11, od11, .func (PySem.W.fnOf "outcome" "outcome" (defArgs s_outcome) (defBody s_outcome) (defScope s_outcome) .none kV11 dc11 pm11 an11 cd11 ct11), sl11⟩) (c11 : PySem.W.codeIn K cd11 "outcome" = true) (k11 : PySem.W.keepIn K (.ref f11) = true)
    (a12 : PySem.W.nsIn K mainGlobals "run" = some (some (.ref f12)))
     (l12 : K.lookup f12 = some ⟨oc12, od12, .func (PySem.W.fnOf "run" "run" (defArgs s_run) (defBody s_run) (defScope s_run) .none kV12 dc12 pm12 an12 cd12 ct12), sl12⟩) (c12 : PySem.W.codeIn K cd12 "run" = true) (k12 : PySem.W.keepIn K (.ref f12) = true)
    (a13 : PySem.W.nsIn K mainGlobals "smallest" = some (some (.ref f13)))
     (l13 : K.lookup f13 = some ⟨oc13, od13, .func (PySem.W.fnOf "smallest" "smallest" (defArgs s_smallest) (defBody s_smallest) (defScope s_smallest) .none kV13 dc13 pm13 an13 cd13 ct13), sl13⟩) (c13 : PySem.W.codeIn K cd13 "smallest" = true) (k13 : PySem.W.keepIn K (.ref f13) = true)
    (a14 : PySem.W.nsIn K mainGlobals "is_ranked" = some (some (.ref f14)))
     (l14 : K.lookup f14 = some ⟨oc14, od14, .func (PySem.W.fnOf "is_ranked" "is_ranked" (defArgs s_is_ranked) (defBody s_is_ranked) (defScope s_is_ranked) .none kV14 dc14 pm14 an14 cd14 ct14), sl14⟩) (c14 : PySem.W.codeIn K cd14 "is_ranked" = true) (k14 : PySem.W.keepIn K (.ref f14) = true)
    (a15 : PySem.W.nsIn K mainGlobals "weighted" = some (some (.ref f15)))
     (l15 : K.lookup f15 = some ⟨oc15, od15, .func (PySem.W.fnOf "weighted" "weighted" (defArgs s_weighted) (defBody s_weighted) (defScope s_weighted) .none kV15 dc15 pm15 an15 cd15 ct15), sl15⟩) (c15 : PySem.W.codeIn K cd15 "weighted" = true) (k15 : PySem.W.keepIn K (.ref f15) = true)
    (a16 : PySem.W.nsIn K mainGlobals "mean_of" = some (some (.ref f16)))
     (l16 : K.lookup f16 = some ⟨oc16, od16, .func (PySem.W.fnOf "mean_of" "mean_of" (defArgs s_mean_of) (defBody s_mean_of) (defScope s_mean_of) .none kV16 dc16 pm16 an16 cd16 ct16), sl16⟩) (c16 : PySem.W.codeIn K cd16 "mean_of" = true) (k16 : PySem.W.keepIn K (.ref f16) = true)
    (a17 : PySem.W.nsIn K mainGlobals "ranks_by" = some (some (.ref f17)))
     (l17 : K.lookup f17 = some ⟨oc17, od17, .func (PySem.W.fnOf "ranks_by" "ranks_by" (defArgs s_ranks_by) (defBody s_ranks_by) (defScope s_ranks_by) .none kV17 dc17 pm17 an17 cd17 ct17), sl17⟩) (c17 : PySem.W.codeIn K cd17 "ranks_by" = true) (k17 : PySem.W.keepIn K (.ref f17) = true)
    (a18 : PySem.W.nsIn K mainGlobals "changes" = some (some (.ref f18)))
     (l18 : K.lookup f18 = some ⟨oc18, od18, .func (PySem.W.fnOf "changes" "changes" (defArgs s_changes) (defBody s_changes) (defScope s_changes) .none kV18 dc18 pm18 an18 cd18 ct18), sl18⟩) (c18 : PySem.W.codeIn K cd18 "changes" = true) (k18 : PySem.W.keepIn K (.ref f18) = true)
    (a19 : PySem.W.nsIn K mainGlobals "is_due" = some (some (.ref f19)))
     (l19 : K.lookup f19 = some ⟨oc19, od19, .func (PySem.W.fnOf "is_due" "is_due" (defArgs s_is_due) (defBody s_is_due) (defScope s_is_due) .none kV19 dc19 pm19 an19 cd19 ct19), sl19⟩) (c19 : PySem.W.codeIn K cd19 "is_due" = true) (k19 : PySem.W.keepIn K (.ref f19) = true)
    (a20 : PySem.W.nsIn K mainGlobals "is_twin" = some (some (.ref f20)))
     (l20 : K.lookup f20 = some ⟨oc20, od20, .func (PySem.W.fnOf "is_twin" "is_twin" (defArgs s_is_twin) (defBody s_is_twin) (defScope s_is_twin) .none kV20 dc20 pm20 an20 cd20 ct20), sl20⟩) (c20 : PySem.W.codeIn K cd20 "is_twin" = true) (k20 : PySem.W.keepIn K (.ref f20) = true)
    (a21 : PySem.W.nsIn K mainGlobals "is_asked" = some (some (.ref f21)))
     (l21 : K.lookup f21 = some ⟨oc21, od21, .func (PySem.W.fnOf "is_asked" "is_asked" (defArgs s_is_asked) (defBody s_is_asked) (defScope s_is_asked) .none kV21 dc21 pm21 an21 cd21 ct21), sl21⟩) (c21 : PySem.W.codeIn K cd21 "is_asked" = true) (k21 : PySem.W.keepIn K (.ref f21) = true)
    (a22 : PySem.W.nsIn K mainGlobals "is_framed" = some (some (.ref f22)))
     (l22 : K.lookup f22 = some ⟨oc22, od22, .func (PySem.W.fnOf "is_framed" "is_framed" (defArgs s_is_framed) (defBody s_is_framed) (defScope s_is_framed) .none kV22 dc22 pm22 an22 cd22 ct22), sl22⟩) (c22 : PySem.W.codeIn K cd22 "is_framed" = true) (k22 : PySem.W.keepIn K (.ref f22) = true)
    (a23 : PySem.W.nsIn K mainGlobals "check_task" = some (some (.ref f23)))
     (l23 : K.lookup f23 = some ⟨oc23, od23, .func (PySem.W.fnOf "check_task" "check_task" (defArgs s_check_task) (defBody s_check_task) (defScope s_check_task) .none kV23 dc23 pm23 an23 cd23 ct23), sl23⟩) (c23 : PySem.W.codeIn K cd23 "check_task" = true) (k23 : PySem.W.keepIn K (.ref f23) = true)
    (a24 : PySem.W.nsIn K mainGlobals "right_ones" = some (some (.ref f24)))
     (l24 : K.lookup f24 = some ⟨oc24, od24, .func (PySem.W.fnOf "right_ones" "right_ones" (defArgs s_right_ones) (defBody s_right_ones) (defScope s_right_ones) .none kV24 dc24 pm24 an24 cd24 ct24), sl24⟩) (c24 : PySem.W.codeIn K cd24 "right_ones" = true) (k24 : PySem.W.keepIn K (.ref f24) = true)
    (a25 : PySem.W.nsIn K mainGlobals "count_right" = some (some (.ref f25)))
     (l25 : K.lookup f25 = some ⟨oc25, od25, .func (PySem.W.fnOf "count_right" "count_right" (defArgs s_count_right) (defBody s_count_right) (defScope s_count_right) .none kV25 dc25 pm25 an25 cd25 ct25), sl25⟩) (c25 : PySem.W.codeIn K cd25 "count_right" = true) (k25 : PySem.W.keepIn K (.ref f25) = true)
    (a26 : PySem.W.nsIn K mainGlobals "check_name" = some (some (.ref f26)))
     (l26 : K.lookup f26 = some ⟨oc26, od26, .func (PySem.W.fnOf "check_name" "check_name" (defArgs s_check_name) (defBody s_check_name) (defScope s_check_name) .none kV26 dc26 pm26 an26 cd26 ct26), sl26⟩) (c26 : PySem.W.codeIn K cd26 "check_name" = true) (k26 : PySem.W.keepIn K (.ref f26) = true)
    (a27 : PySem.W.nsIn K mainGlobals "is_told" = some (some (.ref f27)))
     (l27 : K.lookup f27 = some ⟨oc27, od27, .func (PySem.W.fnOf "is_told" "is_told" (defArgs s_is_told) (defBody s_is_told) (defScope s_is_told) .none kV27 dc27 pm27 an27 cd27 ct27), sl27⟩) (c27 : PySem.W.codeIn K cd27 "is_told" = true) (k27 : PySem.W.keepIn K (.ref f27) = true)
    (a28 : PySem.W.findIn K (.ref fC) "__init__" = some (some (.ref f28))) (i28 : PySem.W.isFn K (.ref f28) = true)
     (l28 : K.lookup f28 = some ⟨oc28, od28, .func (PySem.W.fnOf "__init__" "Hall.__init__" (defArgs s_Hall___init__) (defBody s_Hall___init__) (defScope s_Hall___init__) .none kV28 dc28 pm28 an28 cd28 ct28), sl28⟩) (c28 : PySem.W.codeIn K cd28 "Hall.__init__" = true) (k28 : PySem.W.keepIn K (.ref f28) = true)
    (a29 : PySem.W.findIn K (.ref fC) "check_machine_told" = some (some (.ref f29))) (i29 : PySem.W.isFn K (.ref f29) = true)
     (l29 : K.lookup f29 = some ⟨oc29, od29, .func (PySem.W.fnOf "check_machine_told" "Hall.check_machine_told" (defArgs s_Hall_check_machine_told) (defBody s_Hall_check_machine_told) (defScope s_Hall_check_machine_told) .none kV29 dc29 pm29 an29 cd29 ct29), sl29⟩) (c29 : PySem.W.codeIn K cd29 "Hall.check_machine_told" = true) (k29 : PySem.W.keepIn K (.ref f29) = true)
    (a30 : PySem.W.findIn K (.ref fC) "check_page" = some (some (.ref f30))) (i30 : PySem.W.isFn K (.ref f30) = true)
     (l30 : K.lookup f30 = some ⟨oc30, od30, .func (PySem.W.fnOf "check_page" "Hall.check_page" (defArgs s_Hall_check_page) (defBody s_Hall_check_page) (defScope s_Hall_check_page) .none kV30 dc30 pm30 an30 cd30 ct30), sl30⟩) (c30 : PySem.W.codeIn K cd30 "Hall.check_page" = true) (k30 : PySem.W.keepIn K (.ref f30) = true)
    (a31 : PySem.W.findIn K (.ref fC) "brought" = some (some (.ref f31))) (i31 : PySem.W.isFn K (.ref f31) = true)
     (l31 : K.lookup f31 = some ⟨oc31, od31, .func (PySem.W.fnOf "brought" "Hall.brought" (defArgs s_Hall_brought) (defBody s_Hall_brought) (defScope s_Hall_brought) .none kV31 dc31 pm31 an31 cd31 ct31), sl31⟩) (c31 : PySem.W.codeIn K cd31 "Hall.brought" = true) (k31 : PySem.W.keepIn K (.ref f31) = true)
    (a32 : PySem.W.findIn K (.ref fC) "runs_in" = some (some (.ref f32))) (i32 : PySem.W.isFn K (.ref f32) = true)
     (l32 : K.lookup f32 = some ⟨oc32, od32, .func (PySem.W.fnOf "runs_in" "Hall.runs_in" (defArgs s_Hall_runs_in) (defBody s_Hall_runs_in) (defScope s_Hall_runs_in) .none kV32 dc32 pm32 an32 cd32 ct32), sl32⟩) (c32 : PySem.W.codeIn K cd32 "Hall.runs_in" = true) (k32 : PySem.W.keepIn K (.ref f32) = true)
    (a33 : PySem.W.findIn K (.ref fC) "means" = some (some (.ref f33))) (i33 : PySem.W.isFn K (.ref f33) = true)
     (l33 : K.lookup f33 = some ⟨oc33, od33, .func (PySem.W.fnOf "means" "Hall.means" (defArgs s_Hall_means) (defBody s_Hall_means) (defScope s_Hall_means) .none kV33 dc33 pm33 an33 cd33 ct33), sl33⟩) (c33 : PySem.W.codeIn K cd33 "Hall.means" = true) (k33 : PySem.W.keepIn K (.ref f33) = true)
    (a34 : PySem.W.findIn K (.ref fC) "ranks_now" = some (some (.ref f34))) (i34 : PySem.W.isFn K (.ref f34) = true)
     (l34 : K.lookup f34 = some ⟨oc34, od34, .func (PySem.W.fnOf "ranks_now" "Hall.ranks_now" (defArgs s_Hall_ranks_now) (defBody s_Hall_ranks_now) (defScope s_Hall_ranks_now) .none kV34 dc34 pm34 an34 cd34 ct34), sl34⟩) (c34 : PySem.W.codeIn K cd34 "Hall.ranks_now" = true) (k34 : PySem.W.keepIn K (.ref f34) = true)
    (a35 : PySem.W.findIn K (.ref fC) "come_to" = some (some (.ref f35))) (i35 : PySem.W.isFn K (.ref f35) = true)
     (l35 : K.lookup f35 = some ⟨oc35, od35, .func (PySem.W.fnOf "come_to" "Hall.come_to" (defArgs s_Hall_come_to) (defBody s_Hall_come_to) (defScope s_Hall_come_to) .none kV35 dc35 pm35 an35 cd35 ct35), sl35⟩) (c35 : PySem.W.codeIn K cd35 "Hall.come_to" = true) (k35 : PySem.W.keepIn K (.ref f35) = true)
    (a36 : PySem.W.findIn K (.ref fC) "score_anew" = some (some (.ref f36))) (i36 : PySem.W.isFn K (.ref f36) = true)
     (l36 : K.lookup f36 = some ⟨oc36, od36, .func (PySem.W.fnOf "score_anew" "Hall.score_anew" (defArgs s_Hall_score_anew) (defBody s_Hall_score_anew) (defScope s_Hall_score_anew) .none kV36 dc36 pm36 an36 cd36 ct36), sl36⟩) (c36 : PySem.W.codeIn K cd36 "Hall.score_anew" = true) (k36 : PySem.W.keepIn K (.ref f36) = true)
    (a37 : PySem.W.findIn K (.ref fC) "task" = some (some (.ref f37))) (i37 : PySem.W.isFn K (.ref f37) = true)
     (l37 : K.lookup f37 = some ⟨oc37, od37, .func (PySem.W.fnOf "task" "Hall.task" (defArgs s_Hall_task) (defBody s_Hall_task) (defScope s_Hall_task) .none kV37 dc37 pm37 an37 cd37 ct37), sl37⟩) (c37 : PySem.W.codeIn K cd37 "Hall.task" = true) (k37 : PySem.W.keepIn K (.ref f37) = true)
    (a38 : PySem.W.findIn K (.ref fC) "machine" = some (some (.ref f38))) (i38 : PySem.W.isFn K (.ref f38) = true)
     (l38 : K.lookup f38 = some ⟨oc38, od38, .func (PySem.W.fnOf "machine" "Hall.machine" (defArgs s_Hall_machine) (defBody s_Hall_machine) (defScope s_Hall_machine) .none kV38 dc38 pm38 an38 cd38 ct38), sl38⟩) (c38 : PySem.W.codeIn K cd38 "Hall.machine" = true) (k38 : PySem.W.keepIn K (.ref f38) = true)
    (a39 : PySem.W.findIn K (.ref fC) "tell" = some (some (.ref f39))) (i39 : PySem.W.isFn K (.ref f39) = true)
     (l39 : K.lookup f39 = some ⟨oc39, od39, .func (PySem.W.fnOf "tell" "Hall.tell" (defArgs s_Hall_tell) (defBody s_Hall_tell) (defScope s_Hall_tell) .none kV39 dc39 pm39 an39 cd39 ct39), sl39⟩) (c39 : PySem.W.codeIn K cd39 "Hall.tell" = true) (k39 : PySem.W.keepIn K (.ref f39) = true)
    (a40 : PySem.W.findIn K (.ref fC) "strike" = some (some (.ref f40))) (i40 : PySem.W.isFn K (.ref f40) = true)
     (l40 : K.lookup f40 = some ⟨oc40, od40, .func (PySem.W.fnOf "strike" "Hall.strike" (defArgs s_Hall_strike) (defBody s_Hall_strike) (defScope s_Hall_strike) .none kV40 dc40 pm40 an40 cd40 ct40), sl40⟩) (c40 : PySem.W.codeIn K cd40 "Hall.strike" = true) (k40 : PySem.W.keepIn K (.ref f40) = true)
    (a41 : PySem.W.findIn K (.ref fC) "ranks" = some (some (.ref f41))) (i41 : PySem.W.isFn K (.ref f41) = true)
     (l41 : K.lookup f41 = some ⟨oc41, od41, .func (PySem.W.fnOf "ranks" "Hall.ranks" (defArgs s_Hall_ranks) (defBody s_Hall_ranks) (defScope s_Hall_ranks) .none kV41 dc41 pm41 an41 cd41 ct41), sl41⟩) (c41 : PySem.W.codeIn K cd41 "Hall.ranks" = true) (k41 : PySem.W.keepIn K (.ref f41) = true)
    (a42 : PySem.W.findIn K (.ref fC) "page" = some (some (.ref f42))) (i42 : PySem.W.isFn K (.ref f42) = true)
     (l42 : K.lookup f42 = some ⟨oc42, od42, .func (PySem.W.fnOf "page" "Hall.page" (defArgs s_Hall_page) (defBody s_Hall_page) (defScope s_Hall_page) .none kV42 dc42 pm42 an42 cd42 ct42), sl42⟩) (c42 : PySem.W.codeIn K cd42 "Hall.page" = true) (k42 : PySem.W.keepIn K (.ref f42) = true)
    (a43 : PySem.W.findIn K (.ref fC) "deeds" = some (some (.ref f43))) (i43 : PySem.W.isFn K (.ref f43) = true)
     (l43 : K.lookup f43 = some ⟨oc43, od43, .func (PySem.W.fnOf "deeds" "Hall.deeds" (defArgs s_Hall_deeds) (defBody s_Hall_deeds) (defScope s_Hall_deeds) .none kV43 dc43 pm43 an43 cd43 ct43), sl43⟩) (c43 : PySem.W.codeIn K cd43 "Hall.deeds" = true) (k43 : PySem.W.keepIn K (.ref f43) = true)
    (a44 : PySem.W.nsIn K mainGlobals "_law_dice" = some (some (.ref f44)))
     (l44 : K.lookup f44 = some ⟨oc44, od44, .func (PySem.W.fnOf "_law_dice" "_law_dice" (defArgs s_dice) (defBody s_dice) (defScope s_dice) .none kV44 dc44 pm44 an44 cd44 ct44), sl44⟩) (c44 : PySem.W.codeIn K cd44 "_law_dice" = true) (k44 : PySem.W.keepIn K (.ref f44) = true)
    (a45 : PySem.W.nsIn K mainGlobals "_law_off" = some (some (.ref f45)))
     (l45 : K.lookup f45 = some ⟨oc45, od45, .func (PySem.W.fnOf "_law_off" "_law_off" (defArgs s_off) (defBody s_off) (defScope s_off) .none kV45 dc45 pm45 an45 cd45 ct45), sl45⟩) (c45 : PySem.W.codeIn K cd45 "_law_off" = true) (k45 : PySem.W.keepIn K (.ref f45) = true)
    (a46 : PySem.W.nsIn K mainGlobals "_law_mixed" = some (some (.ref f46)))
     (l46 : K.lookup f46 = some ⟨oc46, od46, .func (PySem.W.fnOf "_law_mixed" "_law_mixed" (defArgs s_mixed) (defBody s_mixed) (defScope s_mixed) .none kV46 dc46 pm46 an46 cd46 ct46), sl46⟩) (c46 : PySem.W.codeIn K cd46 "_law_mixed" = true) (k46 : PySem.W.keepIn K (.ref f46) = true)
    (a47 : PySem.W.nsIn K mainGlobals "_law_word_of" = some (some (.ref f47)))
     (l47 : K.lookup f47 = some ⟨oc47, od47, .func (PySem.W.fnOf "_law_word_of" "_law_word_of" (defArgs s_word_of) (defBody s_word_of) (defScope s_word_of) .none kV47 dc47 pm47 an47 cd47 ct47), sl47⟩) (c47 : PySem.W.codeIn K cd47 "_law_word_of" = true) (k47 : PySem.W.keepIn K (.ref f47) = true)
    (a48 : PySem.W.nsIn K mainGlobals "_law_are" = some (some (.ref f48)))
     (l48 : K.lookup f48 = some ⟨oc48, od48, .func (PySem.W.fnOf "_law_are" "_law_are" (defArgs s_are) (defBody s_are) (defScope s_are) .none kV48 dc48 pm48 an48 cd48 ct48), sl48⟩) (c48 : PySem.W.codeIn K cd48 "_law_are" = true) (k48 : PySem.W.keepIn K (.ref f48) = true)
    (a49 : PySem.W.nsIn K mainGlobals "_law_test" = some (some (.ref f49)))
     (l49 : K.lookup f49 = some ⟨oc49, od49, .func (PySem.W.fnOf "_law_test" "_law_test" (defArgs s_test) (defBody s_test) (defScope s_test) .none kV49 dc49 pm49 an49 cd49 ct49), sl49⟩) (c49 : PySem.W.codeIn K cd49 "_law_test" = true) (k49 : PySem.W.keepIn K (.ref f49) = true)
    (a50 : PySem.W.nsIn K mainGlobals "_law_answer" = some (some (.ref f50)))
     (l50 : K.lookup f50 = some ⟨oc50, od50, .func (PySem.W.fnOf "_law_answer" "_law_answer" (defArgs s_answer) (defBody s_answer) (defScope s_answer) .none kV50 dc50 pm50 an50 cd50 ct50), sl50⟩) (c50 : PySem.W.codeIn K cd50 "_law_answer" = true) (k50 : PySem.W.keepIn K (.ref f50) = true)
    (a51 : PySem.W.nsIn K mainGlobals "_law_machine" = some (some (.ref f51)))
     (l51 : K.lookup f51 = some ⟨oc51, od51, .func (PySem.W.fnOf "_law_machine" "_law_machine" (defArgs s_machine) (defBody s_machine) (defScope s_machine) .none kV51 dc51 pm51 an51 cd51 ct51), sl51⟩) (c51 : PySem.W.codeIn K cd51 "_law_machine" = true) (k51 : PySem.W.keepIn K (.ref f51) = true)
    (a52 : PySem.W.nsIn K mainGlobals "_law_told" = some (some (.ref f52)))
     (l52 : K.lookup f52 = some ⟨oc52, od52, .func (PySem.W.fnOf "_law_told" "_law_told" (defArgs s_told) (defBody s_told) (defScope s_told) .none kV52 dc52 pm52 an52 cd52 ct52), sl52⟩) (c52 : PySem.W.codeIn K cd52 "_law_told" = true) (k52 : PySem.W.keepIn K (.ref f52) = true)
    (a53 : PySem.W.nsIn K mainGlobals "_law_task" = some (some (.ref f53)))
     (l53 : K.lookup f53 = some ⟨oc53, od53, .func (PySem.W.fnOf "_law_task" "_law_task" (defArgs s_task) (defBody s_task) (defScope s_task) .none kV53 dc53 pm53 an53 cd53 ct53), sl53⟩) (c53 : PySem.W.codeIn K cd53 "_law_task" = true) (k53 : PySem.W.keepIn K (.ref f53) = true)
    (a54 : PySem.W.nsIn K mainGlobals "law" = some (some (.ref f54)))
     (l54 : K.lookup f54 = some ⟨oc54, od54, .func (PySem.W.fnOf "law" "law" (defArgs s_law) (defBody s_law) (defScope s_law) .none kV54 dc54 pm54 an54 cd54 ct54), sl54⟩) (c54 : PySem.W.codeIn K cd54 "law" = true) (k54 : PySem.W.keepIn K (.ref f54) = true)
    (z_ValueError : PySem.W.nsIn K mainGlobals "ValueError" = some none)
    (z_abs : PySem.W.nsIn K mainGlobals "abs" = some none)
    (z_all : PySem.W.nsIn K mainGlobals "all" = some none)
    (z_bool : PySem.W.nsIn K mainGlobals "bool" = some none)
    (z_enumerate : PySem.W.nsIn K mainGlobals "enumerate" = some none)
    (z_int : PySem.W.nsIn K mainGlobals "int" = some none)
    (z_isinstance : PySem.W.nsIn K mainGlobals "isinstance" = some none)
    (z_len : PySem.W.nsIn K mainGlobals "len" = some none)
    (z_list : PySem.W.nsIn K mainGlobals "list" = some none)
    (z_max : PySem.W.nsIn K mainGlobals "max" = some none)
    (z_range : PySem.W.nsIn K mainGlobals "range" = some none)
    (z_set : PySem.W.nsIn K mainGlobals "set" = some none)
    (z_sorted : PySem.W.nsIn K mainGlobals "sorted" = some none)
    (z_str : PySem.W.nsIn K mainGlobals "str" = some none)
    (z_sum : PySem.W.nsIn K mainGlobals "sum" = some none)
    (z_tuple : PySem.W.nsIn K mainGlobals "tuple" = some none)
    (z_zip : PySem.W.nsIn K mainGlobals "zip" = some none)
    (x_gcd : PySem.W.nsIn K mainGlobals "gcd" = some (some (.builtin "math.gcd")))
    {v_LAST_QUESTION : Value} (y_LAST_QUESTION : PySem.W.nsIn K mainGlobals "LAST_QUESTION" = some (some v_LAST_QUESTION)) (r_LAST_QUESTION : RelV (.int 9999) v_LAST_QUESTION)
    {v_LAST_SEED : Value} (y_LAST_SEED : PySem.W.nsIn K mainGlobals "LAST_SEED" = some (some v_LAST_SEED)) (r_LAST_SEED : RelV (.int 999) v_LAST_SEED)
    {v_MOST_ROWS : Value} (y_MOST_ROWS : PySem.W.nsIn K mainGlobals "MOST_ROWS" = some (some v_MOST_ROWS)) (r_MOST_ROWS : RelV (.int 12) v_MOST_ROWS)
    {v_MOST_KNOWN : Value} (y_MOST_KNOWN : PySem.W.nsIn K mainGlobals "MOST_KNOWN" = some (some v_MOST_KNOWN)) (r_MOST_KNOWN : RelV (.int 8) v_MOST_KNOWN)
    {v_LEAST_DIVISOR : Value} (y_LEAST_DIVISOR : PySem.W.nsIn K mainGlobals "LEAST_DIVISOR" = some (some v_LEAST_DIVISOR)) (r_LEAST_DIVISOR : RelV (.int 2) v_LEAST_DIVISOR)
    {v_MOST_DIVISOR : Value} (y_MOST_DIVISOR : PySem.W.nsIn K mainGlobals "MOST_DIVISOR" = some (some v_MOST_DIVISOR)) (r_MOST_DIVISOR : RelV (.int 99) v_MOST_DIVISOR)
    {v_MOST_IN_ANSWER : Value} (y_MOST_IN_ANSWER : PySem.W.nsIn K mainGlobals "MOST_IN_ANSWER" = some (some v_MOST_IN_ANSWER)) (r_MOST_IN_ANSWER : RelV (.int 9999) v_MOST_IN_ANSWER)
    {v_SIXTIETHS : Value} (y_SIXTIETHS : PySem.W.nsIn K mainGlobals "SIXTIETHS" = some (some v_SIXTIETHS)) (r_SIXTIETHS : RelV (.int 60) v_SIXTIETHS)
    {v_MOST_QUESTIONS : Value} (y_MOST_QUESTIONS : PySem.W.nsIn K mainGlobals "MOST_QUESTIONS" = some (some v_MOST_QUESTIONS)) (r_MOST_QUESTIONS : RelV (.int 16) v_MOST_QUESTIONS)
    {v_MOST_DUE : Value} (y_MOST_DUE : PySem.W.nsIn K mainGlobals "MOST_DUE" = some (some v_MOST_DUE)) (r_MOST_DUE : RelV (.int 99999999) v_MOST_DUE)
    {v_MOST_WEIGHT : Value} (y_MOST_WEIGHT : PySem.W.nsIn K mainGlobals "MOST_WEIGHT" = some (some v_MOST_WEIGHT)) (r_MOST_WEIGHT : RelV (.int 9) v_MOST_WEIGHT)
    {v_MOST_LETTERS : Value} (y_MOST_LETTERS : PySem.W.nsIn K mainGlobals "MOST_LETTERS" = some (some v_MOST_LETTERS)) (r_MOST_LETTERS : RelV (.int 6) v_MOST_LETTERS)
    {v_MOST_TASKS : Value} (y_MOST_TASKS : PySem.W.nsIn K mainGlobals "MOST_TASKS" = some (some v_MOST_TASKS)) (r_MOST_TASKS : RelV (.int 4) v_MOST_TASKS)
    {v_MOST_MACHINES : Value} (y_MOST_MACHINES : PySem.W.nsIn K mainGlobals "MOST_MACHINES" = some (some v_MOST_MACHINES)) (r_MOST_MACHINES : RelV (.int 6) v_MOST_MACHINES)
    {v_MOST_RUNS : Value} (y_MOST_RUNS : PySem.W.nsIn K mainGlobals "MOST_RUNS" = some (some v_MOST_RUNS)) (r_MOST_RUNS : RelV (.int 5) v_MOST_RUNS)
    {e_HallError e_BadQuestion e_BadSeed e_BadName e_TooMany e_Taken e_NoMachine e_NoTask e_BadScore e_NoRun e_NotRanked e_BadShare e_NotAhead e_NoPage e_BadMachine e_BadText e_BadTask e_BadDeed : Addr}
    (g_HallError : PySem.W.nsIn K mainGlobals "HallError" = some (some (.ref e_HallError)))
    (g_BadQuestion : PySem.W.nsIn K mainGlobals "BadQuestion" = some (some (.ref e_BadQuestion)))
    (g_BadSeed : PySem.W.nsIn K mainGlobals "BadSeed" = some (some (.ref e_BadSeed)))
    (g_BadName : PySem.W.nsIn K mainGlobals "BadName" = some (some (.ref e_BadName)))
    (g_TooMany : PySem.W.nsIn K mainGlobals "TooMany" = some (some (.ref e_TooMany)))
    (g_Taken : PySem.W.nsIn K mainGlobals "Taken" = some (some (.ref e_Taken)))
    (g_NoMachine : PySem.W.nsIn K mainGlobals "NoMachine" = some (some (.ref e_NoMachine)))
    (g_NoTask : PySem.W.nsIn K mainGlobals "NoTask" = some (some (.ref e_NoTask)))
    (g_BadScore : PySem.W.nsIn K mainGlobals "BadScore" = some (some (.ref e_BadScore)))
    (g_NoRun : PySem.W.nsIn K mainGlobals "NoRun" = some (some (.ref e_NoRun)))
    (g_NotRanked : PySem.W.nsIn K mainGlobals "NotRanked" = some (some (.ref e_NotRanked)))
    (g_BadShare : PySem.W.nsIn K mainGlobals "BadShare" = some (some (.ref e_BadShare)))
    (g_NotAhead : PySem.W.nsIn K mainGlobals "NotAhead" = some (some (.ref e_NotAhead)))
    (g_NoPage : PySem.W.nsIn K mainGlobals "NoPage" = some (some (.ref e_NoPage)))
    (g_BadMachine : PySem.W.nsIn K mainGlobals "BadMachine" = some (some (.ref e_BadMachine)))
    (g_BadText : PySem.W.nsIn K mainGlobals "BadText" = some (some (.ref e_BadText)))
    (g_BadTask : PySem.W.nsIn K mainGlobals "BadTask" = some (some (.ref e_BadTask)))
    (g_BadDeed : PySem.W.nsIn K mainGlobals "BadDeed" = some (some (.ref e_BadDeed)))
    (x_TooMany : ExR K e_HallError [e_BadQuestion, e_BadSeed, e_BadName, e_TooMany, e_Taken, e_NoMachine, e_NoTask, e_BadScore, e_NoRun, e_NotRanked, e_BadShare, e_NotAhead, e_NoPage, e_BadMachine, e_BadText, e_BadTask, e_BadDeed] 3 e_TooMany)
    (x_Taken : ExR K e_HallError [e_BadQuestion, e_BadSeed, e_BadName, e_TooMany, e_Taken, e_NoMachine, e_NoTask, e_BadScore, e_NoRun, e_NotRanked, e_BadShare, e_NotAhead, e_NoPage, e_BadMachine, e_BadText, e_BadTask, e_BadDeed] 4 e_Taken)
    {law_cd law_tb : Addr} (cc_law : cd54 = .ref law_cd)
    : ∃ fd : FuncData, (∀ (s : Shared) (v : Value), BindsTo s fd ⟨[v], []⟩ [("_law_script", v)]) ∧ ∀ base : Heap, K.In base → base.Ns mainGlobals mg → LamX.TabB base mg law_cd law_tb → FnOk l.prog w K mg base CX0 15 fa fd ["_law_script"] (spLawT K law_tb) := by
  have e := hfa.symm.trans (PySem.W.mg_of X G a54)
  cases e
  have F0 := fun_mk (st := s_is_number) l0 c0 k0
  have F1 := fun_mk (st := s_is_question) l1 c1 k1
  have F2 := fun_mk (st := s_is_seed) l2 c2 k2
  have F3 := fun_mk (st := s_is_divisor) l3 c3 k3
  have F4 := fun_mk (st := s_is_known) l4 c4 k4
  have F5 := fun_mk (st := s_is_test) l5 c5 k5
  have F6 := fun_mk (st := s_is_answer) l6 c6 k6
  have F7 := fun_mk (st := s_is_row) l7 c7 k7
  have F8 := fun_mk (st := s_check_machine) l8 c8 k8
  have F9 := fun_mk (st := s_check_seed) l9 c9 k9
  have F10 := fun_mk (st := s_does_hold) l10 c10 k10
  have F11 := fun_mk (st := s_outcome) l11 c11 k11
  have F12 := fun_mk (st := s_run) l12 c12 k12
  have F13 := fun_mk (st := s_smallest) l13 c13 k13
  have F14 := fun_mk (st := s_is_ranked) l14 c14 k14
  have F15 := fun_mk (st := s_weighted) l15 c15 k15
  have F16 := fun_mk (st := s_mean_of) l16 c16 k16
  have F17 := fun_mk (st := s_ranks_by) l17 c17 k17
  have F18 := fun_mk (st := s_changes) l18 c18 k18
  have F19 := fun_mk (st := s_is_due) l19 c19 k19
  have F20 := fun_mk (st := s_is_twin) l20 c20 k20
  have F21 := fun_mk (st := s_is_asked) l21 c21 k21
  have F22 := fun_mk (st := s_is_framed) l22 c22 k22
  have F23 := fun_mk (st := s_check_task) l23 c23 k23
  have F24 := fun_mk (st := s_right_ones) l24 c24 k24
  have F25 := fun_mk (st := s_count_right) l25 c25 k25
  have F26 := fun_mk (st := s_check_name) l26 c26 k26
  have F27 := fun_mk (st := s_is_told) l27 c27 k27
  have F28 := fun_mk (st := s_Hall___init__) l28 c28 k28
  have F29 := fun_mk (st := s_Hall_check_machine_told) l29 c29 k29
  have F30 := fun_mk (st := s_Hall_check_page) l30 c30 k30
  have F31 := fun_mk (st := s_Hall_brought) l31 c31 k31
  have F32 := fun_mk (st := s_Hall_runs_in) l32 c32 k32
  have F33 := fun_mk (st := s_Hall_means) l33 c33 k33
  have F34 := fun_mk (st := s_Hall_ranks_now) l34 c34 k34
  have F35 := fun_mk (st := s_Hall_come_to) l35 c35 k35
  have F36 := fun_mk (st := s_Hall_score_anew) l36 c36 k36
  have F37 := fun_mk (st := s_Hall_task) l37 c37 k37
  have F38 := fun_mk (st := s_Hall_machine) l38 c38 k38
  have F39 := fun_mk (st := s_Hall_tell) l39 c39 k39
  have F40 := fun_mk (st := s_Hall_strike) l40 c40 k40
  have F41 := fun_mk (st := s_Hall_ranks) l41 c41 k41
  have F42 := fun_mk (st := s_Hall_page) l42 c42 k42
  have F43 := fun_mk (st := s_Hall_deeds) l43 c43 k43
  have F44 := fun_mk (st := s_dice) l44 c44 k44
  have F45 := fun_mk (st := s_off) l45 c45 k45
  have F46 := fun_mk (st := s_mixed) l46 c46 k46
  have F47 := fun_mk (st := s_word_of) l47 c47 k47
  have F48 := fun_mk (st := s_are) l48 c48 k48
  have F49 := fun_mk (st := s_test) l49 c49 k49
  have F50 := fun_mk (st := s_answer) l50 c50 k50
  have F51 := fun_mk (st := s_machine) l51 c51 k51
  have F52 := fun_mk (st := s_told) l52 c52 k52
  have F53 := fun_mk (st := s_task) l53 c53 k53
  have F54 := fun_mk (st := s_law) l54 c54 k54
  let A : Adr := ⟨fC, e_HallError, e_BadQuestion, e_BadSeed, e_BadName, e_TooMany, e_Taken, e_NoMachine, e_NoTask, e_BadScore, e_NoRun, e_NotRanked, e_BadShare, e_NotAhead, e_NoPage, e_BadMachine, e_BadText, e_BadTask, e_BadDeed, law_cd, law_tb, f0, PySem.W.fnOf "is_number" "is_number" (defArgs s_is_number) (defBody s_is_number) (defScope s_is_number) .none kV0 dc0 pm0 an0 cd0 ct0, f1, PySem.W.fnOf "is_question" "is_question" (defArgs s_is_question) (defBody s_is_question) (defScope s_is_question) .none kV1 dc1 pm1 an1 cd1 ct1, f2, PySem.W.fnOf "is_seed" "is_seed" (defArgs s_is_seed) (defBody s_is_seed) (defScope s_is_seed) .none kV2 dc2 pm2 an2 cd2 ct2, f3, PySem.W.fnOf "is_divisor" "is_divisor" (defArgs s_is_divisor) (defBody s_is_divisor) (defScope s_is_divisor) .none kV3 dc3 pm3 an3 cd3 ct3, f4, PySem.W.fnOf "is_known" "is_known" (defArgs s_is_known) (defBody s_is_known) (defScope s_is_known) .none kV4 dc4 pm4 an4 cd4 ct4, f5, PySem.W.fnOf "is_test" "is_test" (defArgs s_is_test) (defBody s_is_test) (defScope s_is_test) .none kV5 dc5 pm5 an5 cd5 ct5, f6, PySem.W.fnOf "is_answer" "is_answer" (defArgs s_is_answer) (defBody s_is_answer) (defScope s_is_answer) .none kV6 dc6 pm6 an6 cd6 ct6, f7, PySem.W.fnOf "is_row" "is_row" (defArgs s_is_row) (defBody s_is_row) (defScope s_is_row) .none kV7 dc7 pm7 an7 cd7 ct7, f8, PySem.W.fnOf "check_machine" "check_machine" (defArgs s_check_machine) (defBody s_check_machine) (defScope s_check_machine) .none kV8 dc8 pm8 an8 cd8 ct8, f9, PySem.W.fnOf "check_seed" "check_seed" (defArgs s_check_seed) (defBody s_check_seed) (defScope s_check_seed) .none kV9 dc9 pm9 an9 cd9 ct9, f10, PySem.W.fnOf "does_hold" "does_hold" (defArgs s_does_hold) (defBody s_does_hold) (defScope s_does_hold) .none kV10 dc10 pm10 an10 cd10 ct10, f11, PySem.W.fnOf "outcome" "outcome" (defArgs s_outcome) (defBody s_outcome) (defScope s_outcome) .none kV11 dc11 pm11 an11 cd11 ct11, f12, PySem.W.fnOf "run" "run" (defArgs s_run) (defBody s_run) (defScope s_run) .none kV12 dc12 pm12 an12 cd12 ct12, f13, PySem.W.fnOf "smallest" "smallest" (defArgs s_smallest) (defBody s_smallest) (defScope s_smallest) .none kV13 dc13 pm13 an13 cd13 ct13, f14, PySem.W.fnOf "is_ranked" "is_ranked" (defArgs s_is_ranked) (defBody s_is_ranked) (defScope s_is_ranked) .none kV14 dc14 pm14 an14 cd14 ct14, f15, PySem.W.fnOf "weighted" "weighted" (defArgs s_weighted) (defBody s_weighted) (defScope s_weighted) .none kV15 dc15 pm15 an15 cd15 ct15, f16, PySem.W.fnOf "mean_of" "mean_of" (defArgs s_mean_of) (defBody s_mean_of) (defScope s_mean_of) .none kV16 dc16 pm16 an16 cd16 ct16, f17, PySem.W.fnOf "ranks_by" "ranks_by" (defArgs s_ranks_by) (defBody s_ranks_by) (defScope s_ranks_by) .none kV17 dc17 pm17 an17 cd17 ct17, f18, PySem.W.fnOf "changes" "changes" (defArgs s_changes) (defBody s_changes) (defScope s_changes) .none kV18 dc18 pm18 an18 cd18 ct18, f19, PySem.W.fnOf "is_due" "is_due" (defArgs s_is_due) (defBody s_is_due) (defScope s_is_due) .none kV19 dc19 pm19 an19 cd19 ct19, f20, PySem.W.fnOf "is_twin" "is_twin" (defArgs s_is_twin) (defBody s_is_twin) (defScope s_is_twin) .none kV20 dc20 pm20 an20 cd20 ct20, f21, PySem.W.fnOf "is_asked" "is_asked" (defArgs s_is_asked) (defBody s_is_asked) (defScope s_is_asked) .none kV21 dc21 pm21 an21 cd21 ct21, f22, PySem.W.fnOf "is_framed" "is_framed" (defArgs s_is_framed) (defBody s_is_framed) (defScope s_is_framed) .none kV22 dc22 pm22 an22 cd22 ct22, f23, PySem.W.fnOf "check_task" "check_task" (defArgs s_check_task) (defBody s_check_task) (defScope s_check_task) .none kV23 dc23 pm23 an23 cd23 ct23, f24, PySem.W.fnOf "right_ones" "right_ones" (defArgs s_right_ones) (defBody s_right_ones) (defScope s_right_ones) .none kV24 dc24 pm24 an24 cd24 ct24, f25, PySem.W.fnOf "count_right" "count_right" (defArgs s_count_right) (defBody s_count_right) (defScope s_count_right) .none kV25 dc25 pm25 an25 cd25 ct25, f26, PySem.W.fnOf "check_name" "check_name" (defArgs s_check_name) (defBody s_check_name) (defScope s_check_name) .none kV26 dc26 pm26 an26 cd26 ct26, f27, PySem.W.fnOf "is_told" "is_told" (defArgs s_is_told) (defBody s_is_told) (defScope s_is_told) .none kV27 dc27 pm27 an27 cd27 ct27, f28, PySem.W.fnOf "__init__" "Hall.__init__" (defArgs s_Hall___init__) (defBody s_Hall___init__) (defScope s_Hall___init__) .none kV28 dc28 pm28 an28 cd28 ct28, f29, PySem.W.fnOf "check_machine_told" "Hall.check_machine_told" (defArgs s_Hall_check_machine_told) (defBody s_Hall_check_machine_told) (defScope s_Hall_check_machine_told) .none kV29 dc29 pm29 an29 cd29 ct29, f30, PySem.W.fnOf "check_page" "Hall.check_page" (defArgs s_Hall_check_page) (defBody s_Hall_check_page) (defScope s_Hall_check_page) .none kV30 dc30 pm30 an30 cd30 ct30, f31, PySem.W.fnOf "brought" "Hall.brought" (defArgs s_Hall_brought) (defBody s_Hall_brought) (defScope s_Hall_brought) .none kV31 dc31 pm31 an31 cd31 ct31, f32, PySem.W.fnOf "runs_in" "Hall.runs_in" (defArgs s_Hall_runs_in) (defBody s_Hall_runs_in) (defScope s_Hall_runs_in) .none kV32 dc32 pm32 an32 cd32 ct32, f33, PySem.W.fnOf "means" "Hall.means" (defArgs s_Hall_means) (defBody s_Hall_means) (defScope s_Hall_means) .none kV33 dc33 pm33 an33 cd33 ct33, f34, PySem.W.fnOf "ranks_now" "Hall.ranks_now" (defArgs s_Hall_ranks_now) (defBody s_Hall_ranks_now) (defScope s_Hall_ranks_now) .none kV34 dc34 pm34 an34 cd34 ct34, f35, PySem.W.fnOf "come_to" "Hall.come_to" (defArgs s_Hall_come_to) (defBody s_Hall_come_to) (defScope s_Hall_come_to) .none kV35 dc35 pm35 an35 cd35 ct35, f36, PySem.W.fnOf "score_anew" "Hall.score_anew" (defArgs s_Hall_score_anew) (defBody s_Hall_score_anew) (defScope s_Hall_score_anew) .none kV36 dc36 pm36 an36 cd36 ct36, f37, PySem.W.fnOf "task" "Hall.task" (defArgs s_Hall_task) (defBody s_Hall_task) (defScope s_Hall_task) .none kV37 dc37 pm37 an37 cd37 ct37, f38, PySem.W.fnOf "machine" "Hall.machine" (defArgs s_Hall_machine) (defBody s_Hall_machine) (defScope s_Hall_machine) .none kV38 dc38 pm38 an38 cd38 ct38, f39, PySem.W.fnOf "tell" "Hall.tell" (defArgs s_Hall_tell) (defBody s_Hall_tell) (defScope s_Hall_tell) .none kV39 dc39 pm39 an39 cd39 ct39, f40, PySem.W.fnOf "strike" "Hall.strike" (defArgs s_Hall_strike) (defBody s_Hall_strike) (defScope s_Hall_strike) .none kV40 dc40 pm40 an40 cd40 ct40, f41, PySem.W.fnOf "ranks" "Hall.ranks" (defArgs s_Hall_ranks) (defBody s_Hall_ranks) (defScope s_Hall_ranks) .none kV41 dc41 pm41 an41 cd41 ct41, f42, PySem.W.fnOf "page" "Hall.page" (defArgs s_Hall_page) (defBody s_Hall_page) (defScope s_Hall_page) .none kV42 dc42 pm42 an42 cd42 ct42, f43, PySem.W.fnOf "deeds" "Hall.deeds" (defArgs s_Hall_deeds) (defBody s_Hall_deeds) (defScope s_Hall_deeds) .none kV43 dc43 pm43 an43 cd43 ct43, f44, PySem.W.fnOf "_law_dice" "_law_dice" (defArgs s_dice) (defBody s_dice) (defScope s_dice) .none kV44 dc44 pm44 an44 cd44 ct44, f45, PySem.W.fnOf "_law_off" "_law_off" (defArgs s_off) (defBody s_off) (defScope s_off) .none kV45 dc45 pm45 an45 cd45 ct45, f46, PySem.W.fnOf "_law_mixed" "_law_mixed" (defArgs s_mixed) (defBody s_mixed) (defScope s_mixed) .none kV46 dc46 pm46 an46 cd46 ct46, f47, PySem.W.fnOf "_law_word_of" "_law_word_of" (defArgs s_word_of) (defBody s_word_of) (defScope s_word_of) .none kV47 dc47 pm47 an47 cd47 ct47, f48, PySem.W.fnOf "_law_are" "_law_are" (defArgs s_are) (defBody s_are) (defScope s_are) .none kV48 dc48 pm48 an48 cd48 ct48, f49, PySem.W.fnOf "_law_test" "_law_test" (defArgs s_test) (defBody s_test) (defScope s_test) .none kV49 dc49 pm49 an49 cd49 ct49, f50, PySem.W.fnOf "_law_answer" "_law_answer" (defArgs s_answer) (defBody s_answer) (defScope s_answer) .none kV50 dc50 pm50 an50 cd50 ct50, f51, PySem.W.fnOf "_law_machine" "_law_machine" (defArgs s_machine) (defBody s_machine) (defScope s_machine) .none kV51 dc51 pm51 an51 cd51 ct51, f52, PySem.W.fnOf "_law_told" "_law_told" (defArgs s_told) (defBody s_told) (defScope s_told) .none kV52 dc52 pm52 an52 cd52 ct52, f53, PySem.W.fnOf "_law_task" "_law_task" (defArgs s_task) (defBody s_task) (defScope s_task) .none kV53 dc53 pm53 an53 cd53 ct53, fa, PySem.W.fnOf "law" "law" (defArgs s_law) (defBody s_law) (defScope s_law) .none kV54 dc54 pm54 an54 cd54 ct54⟩
  have T : Txt K mg A := {
    n_ValueError := PySem.W.mg_none_of X G z_ValueError
    n_abs := PySem.W.mg_none_of X G z_abs
    n_all := PySem.W.mg_none_of X G z_all
    n_bool := PySem.W.mg_none_of X G z_bool
    n_enumerate := PySem.W.mg_none_of X G z_enumerate
    n_int := PySem.W.mg_none_of X G z_int
    n_isinstance := PySem.W.mg_none_of X G z_isinstance
    n_len := PySem.W.mg_none_of X G z_len
    n_list := PySem.W.mg_none_of X G z_list
    n_max := PySem.W.mg_none_of X G z_max
    n_range := PySem.W.mg_none_of X G z_range
    n_set := PySem.W.mg_none_of X G z_set
    n_sorted := PySem.W.mg_none_of X G z_sorted
    n_str := PySem.W.mg_none_of X G z_str
    n_sum := PySem.W.mg_none_of X G z_sum
    n_tuple := PySem.W.mg_none_of X G z_tuple
    n_zip := PySem.W.mg_none_of X G z_zip
    m_gcd := PySem.W.mg_of X G x_gcd
    c_LAST_QUESTION := ⟨_, PySem.W.mg_of X G y_LAST_QUESTION, r_LAST_QUESTION⟩
    c_LAST_SEED := ⟨_, PySem.W.mg_of X G y_LAST_SEED, r_LAST_SEED⟩
    c_MOST_ROWS := ⟨_, PySem.W.mg_of X G y_MOST_ROWS, r_MOST_ROWS⟩
    c_MOST_KNOWN := ⟨_, PySem.W.mg_of X G y_MOST_KNOWN, r_MOST_KNOWN⟩
    c_LEAST_DIVISOR := ⟨_, PySem.W.mg_of X G y_LEAST_DIVISOR, r_LEAST_DIVISOR⟩
    c_MOST_DIVISOR := ⟨_, PySem.W.mg_of X G y_MOST_DIVISOR, r_MOST_DIVISOR⟩
    c_MOST_IN_ANSWER := ⟨_, PySem.W.mg_of X G y_MOST_IN_ANSWER, r_MOST_IN_ANSWER⟩
    c_SIXTIETHS := ⟨_, PySem.W.mg_of X G y_SIXTIETHS, r_SIXTIETHS⟩
    c_MOST_QUESTIONS := ⟨_, PySem.W.mg_of X G y_MOST_QUESTIONS, r_MOST_QUESTIONS⟩
    c_MOST_DUE := ⟨_, PySem.W.mg_of X G y_MOST_DUE, r_MOST_DUE⟩
    c_MOST_WEIGHT := ⟨_, PySem.W.mg_of X G y_MOST_WEIGHT, r_MOST_WEIGHT⟩
    c_MOST_LETTERS := ⟨_, PySem.W.mg_of X G y_MOST_LETTERS, r_MOST_LETTERS⟩
    c_MOST_TASKS := ⟨_, PySem.W.mg_of X G y_MOST_TASKS, r_MOST_TASKS⟩
    c_MOST_MACHINES := ⟨_, PySem.W.mg_of X G y_MOST_MACHINES, r_MOST_MACHINES⟩
    c_MOST_RUNS := ⟨_, PySem.W.mg_of X G y_MOST_RUNS, r_MOST_RUNS⟩
    g_HallError := PySem.W.mg_of X G g_HallError
    g_BadQuestion := PySem.W.mg_of X G g_BadQuestion
    g_BadSeed := PySem.W.mg_of X G g_BadSeed
    g_BadName := PySem.W.mg_of X G g_BadName
    g_TooMany := PySem.W.mg_of X G g_TooMany
    g_Taken := PySem.W.mg_of X G g_Taken
    g_NoMachine := PySem.W.mg_of X G g_NoMachine
    g_NoTask := PySem.W.mg_of X G g_NoTask
    g_BadScore := PySem.W.mg_of X G g_BadScore
    g_NoRun := PySem.W.mg_of X G g_NoRun
    g_NotRanked := PySem.W.mg_of X G g_NotRanked
    g_BadShare := PySem.W.mg_of X G g_BadShare
    g_NotAhead := PySem.W.mg_of X G g_NotAhead
    g_NoPage := PySem.W.mg_of X G g_NoPage
    g_BadMachine := PySem.W.mg_of X G g_BadMachine
    g_BadText := PySem.W.mg_of X G g_BadText
    g_BadTask := PySem.W.mg_of X G g_BadTask
    g_BadDeed := PySem.W.mg_of X G g_BadDeed
    x_TooMany := x_TooMany
    x_Taken := x_Taken
    law_c := cc_law
    cl_Hall := ⟨pgC, hdC, poC, saC⟩
    mk_Hall := ⟨mkC, a28, i28, kcC⟩
    g_Hall := PySem.W.mg_of X G aC
    nf_tasks := nf_tasks
    nf_machines := nf_machines
    nf_runs := nf_runs
    nf_next_run := nf_next_run
    nf_pages := nf_pages
    nf_done := nf_done
    nf_dealing := nf_dealing
    is_number := ⟨F0, PySem.W.mg_of X G a0, F0.binds (ps := ["value", "low", "high"]) fun _ _ _ _ _ _ us hl => match us, hl with | [_, _, _], _ => rfl⟩
    is_question := ⟨F1, PySem.W.mg_of X G a1, F1.binds (ps := ["value"]) fun _ _ _ _ _ _ us hl => match us, hl with | [_], _ => rfl⟩
    is_seed := ⟨F2, PySem.W.mg_of X G a2, F2.binds (ps := ["value"]) fun _ _ _ _ _ _ us hl => match us, hl with | [_], _ => rfl⟩
    is_divisor := ⟨F3, PySem.W.mg_of X G a3, F3.binds (ps := ["value"]) fun _ _ _ _ _ _ us hl => match us, hl with | [_], _ => rfl⟩
    is_known := ⟨F4, PySem.W.mg_of X G a4, F4.binds (ps := ["numbers"]) fun _ _ _ _ _ _ us hl => match us, hl with | [_], _ => rfl⟩
    is_test := ⟨F5, PySem.W.mg_of X G a5, F5.binds (ps := ["test"]) fun _ _ _ _ _ _ us hl => match us, hl with | [_], _ => rfl⟩
    is_answer := ⟨F6, PySem.W.mg_of X G a6, F6.binds (ps := ["answer"]) fun _ _ _ _ _ _ us hl => match us, hl with | [_], _ => rfl⟩
    is_row := ⟨F7, PySem.W.mg_of X G a7, F7.binds (ps := ["row"]) fun _ _ _ _ _ _ us hl => match us, hl with | [_], _ => rfl⟩
    check_machine := ⟨F8, PySem.W.mg_of X G a8, F8.binds (ps := ["machine"]) fun _ _ _ _ _ _ us hl => match us, hl with | [_], _ => rfl⟩
    check_seed := ⟨F9, PySem.W.mg_of X G a9, F9.binds (ps := ["seed"]) fun _ _ _ _ _ _ us hl => match us, hl with | [_], _ => rfl⟩
    does_hold := ⟨F10, PySem.W.mg_of X G a10, F10.binds (ps := ["test", "question", "seed"]) fun _ _ _ _ _ _ us hl => match us, hl with | [_, _, _], _ => rfl⟩
    outcome := ⟨F11, PySem.W.mg_of X G a11, F11.binds (ps := ["answer", "question"]) fun _ _ _ _ _ _ us hl => match us, hl with | [_, _], _ => rfl⟩
    run := ⟨F12, PySem.W.mg_of X G a12, F12.binds (ps := ["machine", "question", "seed"]) fun _ _ _ _ _ _ us hl => match us, hl with | [_, _, _], _ => rfl⟩
    smallest := ⟨F13, PySem.W.mg_of X G a13, F13.binds (ps := ["over", "under"]) fun _ _ _ _ _ _ us hl => match us, hl with | [_, _], _ => rfl⟩
    is_ranked := ⟨F14, PySem.W.mg_of X G a14, F14.binds (ps := ["brought"]) fun _ _ _ _ _ _ us hl => match us, hl with | [_], _ => rfl⟩
    weighted := ⟨F15, PySem.W.mg_of X G a15, F15.binds (ps := ["weight", "runs"]) fun _ _ _ _ _ _ us hl => match us, hl with | [_, _], _ => rfl⟩
    mean_of := ⟨F16, PySem.W.mg_of X G a16, F16.binds (ps := ["brought"]) fun _ _ _ _ _ _ us hl => match us, hl with | [_], _ => rfl⟩
    ranks_by := ⟨F17, PySem.W.mg_of X G a17, F17.binds (ps := ["means"]) fun _ _ _ _ _ _ us hl => match us, hl with | [_], _ => rfl⟩
    changes := ⟨F18, PySem.W.mg_of X G a18, F18.binds (ps := ["before", "now"]) fun _ _ _ _ _ _ us hl => match us, hl with | [_, _], _ => rfl⟩
    is_due := ⟨F19, PySem.W.mg_of X G a19, F19.binds (ps := ["value"]) fun _ _ _ _ _ _ us hl => match us, hl with | [_], _ => rfl⟩
    is_twin := ⟨F20, PySem.W.mg_of X G a20, F20.binds (ps := ["twin"]) fun _ _ _ _ _ _ us hl => match us, hl with | [_], _ => rfl⟩
    is_asked := ⟨F21, PySem.W.mg_of X G a21, F21.binds (ps := ["asked"]) fun _ _ _ _ _ _ us hl => match us, hl with | [_], _ => rfl⟩
    is_framed := ⟨F22, PySem.W.mg_of X G a22, F22.binds (ps := ["task"]) fun _ _ _ _ _ _ us hl => match us, hl with | [_], _ => rfl⟩
    check_task := ⟨F23, PySem.W.mg_of X G a23, F23.binds (ps := ["task"]) fun _ _ _ _ _ _ us hl => match us, hl with | [_], _ => rfl⟩
    right_ones := ⟨F24, PySem.W.mg_of X G a24, F24.binds (ps := ["machine", "task", "seed"]) fun _ _ _ _ _ _ us hl => match us, hl with | [_, _, _], _ => rfl⟩
    count_right := ⟨F25, PySem.W.mg_of X G a25, F25.binds (ps := ["machine", "task", "seed"]) fun _ _ _ _ _ _ us hl => match us, hl with | [_, _, _], _ => rfl⟩
    check_name := ⟨F26, PySem.W.mg_of X G a26, F26.binds (ps := ["name"]) fun _ _ _ _ _ _ us hl => match us, hl with | [_], _ => rfl⟩
    is_told := ⟨F27, PySem.W.mg_of X G a27, F27.binds (ps := ["name", "table"]) fun _ _ _ _ _ _ us hl => match us, hl with | [_, _], _ => rfl⟩
    Hall___init__ := ⟨F28, ⟨a28, i28, k28⟩, F28.binds (ps := ["self"]) fun _ _ _ _ _ _ us hl => match us, hl with | [_], _ => rfl⟩
    Hall_check_machine_told := ⟨F29, ⟨a29, i29, k29⟩, F29.binds (ps := ["self", "name"]) fun _ _ _ _ _ _ us hl => match us, hl with | [_, _], _ => rfl⟩
    Hall_check_page := ⟨F30, ⟨a30, i30, k30⟩, F30.binds (ps := ["self", "number"]) fun _ _ _ _ _ _ us hl => match us, hl with | [_, _], _ => rfl⟩
    Hall_brought := ⟨F31, ⟨a31, i31, k31⟩, F31.binds (ps := ["self", "name"]) fun _ _ _ _ _ _ us hl => match us, hl with | [_, _], _ => rfl⟩
    Hall_runs_in := ⟨F32, ⟨a32, i32, k32⟩, F32.binds (ps := ["self", "name", "of_task"]) fun _ _ _ _ _ _ us hl => match us, hl with | [_, _, _], _ => rfl⟩
    Hall_means := ⟨F33, ⟨a33, i33, k33⟩, F33.binds (ps := ["self"]) fun _ _ _ _ _ _ us hl => match us, hl with | [_], _ => rfl⟩
    Hall_ranks_now := ⟨F34, ⟨a34, i34, k34⟩, F34.binds (ps := ["self"]) fun _ _ _ _ _ _ us hl => match us, hl with | [_], _ => rfl⟩
    Hall_come_to := ⟨F35, ⟨a35, i35, k35⟩, F35.binds (ps := ["self", "machine", "task", "seed"]) fun _ _ _ _ _ _ us hl => match us, hl with | [_, _, _, _], _ => rfl⟩
    Hall_score_anew := ⟨F36, ⟨a36, i36, k36⟩, F36.binds (ps := ["self", "name"]) fun _ _ _ _ _ _ us hl => match us, hl with | [_, _], _ => rfl⟩
    Hall_task := ⟨F37, ⟨a37, i37, k37⟩, F37.binds (ps := ["self", "name", "task"]) fun _ _ _ _ _ _ us hl => match us, hl with | [_, _, _], _ => rfl⟩
    Hall_machine := ⟨F38, ⟨a38, i38, k38⟩, F38.binds (ps := ["self", "name", "machine"]) fun _ _ _ _ _ _ us hl => match us, hl with | [_, _, _], _ => rfl⟩
    Hall_tell := ⟨F39, ⟨a39, i39, k39⟩, F39.binds (ps := ["self", "machine", "task", "seed", "score"]) fun _ _ _ _ _ _ us hl => match us, hl with | [_, _, _, _, _], _ => rfl⟩
    Hall_strike := ⟨F40, ⟨a40, i40, k40⟩, F40.binds (ps := ["self", "number"]) fun _ _ _ _ _ _ us hl => match us, hl with | [_, _], _ => rfl⟩
    Hall_ranks := ⟨F41, ⟨a41, i41, k41⟩, F41.binds (ps := ["self"]) fun _ _ _ _ _ _ us hl => match us, hl with | [_], _ => rfl⟩
    Hall_page := ⟨F42, ⟨a42, i42, k42⟩, F42.binds (ps := ["self", "number"]) fun _ _ _ _ _ _ us hl => match us, hl with | [_, _], _ => rfl⟩
    Hall_deeds := ⟨F43, ⟨a43, i43, k43⟩, F43.binds (ps := ["self"]) fun _ _ _ _ _ _ us hl => match us, hl with | [_], _ => rfl⟩
    dice := ⟨F44, PySem.W.mg_of X G a44, F44.binds (ps := ["_law_script", "_law_k"]) fun _ _ _ _ _ _ us hl => match us, hl with | [_, _], _ => rfl⟩
    off := ⟨F45, PySem.W.mg_of X G a45, F45.binds (ps := ["_law_d", "_law_upto"]) fun _ _ _ _ _ _ us hl => match us, hl with | [_, _], _ => rfl⟩
    mixed := ⟨F46, PySem.W.mg_of X G a46, F46.binds (ps := ["_law_d", "_law_row"]) fun _ _ _ _ _ _ us hl => match us, hl with | [_, _], _ => rfl⟩
    word_of := ⟨F47, PySem.W.mg_of X G a47, F47.binds (ps := ["_law_work"]) fun _ _ _ _ _ _ us hl => match us, hl with | [_], _ => rfl⟩
    are := ⟨F48, PySem.W.mg_of X G a48, F48.binds (ps := ["_law_works", "_law_name"]) fun _ _ _ _ _ _ us hl => match us, hl with | [_, _], _ => rfl⟩
    test := ⟨F49, PySem.W.mg_of X G a49, F49.binds (ps := ["_law_d"]) fun _ _ _ _ _ _ us hl => match us, hl with | [_], _ => rfl⟩
    answer := ⟨F50, PySem.W.mg_of X G a50, F50.binds (ps := ["_law_d"]) fun _ _ _ _ _ _ us hl => match us, hl with | [_], _ => rfl⟩
    machine := ⟨F51, PySem.W.mg_of X G a51, F51.binds (ps := ["_law_d"]) fun _ _ _ _ _ _ us hl => match us, hl with | [_], _ => rfl⟩
    told := ⟨F52, PySem.W.mg_of X G a52, F52.binds (ps := ["_law_machine_here", "_law_question", "_law_grain"]) fun _ _ _ _ _ _ us hl => match us, hl with | [_, _, _], _ => rfl⟩
    task := ⟨F53, PySem.W.mg_of X G a53, F53.binds (ps := ["_law_d", "_law_machine_here"]) fun _ _ _ _ _ _ us hl => match us, hl with | [_, _], _ => rfl⟩
    law := ⟨F54, PySem.W.mg_of X G a54, F54.binds (ps := ["_law_script"]) fun _ _ _ _ _ _ us hl => match us, hl with | [_], _ => rfl⟩
  }
  exact ⟨_, fun s v => .of_eq rfl, fun base _ _ TB_law => ok_law (A := A) T TB_law⟩
noncomputable section
theorem h_int {K : PySem.W.Frag} {x : Str} {i : Int} (c : (He.Fa.int x i).ok K = true) : ∃ v, PySem.W.nsIn K mainGlobals x = some (some v) ∧ RelV (.int i) v := by
  have c2 : (match PySem.W.nsIn K mainGlobals x with
    | some (some (.int j _)) => decide (j = i)
    | _ => false) = true := c
  cases e : PySem.W.nsIn K mainGlobals x with
  | none =>
    rw [e] at c2
    cases c2
  | some o =>
    rw [e] at c2
    cases o with
    | none => cases c2
    | some v =>
      cases v with
      | int j t =>
        have ej : j = i := of_decide_eq_true c2
        exact ⟨_, rfl, t, by rw [ej]⟩
      | _ => cases c2
theorem h_str {K : PySem.W.Frag} {x z : Str} (c : (He.Fa.str x z).ok K = true) : ∃ v, PySem.W.nsIn K mainGlobals x = some (some v) ∧ RelV (.str z) v := by
  have c2 : (match PySem.W.nsIn K mainGlobals x with
    | some (some (.str y _)) => decide (y = z)
    | _ => false) = true := c
  cases e : PySem.W.nsIn K mainGlobals x with
  | none =>
    rw [e] at c2
    cases c2
  | some o =>
    rw [e] at c2
    cases o with
    | none => cases c2
    | some v =>
      cases v with
      | str y t =>
        have ej : y = z := of_decide_eq_true c2
        exact ⟨_, rfl, t, by rw [ej]⟩
      | _ => cases c2
theorem hfacts {l : PySem.W.OpenLaw} {w : World} {K : PySem.W.Frag} {h : Heap} {mg : Str → Option Value} {fa : Addr} (X : K.In h) (G : h.Ns mainGlobals mg) (hm : mg "law" = some (.ref fa)) (c : He.SaysE hfa hfn K) (ex : hex K = true)
    : ∃ fd : FuncData, (∀ (s : Shared) (v : Value), BindsTo s fd ⟨[v], []⟩ [("_law_script", v)]) ∧ ∀ base : Heap, K.In base → base.Ns mainGlobals mg → LamX.TabB base mg (He.cT K ("law", none)).1 (He.cT K ("law", none)).2 → FnOk l.prog w K mg base CX0 15 fa fd ["_law_script"] (spLawT K (He.cT K ("law", none)).2) := by
  obtain ⟨ex, exx⟩ := He.ba ex
  obtain ⟨xg, xr0⟩ := He.ba exx
  obtain ⟨xx_TooMany, xr1⟩ := He.ba xr0
  obtain ⟨xx_Taken, xr2⟩ := He.ba xr1
  obtain ⟨_, _, _, _, _, _, _, _, _, l0, c0⟩ := c.def_ 0 (d := hd_is_number) rfl
  obtain ⟨_, _, _, _, _, _, _, _, _, l1, c1⟩ := c.def_ 1 (d := hd_is_question) rfl
  obtain ⟨_, _, _, _, _, _, _, _, _, l2, c2⟩ := c.def_ 2 (d := hd_is_seed) rfl
  obtain ⟨_, _, _, _, _, _, _, _, _, l3, c3⟩ := c.def_ 3 (d := hd_is_divisor) rfl
  obtain ⟨_, _, _, _, _, _, _, _, _, l4, c4⟩ := c.def_ 4 (d := hd_is_known) rfl
  obtain ⟨_, _, _, _, _, _, _, _, _, l5, c5⟩ := c.def_ 5 (d := hd_is_test) rfl
  obtain ⟨_, _, _, _, _, _, _, _, _, l6, c6⟩ := c.def_ 6 (d := hd_is_answer) rfl
  obtain ⟨_, _, _, _, _, _, _, _, _, l7, c7⟩ := c.def_ 7 (d := hd_is_row) rfl
  obtain ⟨_, _, _, _, _, _, _, _, _, l8, c8⟩ := c.def_ 8 (d := hd_check_machine) rfl
  obtain ⟨_, _, _, _, _, _, _, _, _, l9, c9⟩ := c.def_ 9 (d := hd_check_seed) rfl
  obtain ⟨_, _, _, _, _, _, _, _, _, l10, c10⟩ := c.def_ 10 (d := hd_does_hold) rfl
  obtain ⟨_, _, _, _, _, _, _, _, _, l11, c11⟩ := c.def_ 11 (d := hd_outcome) rfl
  obtain ⟨_, _, _, _, _, _, _, _, _, l12, c12⟩ := c.def_ 12 (d := hd_run) rfl
  obtain ⟨_, _, _, _, _, _, _, _, _, l13, c13⟩ := c.def_ 13 (d := hd_smallest) rfl
  obtain ⟨_, _, _, _, _, _, _, _, _, l14, c14⟩ := c.def_ 14 (d := hd_is_ranked) rfl
  obtain ⟨_, _, _, _, _, _, _, _, _, l15, c15⟩ := c.def_ 15 (d := hd_weighted) rfl
  obtain ⟨_, _, _, _, _, _, _, _, _, l16, c16⟩ := c.def_ 16 (d := hd_mean_of) rfl
  obtain ⟨_, _, _, _, _, _, _, _, _, l17, c17⟩ := c.def_ 17 (d := hd_ranks_by) rfl
  obtain ⟨_, _, _, _, _, _, _, _, _, l18, c18⟩ := c.def_ 18 (d := hd_changes) rfl
  obtain ⟨_, _, _, _, _, _, _, _, _, l19, c19⟩ := c.def_ 19 (d := hd_is_due) rfl
  obtain ⟨_, _, _, _, _, _, _, _, _, l20, c20⟩ := c.def_ 20 (d := hd_is_twin) rfl
  obtain ⟨_, _, _, _, _, _, _, _, _, l21, c21⟩ := c.def_ 21 (d := hd_is_asked) rfl
  obtain ⟨_, _, _, _, _, _, _, _, _, l22, c22⟩ := c.def_ 22 (d := hd_is_framed) rfl
  obtain ⟨_, _, _, _, _, _, _, _, _, l23, c23⟩ := c.def_ 23 (d := hd_check_task) rfl
  obtain ⟨_, _, _, _, _, _, _, _, _, l24, c24⟩ := c.def_ 24 (d := hd_right_ones) rfl
  obtain ⟨_, _, _, _, _, _, _, _, _, l25, c25⟩ := c.def_ 25 (d := hd_count_right) rfl
  obtain ⟨_, _, _, _, _, _, _, _, _, l26, c26⟩ := c.def_ 26 (d := hd_check_name) rfl
  obtain ⟨_, _, _, _, _, _, _, _, _, l27, c27⟩ := c.def_ 27 (d := hd_is_told) rfl
  obtain ⟨_, _, _, _, _, _, _, _, _, l28, c28⟩ := c.def_ 28 (d := hd_Hall___init__) rfl
  obtain ⟨_, _, _, _, _, _, _, _, _, l29, c29⟩ := c.def_ 29 (d := hd_Hall_check_machine_told) rfl
  obtain ⟨_, _, _, _, _, _, _, _, _, l30, c30⟩ := c.def_ 30 (d := hd_Hall_check_page) rfl
  obtain ⟨_, _, _, _, _, _, _, _, _, l31, c31⟩ := c.def_ 31 (d := hd_Hall_brought) rfl
  obtain ⟨_, _, _, _, _, _, _, _, _, l32, c32⟩ := c.def_ 32 (d := hd_Hall_runs_in) rfl
  obtain ⟨_, _, _, _, _, _, _, _, _, l33, c33⟩ := c.def_ 33 (d := hd_Hall_means) rfl
  obtain ⟨_, _, _, _, _, _, _, _, _, l34, c34⟩ := c.def_ 34 (d := hd_Hall_ranks_now) rfl
  obtain ⟨_, _, _, _, _, _, _, _, _, l35, c35⟩ := c.def_ 35 (d := hd_Hall_come_to) rfl
  obtain ⟨_, _, _, _, _, _, _, _, _, l36, c36⟩ := c.def_ 36 (d := hd_Hall_score_anew) rfl
  obtain ⟨_, _, _, _, _, _, _, _, _, l37, c37⟩ := c.def_ 37 (d := hd_Hall_task) rfl
  obtain ⟨_, _, _, _, _, _, _, _, _, l38, c38⟩ := c.def_ 38 (d := hd_Hall_machine) rfl
  obtain ⟨_, _, _, _, _, _, _, _, _, l39, c39⟩ := c.def_ 39 (d := hd_Hall_tell) rfl
  obtain ⟨_, _, _, _, _, _, _, _, _, l40, c40⟩ := c.def_ 40 (d := hd_Hall_strike) rfl
  obtain ⟨_, _, _, _, _, _, _, _, _, l41, c41⟩ := c.def_ 41 (d := hd_Hall_ranks) rfl
  obtain ⟨_, _, _, _, _, _, _, _, _, l42, c42⟩ := c.def_ 42 (d := hd_Hall_page) rfl
  obtain ⟨_, _, _, _, _, _, _, _, _, l43, c43⟩ := c.def_ 43 (d := hd_Hall_deeds) rfl
  obtain ⟨_, _, _, _, _, _, _, _, _, l44, c44⟩ := c.def_ 44 (d := hd_dice) rfl
  obtain ⟨_, _, _, _, _, _, _, _, _, l45, c45⟩ := c.def_ 45 (d := hd_off) rfl
  obtain ⟨_, _, _, _, _, _, _, _, _, l46, c46⟩ := c.def_ 46 (d := hd_mixed) rfl
  obtain ⟨_, _, _, _, _, _, _, _, _, l47, c47⟩ := c.def_ 47 (d := hd_word_of) rfl
  obtain ⟨_, _, _, _, _, _, _, _, _, l48, c48⟩ := c.def_ 48 (d := hd_are) rfl
  obtain ⟨_, _, _, _, _, _, _, _, _, l49, c49⟩ := c.def_ 49 (d := hd_test) rfl
  obtain ⟨_, _, _, _, _, _, _, _, _, l50, c50⟩ := c.def_ 50 (d := hd_answer) rfl
  obtain ⟨_, _, _, _, _, _, _, _, _, l51, c51⟩ := c.def_ 51 (d := hd_machine) rfl
  obtain ⟨_, _, _, _, _, _, _, _, _, l52, c52⟩ := c.def_ 52 (d := hd_told) rfl
  obtain ⟨_, _, _, _, _, _, _, _, _, l53, c53⟩ := c.def_ 53 (d := hd_task) rfl
  obtain ⟨_, _, _, _, _, _, _, _, _, l54, c54⟩ := c.def_ 54 (d := hd_law) rfl
  obtain ⟨_, y_LAST_QUESTION, r_LAST_QUESTION⟩ := h_int (c.fact 17 (f := .int "LAST_QUESTION" 9999) rfl)
  obtain ⟨_, y_LAST_SEED, r_LAST_SEED⟩ := h_int (c.fact 18 (f := .int "LAST_SEED" 999) rfl)
  obtain ⟨_, y_MOST_ROWS, r_MOST_ROWS⟩ := h_int (c.fact 19 (f := .int "MOST_ROWS" 12) rfl)
  obtain ⟨_, y_MOST_KNOWN, r_MOST_KNOWN⟩ := h_int (c.fact 20 (f := .int "MOST_KNOWN" 8) rfl)
  obtain ⟨_, y_LEAST_DIVISOR, r_LEAST_DIVISOR⟩ := h_int (c.fact 21 (f := .int "LEAST_DIVISOR" 2) rfl)
  obtain ⟨_, y_MOST_DIVISOR, r_MOST_DIVISOR⟩ := h_int (c.fact 22 (f := .int "MOST_DIVISOR" 99) rfl)
  obtain ⟨_, y_MOST_IN_ANSWER, r_MOST_IN_ANSWER⟩ := h_int (c.fact 23 (f := .int "MOST_IN_ANSWER" 9999) rfl)
  obtain ⟨_, y_SIXTIETHS, r_SIXTIETHS⟩ := h_int (c.fact 24 (f := .int "SIXTIETHS" 60) rfl)
  obtain ⟨_, y_MOST_QUESTIONS, r_MOST_QUESTIONS⟩ := h_int (c.fact 25 (f := .int "MOST_QUESTIONS" 16) rfl)
  obtain ⟨_, y_MOST_DUE, r_MOST_DUE⟩ := h_int (c.fact 26 (f := .int "MOST_DUE" 99999999) rfl)
  obtain ⟨_, y_MOST_WEIGHT, r_MOST_WEIGHT⟩ := h_int (c.fact 27 (f := .int "MOST_WEIGHT" 9) rfl)
  obtain ⟨_, y_MOST_LETTERS, r_MOST_LETTERS⟩ := h_int (c.fact 28 (f := .int "MOST_LETTERS" 6) rfl)
  obtain ⟨_, y_MOST_TASKS, r_MOST_TASKS⟩ := h_int (c.fact 29 (f := .int "MOST_TASKS" 4) rfl)
  obtain ⟨_, y_MOST_MACHINES, r_MOST_MACHINES⟩ := h_int (c.fact 30 (f := .int "MOST_MACHINES" 6) rfl)
  obtain ⟨_, y_MOST_RUNS, r_MOST_RUNS⟩ := h_int (c.fact 31 (f := .int "MOST_RUNS" 5) rfl)
  obtain ⟨pgC, q1⟩ := He.ba (c.fact 33 (f := .cls "Hall") rfl)
  obtain ⟨hdC, q2⟩ := He.ba q1
  obtain ⟨poC, q3⟩ := He.ba q2
  have saC := He.eqO_ok q3
  obtain ⟨mkC, q4⟩ := He.ba (c.fact 34 (f := .mkr "Hall") rfl)
  obtain ⟨q5, q6⟩ := He.ba q4
  obtain ⟨q7, kcC⟩ := He.ba q6
  obtain ⟨m28, n28⟩ := He.ba (c.fact 98 (f := .meth "Hall" "__init__") rfl)
  obtain ⟨i28, k28⟩ := He.ba n28
  obtain ⟨m29, n29⟩ := He.ba (c.fact 99 (f := .meth "Hall" "check_machine_told") rfl)
  obtain ⟨i29, k29⟩ := He.ba n29
  obtain ⟨m30, n30⟩ := He.ba (c.fact 100 (f := .meth "Hall" "check_page") rfl)
  obtain ⟨i30, k30⟩ := He.ba n30
  obtain ⟨m31, n31⟩ := He.ba (c.fact 101 (f := .meth "Hall" "brought") rfl)
  obtain ⟨i31, k31⟩ := He.ba n31
  obtain ⟨m32, n32⟩ := He.ba (c.fact 102 (f := .meth "Hall" "runs_in") rfl)
  obtain ⟨i32, k32⟩ := He.ba n32
  obtain ⟨m33, n33⟩ := He.ba (c.fact 103 (f := .meth "Hall" "means") rfl)
  obtain ⟨i33, k33⟩ := He.ba n33
  obtain ⟨m34, n34⟩ := He.ba (c.fact 104 (f := .meth "Hall" "ranks_now") rfl)
  obtain ⟨i34, k34⟩ := He.ba n34
  obtain ⟨m35, n35⟩ := He.ba (c.fact 105 (f := .meth "Hall" "come_to") rfl)
  obtain ⟨i35, k35⟩ := He.ba n35
  obtain ⟨m36, n36⟩ := He.ba (c.fact 106 (f := .meth "Hall" "score_anew") rfl)
  obtain ⟨i36, k36⟩ := He.ba n36
  obtain ⟨m37, n37⟩ := He.ba (c.fact 107 (f := .meth "Hall" "task") rfl)
  obtain ⟨i37, k37⟩ := He.ba n37
  obtain ⟨m38, n38⟩ := He.ba (c.fact 108 (f := .meth "Hall" "machine") rfl)
  obtain ⟨i38, k38⟩ := He.ba n38
  obtain ⟨m39, n39⟩ := He.ba (c.fact 109 (f := .meth "Hall" "tell") rfl)
  obtain ⟨i39, k39⟩ := He.ba n39
  obtain ⟨m40, n40⟩ := He.ba (c.fact 110 (f := .meth "Hall" "strike") rfl)
  obtain ⟨i40, k40⟩ := He.ba n40
  obtain ⟨m41, n41⟩ := He.ba (c.fact 111 (f := .meth "Hall" "ranks") rfl)
  obtain ⟨i41, k41⟩ := He.ba n41
  obtain ⟨m42, n42⟩ := He.ba (c.fact 112 (f := .meth "Hall" "page") rfl)
  obtain ⟨i42, k42⟩ := He.ba n42
  obtain ⟨m43, n43⟩ := He.ba (c.fact 113 (f := .meth "Hall" "deeds") rfl)
  obtain ⟨i43, k43⟩ := He.ba n43
  exact all_mk X G hm (He.eqO_ok (c.fact 32 (f := .glo "Hall") rfl)) pgC hdC poC saC mkC kcC (He.eqO_ok (c.fact 35 (f := .noat "Hall" "tasks") rfl)) (He.eqO_ok (c.fact 36 (f := .noat "Hall" "machines") rfl)) (He.eqO_ok (c.fact 37 (f := .noat "Hall" "runs") rfl)) (He.eqO_ok (c.fact 38 (f := .noat "Hall" "next_run") rfl)) (He.eqO_ok (c.fact 39 (f := .noat "Hall" "pages") rfl)) (He.eqO_ok (c.fact 40 (f := .noat "Hall" "done") rfl)) (He.eqO_ok (c.fact 41 (f := .noat "Hall" "dealing") rfl)) (He.eqO_ok (c.fact 42 (f := .glo "is_number") rfl)) l0 c0 (c.fact 43 (f := .keep "is_number") rfl) (He.eqO_ok (c.fact 44 (f := .glo "is_question") rfl)) l1 c1 (c.fact 45 (f := .keep "is_question") rfl) (He.eqO_ok (c.fact 46 (f := .glo "is_seed") rfl)) l2 c2 (c.fact 47 (f := .keep "is_seed") rfl) (He.eqO_ok (c.fact 48 (f := .glo "is_divisor") rfl)) l3 c3 (c.fact 49 (f := .keep "is_divisor") rfl) (He.eqO_ok (c.fact 50 (f := .glo "is_known") rfl)) l4 c4 (c.fact 51 (f := .keep "is_known") rfl) (He.eqO_ok (c.fact 52 (f := .glo "is_test") rfl)) l5 c5 (c.fact 53 (f := .keep "is_test") rfl) (He.eqO_ok (c.fact 54 (f := .glo "is_answer") rfl)) l6 c6 (c.fact 55 (f := .keep "is_answer") rfl) (He.eqO_ok (c.fact 56 (f := .glo "is_row") rfl)) l7 c7 (c.fact 57 (f := .keep "is_row") rfl) (He.eqO_ok (c.fact 58 (f := .glo "check_machine") rfl)) l8 c8 (c.fact 59 (f := .keep "check_machine") rfl) (He.eqO_ok (c.fact 60 (f := .glo "check_seed") rfl)) l9 c9 (c.fact 61 (f := .keep "check_seed") rfl) (He.eqO_ok (c.fact 62 (f := .glo "does_hold") rfl)) l10 c10 (c.fact 63 (f := .keep "does_hold") rfl) (He.eqO_ok (c.fact 64 (f := .glo "outcome") rfl)) l11 c11 (c.fact 65 (f := .keep "outcome") rfl) (He.eqO_ok (c.fact 66 (f := .glo "run") rfl)) l12 c12 (c.fact 67 (f := .keep "run") rfl) (He.eqO_ok (c.fact 68 (f := .glo "smallest") rfl)) l13 c13 (c.fact 69 (f := .keep "smallest") rfl) (He.eqO_ok (c.fact 70 (f := .glo "is_ranked") rfl)) l14 c14 (c.fact 71 (f := .keep "is_ranked") rfl) (He.eqO_ok (c.fact 72 (f := .glo "weighted") rfl)) l15 c15 (c.fact 73 (f := .keep "weighted") rfl) (He.eqO_ok (c.fact 74 (f := .glo "mean_of") rfl)) l16 c16 (c.fact 75 (f := .keep "mean_of") rfl) (He.eqO_ok (c.fact 76 (f := .glo "ranks_by") rfl)) l17 c17 (c.fact 77 (f := .keep "ranks_by") rfl) (He.eqO_ok (c.fact 78 (f := .glo "changes") rfl)) l18 c18 (c.fact 79 (f := .keep "changes") rfl) (He.eqO_ok (c.fact 80 (f := .glo "is_due") rfl)) l19 c19 (c.fact 81 (f := .keep "is_due") rfl) (He.eqO_ok (c.fact 82 (f := .glo "is_twin") rfl)) l20 c20 (c.fact 83 (f := .keep "is_twin") rfl) (He.eqO_ok (c.fact 84 (f := .glo "is_asked") rfl)) l21 c21 (c.fact 85 (f := .keep "is_asked") rfl) (He.eqO_ok (c.fact 86 (f := .glo "is_framed") rfl)) l22 c22 (c.fact 87 (f := .keep "is_framed") rfl) (He.eqO_ok (c.fact 88 (f := .glo "check_task") rfl)) l23 c23 (c.fact 89 (f := .keep "check_task") rfl) (He.eqO_ok (c.fact 90 (f := .glo "right_ones") rfl)) l24 c24 (c.fact 91 (f := .keep "right_ones") rfl) (He.eqO_ok (c.fact 92 (f := .glo "count_right") rfl)) l25 c25 (c.fact 93 (f := .keep "count_right") rfl) (He.eqO_ok (c.fact 94 (f := .glo "check_name") rfl)) l26 c26 (c.fact 95 (f := .keep "check_name") rfl) (He.eqO_ok (c.fact 96 (f := .glo "is_told") rfl)) l27 c27 (c.fact 97 (f := .keep "is_told") rfl) (He.eqO_ok m28) i28 l28 c28 k28 (He.eqO_ok m29) i29 l29 c29 k29 (He.eqO_ok m30) i30 l30 c30 k30 (He.eqO_ok m31) i31 l31 c31 k31 (He.eqO_ok m32) i32 l32 c32 k32 (He.eqO_ok m33) i33 l33 c33 k33 (He.eqO_ok m34) i34 l34 c34 k34 (He.eqO_ok m35) i35 l35 c35 k35 (He.eqO_ok m36) i36 l36 c36 k36 (He.eqO_ok m37) i37 l37 c37 k37 (He.eqO_ok m38) i38 l38 c38 k38 (He.eqO_ok m39) i39 l39 c39 k39 (He.eqO_ok m40) i40 l40 c40 k40 (He.eqO_ok m41) i41 l41 c41 k41 (He.eqO_ok m42) i42 l42 c42 k42 (He.eqO_ok m43) i43 l43 c43 k43 (He.eqO_ok (c.fact 114 (f := .glo "_law_dice") rfl)) l44 c44 (c.fact 115 (f := .keep "_law_dice") rfl) (He.eqO_ok (c.fact 116 (f := .glo "_law_off") rfl)) l45 c45 (c.fact 117 (f := .keep "_law_off") rfl) (He.eqO_ok (c.fact 118 (f := .glo "_law_mixed") rfl)) l46 c46 (c.fact 119 (f := .keep "_law_mixed") rfl) (He.eqO_ok (c.fact 120 (f := .glo "_law_word_of") rfl)) l47 c47 (c.fact 121 (f := .keep "_law_word_of") rfl) (He.eqO_ok (c.fact 122 (f := .glo "_law_are") rfl)) l48 c48 (c.fact 123 (f := .keep "_law_are") rfl) (He.eqO_ok (c.fact 124 (f := .glo "_law_test") rfl)) l49 c49 (c.fact 125 (f := .keep "_law_test") rfl) (He.eqO_ok (c.fact 126 (f := .glo "_law_answer") rfl)) l50 c50 (c.fact 127 (f := .keep "_law_answer") rfl) (He.eqO_ok (c.fact 128 (f := .glo "_law_machine") rfl)) l51 c51 (c.fact 129 (f := .keep "_law_machine") rfl) (He.eqO_ok (c.fact 130 (f := .glo "_law_told") rfl)) l52 c52 (c.fact 131 (f := .keep "_law_told") rfl) (He.eqO_ok (c.fact 132 (f := .glo "_law_task") rfl)) l53 c53 (c.fact 133 (f := .keep "_law_task") rfl) (He.eqO_ok (c.fact 134 (f := .glo "law") rfl)) l54 c54 (c.fact 135 (f := .keep "law") rfl) (He.eqO_ok (c.fact 0 (f := .free "ValueError") rfl)) (He.eqO_ok (c.fact 1 (f := .free "abs") rfl)) (He.eqO_ok (c.fact 2 (f := .free "all") rfl)) (He.eqO_ok (c.fact 3 (f := .free "bool") rfl)) (He.eqO_ok (c.fact 4 (f := .free "enumerate") rfl)) (He.eqO_ok (c.fact 5 (f := .free "int") rfl)) (He.eqO_ok (c.fact 6 (f := .free "isinstance") rfl)) (He.eqO_ok (c.fact 7 (f := .free "len") rfl)) (He.eqO_ok (c.fact 8 (f := .free "list") rfl)) (He.eqO_ok (c.fact 9 (f := .free "max") rfl)) (He.eqO_ok (c.fact 10 (f := .free "range") rfl)) (He.eqO_ok (c.fact 11 (f := .free "set") rfl)) (He.eqO_ok (c.fact 12 (f := .free "sorted") rfl)) (He.eqO_ok (c.fact 13 (f := .free "str") rfl)) (He.eqO_ok (c.fact 14 (f := .free "sum") rfl)) (He.eqO_ok (c.fact 15 (f := .free "tuple") rfl)) (He.eqO_ok (c.fact 16 (f := .free "zip") rfl)) (He.eqO_ok ex) y_LAST_QUESTION r_LAST_QUESTION y_LAST_SEED r_LAST_SEED y_MOST_ROWS r_MOST_ROWS y_MOST_KNOWN r_MOST_KNOWN y_LEAST_DIVISOR r_LEAST_DIVISOR y_MOST_DIVISOR r_MOST_DIVISOR y_MOST_IN_ANSWER r_MOST_IN_ANSWER y_SIXTIETHS r_SIXTIETHS y_MOST_QUESTIONS r_MOST_QUESTIONS y_MOST_DUE r_MOST_DUE y_MOST_WEIGHT r_MOST_WEIGHT y_MOST_LETTERS r_MOST_LETTERS y_MOST_TASKS r_MOST_TASKS y_MOST_MACHINES r_MOST_MACHINES y_MOST_RUNS r_MOST_RUNS (He.eqO_ok (List.all_eq_true.mp xg "HallError" (List.mem_of_getElem? (i := 0) rfl))) (He.eqO_ok (List.all_eq_true.mp xg "BadQuestion" (List.mem_of_getElem? (i := 1) rfl))) (He.eqO_ok (List.all_eq_true.mp xg "BadSeed" (List.mem_of_getElem? (i := 2) rfl))) (He.eqO_ok (List.all_eq_true.mp xg "BadName" (List.mem_of_getElem? (i := 3) rfl))) (He.eqO_ok (List.all_eq_true.mp xg "TooMany" (List.mem_of_getElem? (i := 4) rfl))) (He.eqO_ok (List.all_eq_true.mp xg "Taken" (List.mem_of_getElem? (i := 5) rfl))) (He.eqO_ok (List.all_eq_true.mp xg "NoMachine" (List.mem_of_getElem? (i := 6) rfl))) (He.eqO_ok (List.all_eq_true.mp xg "NoTask" (List.mem_of_getElem? (i := 7) rfl))) (He.eqO_ok (List.all_eq_true.mp xg "BadScore" (List.mem_of_getElem? (i := 8) rfl))) (He.eqO_ok (List.all_eq_true.mp xg "NoRun" (List.mem_of_getElem? (i := 9) rfl))) (He.eqO_ok (List.all_eq_true.mp xg "NotRanked" (List.mem_of_getElem? (i := 10) rfl))) (He.eqO_ok (List.all_eq_true.mp xg "BadShare" (List.mem_of_getElem? (i := 11) rfl))) (He.eqO_ok (List.all_eq_true.mp xg "NotAhead" (List.mem_of_getElem? (i := 12) rfl))) (He.eqO_ok (List.all_eq_true.mp xg "NoPage" (List.mem_of_getElem? (i := 13) rfl))) (He.eqO_ok (List.all_eq_true.mp xg "BadMachine" (List.mem_of_getElem? (i := 14) rfl))) (He.eqO_ok (List.all_eq_true.mp xg "BadText" (List.mem_of_getElem? (i := 15) rfl))) (He.eqO_ok (List.all_eq_true.mp xg "BadTask" (List.mem_of_getElem? (i := 16) rfl))) (He.eqO_ok (List.all_eq_true.mp xg "BadDeed" (List.mem_of_getElem? (i := 17) rfl))) (exRB_ok xx_TooMany) (exRB_ok xx_Taken) (code_of l54 c54)
end
end Mh

open PySem PySem.W PyProof.Rows in
set_option maxRecDepth 100000 in
set_option maxHeartbeats 0 in
theorem PySem.Challenge.cw_measurehall_k11_halls_that_are_full_holds : PySem.Challenge.rw_measurehall_k11_halls_that_are_full.Holds := by
  w_on; o_law
  refine HandSHeadRun.head_imp (r := OpenLaw.row PySem.Challenge.rw_measurehall_k11_halls_that_are_full) (q := Mh.hq) (H := Mh.hhook) (ob := Mh.hob) (M := 12000) (loose := Mh.hnames) (d := HandSHeadRun.topDef (OpenLaw.row PySem.Challenge.rw_measurehall_k11_halls_that_are_full).prog 89) (kwd := []) Mh.hob_eq
    Mh.hrun (by kernel_rfl) (by kernel_rfl) (by kernel_rfl) (by rfl) (by first | assumption | decide +kernel) (by decide +kernel) ⟨rfl, rfl, rfl, rfl, rfl, by decide +kernel⟩ ?hw ?hc
  case hw => w_witness2
  case hc =>
    refine Mh.walk_tabE (l := PySem.Challenge.rw_measurehall_k11_halls_that_are_full) (n := 63) (k := 15) (x := "_law_script") (CX := L2.CX0) rfl (by decide) (by kernel_rfl) ⟨rfl, by decide, by decide⟩ ?F (fun _ _ _ _ z => z)
    intro w mg fa h Y G hmg0
    obtain ⟨K, KX, c, tabs⟩ := Y
    obtain ⟨c1, c2⟩ := Prod.mk.inj c
    have hmg : mg ("law" : PySem.Str) = some (.ref fa) := by
      have e : (HandSHeadRun.topDef (OpenLaw.row PySem.Challenge.rw_measurehall_k11_halls_that_are_full).prog 89).name = ("law" : PySem.Str) := by kernel_rfl
      rw [← e]
      exact hmg0
    obtain ⟨fd, hb, hF⟩ := Mh.hfacts (l := PySem.Challenge.rw_measurehall_k11_halls_that_are_full) (w := w) KX G hmg c1 c2
    have tb := tabs ("law", none) List.mem_cons_self
    have one : ∀ p ∈ [He.cT K ("law", none)], p = He.cT K ("law", none) := fun p hp => List.mem_singleton.mp hp
    refine ⟨K, KX, fd, [He.cT K ("law", none)], Mh.spLawT K (He.cT K ("law", none)).2, fun p hp => ?_, fun p hp => ?_, fun p hp => ?_, hb, fun H a ns hl _ hT hS => ⟨a, ns, rfl, hS, hl, hT _ List.mem_cons_self, fun _ => rfl⟩, fun base hK hN hTB => hF base hK hN (hTB _ List.mem_cons_self)⟩
    · rw [one p hp]
      exact tb.2.2
    · rw [one p hp]
      exact tb.2.1
    · rw [one p hp]
      exact PySem.W.codeHd_of_K KX tb.1
