import PyProof.Rows.All
import Wide.All
import OpenK.AllK
import Wide.FinOn
import HandS.ForMost
import HandS.IsInst
import HandS.Strs
import HandS.SetFor
import HandS.TupAny
import HandS.Zip
import HandS.Walk
import HandS.Conv
import KE.GoesEnum
import HandS.Evl
import HandS.Defaults
import HandS.DictComp
import HandS.Gcd
import KE.RegKMathGC
import PyProof.DictUpdate
import HandS.SortRule
import KE.KSortTupAny
import HandS.ListItems
import HandS.Finally
import HandS.Style
import HandS.Set
import HandS.SortInts
import HandS.Wide
import KE.KRevSl
import HandS.TryOnly
import KE.KDictZip
import HandS.Lambda
import KE.KDflt
import HandS.EndTab
import HandS.ExcIs
import HandS.ExcOwn
import HandS.WordsExc
import HandS.HeadHook1
import HandS.HeadHook4
import PyProof.ExcBaseAll.ValueError
import KE.KStateDown
import HandS.Head0
import HandS.Head1
import HandS.Head2
import HandS.Head3
import HandS.HeadEnd
import PySem.Challenge.RW_measurehall_k03_questions_and_seeds_refu
set_option Elab.async false
set_option linter.all false
set_option maxRecDepth 100000
set_option maxHeartbeats 4000000
/-! Rules that the laws of Measurehall want beside the hand layer: match over tuples, enumerate over a tuple, set of a list of ints. -/
namespace Mh
open PySem L2

/-! ### match -/
abbrev BS := Option (List (Str × V))
/-- what is caught, by values and by the machine's values -/
def RelB : BS → Option (List (Str × Value)) → Prop
  | none, none => True
  | some l, some m => KV l m
  | _, _ => False
theorem kv_app {a b : List (Str × V)} {c d : List (Str × Value)} (h : KV a c) (g : KV b d) : KV (a ++ b) (c ++ d) := by
  induction h with
  | nil => exact g
  | cons r _ ih => exact .cons r ih
abbrev TP := V → St → Hp → (BS → Hp → Prop) → Prop
abbrev TPs := List V → St → Hp → (BS → Hp → Prop) → Prop
abbrev TC := V → TS
structure PP (X : Cx) (p : Pattern) (t : TP) : Prop where
  run : ∀ (pins : List (Addr × Obj)) (s : Shared) (σ : St) (H : Hp) (v : V) (u : Value) (Q : BS → Hp → Prop), Inv X pins σ H s → RelV v u → t v σ H Q →
    wpAny (model X.prog X.w) X.A (matchPattern p X.env u) (fun r s1 => ∃ r' H1, Inv X pins σ H1 s1 ∧ RelB r' r ∧ Q r' H1) X.xe s
structure PPq (X : Cx) (ps : List Pattern) (t : TPs) : Prop where
  run : ∀ (pins : List (Addr × Obj)) (s : Shared) (σ : St) (H : Hp) (vs : List V) (us : List Value) (Q : BS → Hp → Prop), Inv X pins σ H s → Vals vs us → vs.length = ps.length → t vs σ H Q →
    wpAny (model X.prog X.w) X.A (matchEach ps X.env us) (fun r s1 => ∃ r' H1, Inv X pins σ H1 s1 ∧ RelB r' r ∧ Q r' H1) X.xe s
structure PPo (X : Cx) (ps : List Pattern) (t : TP) : Prop where
  run : ∀ (pins : List (Addr × Obj)) (s : Shared) (σ : St) (H : Hp) (v : V) (u : Value) (Q : BS → Hp → Prop), Inv X pins σ H s → RelV v u → t v σ H Q →
    wpAny (model X.prog X.w) X.A (matchFirst ps X.env u) (fun r s1 => ∃ r' H1, Inv X pins σ H1 s1 ∧ RelB r' r ∧ Q r' H1) X.xe s
structure PCs (X : Cx) (cs : List MatchCase) (t : TC) : Prop where
  run : ∀ (fst : Bool) (pins : List (Addr × Obj)) (s : Shared) (σ : St) (H : Hp) (v : V) (u : Value) (D : Ends), Inv X pins σ H s → RelV v u → t v D σ H →
    wpAny (model X.prog X.w) X.A (matchCases cs X.env u fst) (SP X pins D) X.xe s
section
variable {X : Cx}
/-- a text as a pattern -/
def mStr (x : Str) : TP := fun v _ H Q => scal v (.str x) = true ∧ if v = .str x then Q (some []) H else Q none H
theorem ifp {c A B : Prop} [Decidable c] (h : c) (a : A) : if c then A else B := by
  rw [if_pos h]
  exact a
theorem ifn {c A B : Prop} [Decidable c] (h : ¬ c) (b : B) : if c then A else B := by
  rw [if_neg h]
  exact b
theorem pp_str {x : Str} {j : Nat} {p1 p2 : Pos} : PP X (.MatchValue (.Constant (.str x) j p1) p2) (mStr x) := by
  refine ⟨fun pins s σ H v u Q I r h => ?_⟩
  obtain ⟨hs, q⟩ := h
  refine wpAny_matchPattern_Value ?_
  refine thn ((pe_str (X := X)).run pins s σ H (fun y H1 => y = .str x ∧ H1 = H) I ⟨rfl, rfl⟩) fun c s1 ⟨y, H1, I1, r1, e1, e2⟩ => ?_
  subst e1 e2
  refine thn (op_eq (X := X) pins s1 σ H1 v (.str x) u c (fun y H2 => y = .bl (decide (v = .str x)) ∧ H2 = H1) I1 r r1 ⟨hs, rfl, rfl⟩) fun d s2 ⟨y, H2, I2, r2, e1, e2⟩ => ?_
  subst e1 e2
  cases r2
  refine wpAny_truthy_bool ?_
  by_cases hv : v = .str x
  · rw [decide_eq_true hv]
    refine ⟨some [], H2, I2, .nil, ?_⟩
    rw [if_pos hv] at q
    exact q
  · rw [decide_eq_false hv]
    refine ⟨none, H2, I2, True.intro, ?_⟩
    rw [if_neg hv] at q
    exact q
/-- a name as a pattern; _ -/
def mName (x : Str) : TP := fun v _ H Q => Q (some [(x, v)]) H
def mAny : TP := fun _ _ H Q => Q (some []) H
theorem pp_name {x : Str} {p : Pos} : PP X (.MatchAs none (some x) p) (mName x) :=
  ⟨fun pins s σ H v u Q I r h => wpAny_matchPattern_Capture ⟨some [(x, v)], H, I, .cons ⟨rfl, r⟩ .nil, h⟩⟩
theorem pp_any {p : Pos} : PP X (.MatchAs none none p) mAny :=
  ⟨fun pins s σ H v u Q I r h => wpAny_matchPattern_Capture ⟨some [], H, I, .nil, h⟩⟩
/-- one of some texts -/
def oNil : TP := fun _ _ H Q => Q none H
def oCons (t u : TP) : TP := fun v σ H Q => t v σ H fun r H1 => match r with
  | some bs => Q (some bs) H1
  | none => u v σ H1 Q
theorem ppo_nil : PPo X [] oNil := ⟨fun pins s σ H v u Q I r h => wpAny_matchFirst_nil ⟨none, H, I, True.intro, h⟩⟩
theorem ppo_cons {p : Pattern} {ps : List Pattern} {t u : TP} (hp : PP X p t) (hq : PPo X ps u) : PPo X (p :: ps) (oCons t u) := by
  refine ⟨fun pins s σ H v w' Q I r h => wpAny_matchFirst_cons (thn (hp.run pins s σ H v w' _ I r h) fun b s1 ⟨b', H1, I1, rb, q⟩ => ?_)⟩
  cases b with
  | none =>
    cases b' with
    | none => exact hq.run pins s1 σ H1 v w' Q I1 r q
    | some _ => exact (show False from rb).elim
  | some l =>
    cases b' with
    | none => exact (show False from rb).elim
    | some l' => exact ⟨some l', H1, I1, rb, q⟩
def mOr (t : TP) : TP := fun v σ H Q => t v σ H fun r H1 => match r with
  | some _ => Q (some []) H1
  | none => Q none H1
theorem pp_or {ps : List Pattern} {t : TP} {p : Pos} (hp : PPo X ps t) (hn : namesOfAll (ps.take 1) = [] := by rfl) : PP X (.MatchOr ps p) (mOr t) := by
  refine ⟨fun pins s σ H v u Q I r h => wpAny_matchPattern_Or (thn (hp.run pins s σ H v u _ I r h) fun b s1 ⟨b', H1, I1, rb, q⟩ => ?_)⟩
  cases b with
  | none =>
    cases b' with
    | none => exact ⟨none, H1, I1, True.intro, q⟩
    | some _ => exact (show False from rb).elim
  | some l =>
    cases b' with
    | none => exact (show False from rb).elim
    | some l' =>
      refine ⟨some [], H1, I1, ?_, q⟩
      rw [hn]
      exact .nil
/-- the items, from the left -/
def qNil : TPs := fun _ _ H Q => Q (some []) H
def qCons (t : TP) (u : TPs) : TPs := fun vs σ H Q => ∃ v r, vs = v :: r ∧ t v σ H fun b H1 => match b with
  | none => Q none H1
  | some bs => u r σ H1 fun c H2 => match c with
    | none => Q none H2
    | some cs => Q (some (bs ++ cs)) H2
theorem ppq_nil : PPq X [] qNil := ⟨fun pins s σ H vs us Q I r _ h => wpAny_matchEach_nil ⟨some [], H, I, .nil, h⟩⟩
theorem ppq_cons {p : Pattern} {ps : List Pattern} {t : TP} {u : TPs} (hp : PP X p t) (hq : PPq X ps u) (hs : p.isStar = false := by rfl) : PPq X (p :: ps) (qCons t u) := by
  refine ⟨fun pins s σ H vs us Q I r hl h => ?_⟩
  obtain ⟨v, vr, e, h⟩ := h
  subst e
  cases r with
  | cons r rr =>
    refine wpAny_matchEach_cons (thn (hp.run pins s σ H v _ _ I r h) fun b s1 ⟨b', H1, I1, rb, q⟩ => ?_) hs
    cases b with
    | none =>
      cases b' with
      | none => exact ⟨none, H1, I1, True.intro, q⟩
      | some _ => exact (show False from rb).elim
    | some l =>
      cases b' with
      | none => exact (show False from rb).elim
      | some l' =>
        refine thn (hq.run pins s1 σ H1 vr _ _ I1 rr (by simpa using hl) q) fun c s2 ⟨c', H2, I2, rc, q2⟩ => ?_
        cases c with
        | none =>
          cases c' with
          | none => exact ⟨none, H2, I2, True.intro, q2⟩
          | some _ => exact (show False from rc).elim
        | some m =>
          cases c' with
          | none => exact (show False from rc).elim
          | some m' => exact ⟨some (l' ++ m'), H2, I2, kv_app rb rc, q2⟩
def mSeq (K : PySem.W.Frag) (n : Nat) (t : TPs) : TP := fun v σ H Q => ∃ a xs, v = .ref a ∧ SqT K H a xs ∧ if xs.length = n then t xs σ H Q else Q none H
theorem pp_seq {ps : List Pattern} {t : TPs} {p : Pos} (hp : PPq X ps t) (hc : X.calm = true := by rfl) (hst : ps.findIdx? (·.isStar) = none := by rfl)
    (hw : (ps.all fun p => p.isWildcard || (p.isStar && p.names.isEmpty)) = false := by rfl) : PP X (.MatchSequence ps p) (mSeq X.K ps.length t) := by
  refine ⟨fun pins s σ H v u Q I r h => ?_⟩
  obtain ⟨a, xs, e, hq, h⟩ := h
  subst e
  cases r
  obtain ⟨its, rv, ht, hz⟩ := I.tuple hq
  have hlen := rv.length
  have hs : sizeLine = 16777216 := sizeLine_eq
  have hfit : ((its.toArray.size : Nat) : Int) < 2 ^ 63 := by
    simp only [List.size_toArray]
    omega
  by_cases hn : xs.length = ps.length
  · rw [if_pos hn] at h
    refine PyProof.Rows.matchSeq_tuple_hit ht hfit (by simp only [List.size_toArray]; omega) ?_ hst hw
    have hz2 : its.toArray.size = ps.length := by
      simp only [List.size_toArray]
      omega
    rw [← hz2]
    refine PyProof.Rows.unpackItems_tuple (I.ok.hd hc) ht fun h' hx => ?_
    exact hp.run pins _ σ H xs _ Q (I.kept (h' := h') fun b o e => hx b o (Nat.ne_of_lt (Heap.lt_size e)) e) (by simpa using rv) hn h
  · rw [if_neg hn] at h
    exact PyProof.Rows.matchSeq_tuple_miss ht hfit (by simp only [List.size_toArray]; omega) ⟨none, H, I.tok _, True.intro, h⟩ hst hw

/-! ### the cases -/
def setAll : St → List Nat → List V → St
  | σ, i :: is, v :: vs => setAll (σ.set i (some v)) is vs
  | σ, _, _ => σ
theorem bind_all {pins : List (Addr × Obj)} {H : Hp} {Q : Unit → Shared → Prop} : ∀ (own : List (Str × Nat)) (l : List (Str × V)) (m : List (Str × Value)) (s : Shared) (σ : St), Inv X pins σ H s → KV l m →
    l.map (·.1) = own.map (·.1) → X.N.Nodup → (∀ p ∈ own, X.N[p.2]? = some p.1 ∧ Loc X.env.scope p.1 ∧ (X.fn p.1 = true ∨ X.env.scope.names.lookup p.1 = some .local)) →
    (∀ s', Inv X pins (setAll σ (own.map (·.2)) (l.map (·.2))) H s' → Q () s') →
    wpAny (model X.prog X.w) X.A (assignInOrder (m.map fun (n, _) => bindName X.env n) (m.map (·.2))) Q X.xe s
  | [], [], _, s, σ, I, r, _, _, _, k => by
    cases r
    exact wpAny_assignInOrder_none (k s I)
  | [], _ :: _, _, _, _, _, _, e, _, _, _ => by simp at e
  | _ :: _, [], _, _, _, _, _, e, _, _, _ => by simp at e
  | (x, i) :: own, (y, v) :: l, _, s, σ, I, r, e, hN, ho, k => by
    cases r with
    | @cons _ q _ m r rr =>
      obtain ⟨z, u⟩ := q
      obtain ⟨e1, rv⟩ : y = z ∧ RelV v u := r
      have e2 : y = x ∧ l.map (·.1) = own.map (·.1) := by simpa using e
      obtain ⟨ex, el⟩ := e2
      subst e1
      subst ex
      obtain ⟨h1, h2, h3⟩ := ho (y, i) List.mem_cons_self
      refine wpAny_assignInOrder_more ?_
      show wpAny _ X.A (bindName X.env y u) _ _ _
      unfold bindName
      refine wpAny_bind (wpAny_holding (wpAny_point (wpAny_bind (store_ok I hN h1 h2 rv (fun s1 I1 => wpAny_point ?_) h3))))
      exact bind_all own l m s1 _ I1 rr el hN (fun p hp => ho p (List.mem_cons_of_mem _ hp)) k
def cNil : TC := fun _ D σ H => D.nx σ H
def cCons (t : TP) (own : List (Str × Nat)) (b : TS) (u : TC) : TC := fun v D σ H => t v σ H fun r H1 => match r with
  | none => u v D σ H1
  | some bs => bs.map (·.1) = own.map (·.1) ∧ b D (setAll σ (own.map (·.2)) (bs.map (·.2))) H1
theorem pcs_nil : PCs X [] cNil := ⟨fun _ pins s σ H v u D I r h => wpAny_matchCases_nil ⟨σ, H, I, h⟩⟩
theorem pcs_cons {p : Pattern} {body : List Stmt} {cs : List MatchCase} {t : TP} {b : TS} {u : TC} (own : List (Str × Nat)) (hN : X.N.Nodup)
    (ho : ∀ p ∈ own, X.N[p.2]? = some p.1 ∧ Loc X.env.scope p.1 ∧ (X.fn p.1 = true ∨ X.env.scope.names.lookup p.1 = some .local))
    (hp : PP X p t) (hb : PSs X body b) (hc : PCs X cs u) : PCs X (⟨p, none, body⟩ :: cs) (cCons t own b u) := by
  refine ⟨fun fst pins s σ H v w' D I r h => wpAny_matchCases_cons (thn (hp.run pins s σ H v w' _ I r h) fun c s1 ⟨c', H1, I1, rc, q⟩ => ?_)⟩
  cases c with
  | none =>
    cases c' with
    | none => exact hc.run false pins s1 σ H1 v w' D I1 r q
    | some _ => exact (show False from rc).elim
  | some m =>
    cases c' with
    | none => exact (show False from rc).elim
    | some l =>
      obtain ⟨e, q⟩ := q
      exact bind_all own l m s1 σ I1 rc e hN ho fun s2 I2 => hb.run pins s2 _ H1 D I2 q
theorem own0 {P : Str × Nat → Prop} : ∀ p ∈ ([] : List (Str × Nat)), P p := fun p hp => absurd hp (by simp)
theorem ownC {P : Str × Nat → Prop} {q : Str × Nat} {l : List (Str × Nat)} (h : P q) (hl : ∀ p ∈ l, P p) : ∀ p ∈ q :: l, P p := fun p hp => by
  rcases List.mem_cons.mp hp with e | e
  · rw [e]
    exact h
  · exact hl p e
def tMatch (te : TE) (c : TC) : TS := fun D σ H => te σ H fun v H1 => c v D σ H1
theorem ps_match {e : Expr} {cs : List MatchCase} {te : TE} {c : TC} {p : Pos} (he : PE X e te) (hc : PCs X cs c) : PS X (.Match e cs p) (tMatch te c) := by
  refine ⟨fun pins s σ H D I h => wpAny_Match (thn (he.run pins s σ H _ I h) fun u s1 ⟨v, H1, I1, r, q⟩ => ?_)⟩
  exact hc.run true pins s1 σ H1 v u D I1 r q
end
end Mh
namespace Mh
open PySem L2

/-! ### enumerate(v), v told by what its iterator draws -/
theorem meetsEnum {v : Value} {cell : Obj} {Z : Heap → Prop} (bg : Begins v cell Z) :
    Meets (Builtin.«enumerate.__new__» ⟨[.type "enumerate", v], []⟩) (fun _ R s => Z s.heap ∧
      R (.ok (.ret (.ref (s.heap.push cell).objs.size)))
        { s with heap := (s.heap.push cell).push { cls := .type "enumerate", data := .fields #[.none, .bool false, .ref s.heap.objs.size, rawInt 0, .none, .none] } }) :=
  .of_wp fun prog w A R s given => by
    obtain ⟨hp, gs, dr, tk, os⟩ := s
    obtain ⟨g1, g2⟩ := given
    have below := sub_enumerate
    have it1 : ∀ {B : Around} {E : Value → Shared → Prop} {Q : Value → Shared → Prop}, Q (.ref hp.objs.size) ⟨hp.push cell, gs, dr, tk, os⟩ → wpAny (model prog w) B (pyIter v) Q E ⟨hp, gs, dr, tk, os⟩ :=
      fun q => bg.iter prog w _ _ ⟨hp, gs, dr, tk, os⟩ _ g1 q
    wp_walk using it1
    refine wpAny_stack_any fun stk => wpAny_pure ?_
    split
    · rename_i c _ _ _ _ _
      cases (c == Value.type "enumerate") <;> (wp_walk using it1; exact ⟨_, rfl, g2⟩)
    · wp_walk using it1
      exact ⟨_, rfl, g2⟩
section
variable {prog : Program} {w : World} {A : Around} {E : Value → Shared → Prop} {s : Shared}
theorem enum1 {v : Value} {cell : Obj} {Z : Heap → Prop} {Q : Value → Shared → Prop} (bg : Begins v cell Z) (g1 : Z s.heap)
    (k : ∀ h', IsEnum h' (s.heap.objs.size + 1) s.heap.objs.size 0 .none → h'.get? s.heap.objs.size = some cell → h'.objs.size = s.heap.objs.size + 2 →
      (∀ b o, s.heap.get? b = some o → h'.get? b = some o) → Q (.ref (s.heap.objs.size + 1)) { s with heap := h' }) :
    wpAny (model prog w) A (call (.type "enumerate") [v]) Q E s := by
  refine callType_new F.called_enumerate (by decide) (F.typeCall_enumerate_1 _) (F.newCall_enumerate_1 _) (fun obj => F.args_object_init_2 obj _) F.entry_enumerate_new (meetsEnum bg) ⟨g1, ?_⟩
  have size1 : (s.heap.push cell).objs.size = s.heap.objs.size + 1 := Heap.size_push ..
  show _ ∧ _
  rw [size1]
  have made : IsEnum ((s.heap.push cell).push { cls := .type "enumerate", data := .fields #[.none, .bool false, .ref s.heap.objs.size, rawInt 0, .none, .none] }) (s.heap.objs.size + 1) s.heap.objs.size 0 .none := by
    have z := Heap.get?_push_size (s.heap.push cell) (o := { cls := .type "enumerate", data := .fields #[.none, .bool false, .ref s.heap.objs.size, rawInt 0, .none, .none] }) rfl
    rw [size1] at z
    exact z
  exact ⟨⟨_, made, rfl⟩, k _ made (Heap.get?_push_of_some _ (Heap.get?_push_size _ bg.free)) (by rw [Heap.size_push, size1]) fun b o x => Heap.get?_push_of_some _ (Heap.get?_push_of_some _ x)⟩
end
/-- the tuple at a, each item in a new pair with its number -/
def IteT (K : PySem.W.Frag) (a : Addr) : It where
  go := fun i H => ∃ (xs : List V) (x : V), SqT K H a xs ∧ xs[i]? = some x
  yld := fun i H v H' => ∃ T x, v = .ref T ∧ H T = none ∧ H' = upd H T (.tup [.int (i : Nat), x]) ∧ ∀ xs, SqT K H a xs → xs[i]? = some x
  stop := fun i H => ∃ xs : List V, SqT K H a xs ∧ xs.length ≤ i
theorem turn_enumT {P : Program} {w : World} {K : PySem.W.Frag} {elts : List Expr} {kk : Nat} {tpos : Pos} (a e it : Addr) (items : Array Value) (hne : e ≠ it) (hea : e ≠ a) (hia : a ≠ it) :
    Turn P w K (.Tuple elts kk tpos) (IteT K a) [e, it] e (fun i h => (∃ old, IsEnum h e it ((i : Nat) : Int) old) ∧ h.IsTupleIter it a i) where
  mem := by simp
  obj := fun i h st b hb => by
    obtain ⟨⟨old, he⟩, o, ho, hc, hd⟩ := st
    have hb' : b = e ∨ b = it := by simpa using hb
    rcases hb' with z | z
    · rw [z]
      exact ⟨_, he, fun v q => nomatch q⟩
    · rw [z]
      exact ⟨o, ho, fun v q => by rw [hd] at q; cases q⟩
  keep := fun i h h' st k => let ⟨⟨old, he⟩, hi⟩ := st; ⟨⟨old, k e (by simp) _ he⟩, hi.at fun o q => k it (by simp) o q⟩
  item := by
    intro X hP hw hK hc i pins s σ H E I hf st hg
    subst hP hw hK
    obtain ⟨⟨old, he⟩, hit⟩ := st
    obtain ⟨xs, x, hq, hx⟩ := hg
    obtain ⟨its, rv, p, hz⟩ := I.tuple hq
    obtain ⟨u, hu, ru⟩ := rv.get hx
    have sz := rv.length
    have hil : i < its.toArray.size := by
      have z := (List.getElem?_eq_some_iff.mp hx).1
      simp only [List.size_toArray]
      omega
    have hel : e < s.heap.objs.size := Heap.lt_size he
    have hitl : it < s.heap.objs.size := by obtain ⟨_, q, _⟩ := hit; exact Heap.lt_size q
    have hh1 : X.A.in1.handled = none := I.ok.hd hc
    refine wpAny_pyNext_enum_itemD (Draws.tuple hh1 it a hia its.toArray) he ⟨hit, show s.heap.IsTuple a its.toArray from p⟩ hil hne (by simp [hne, hea]) fun y h' tk hy ho hst' hT hsz hk => ?_
    have ey : y = u := by
      rw [List.getElem?_toArray] at hy
      rw [hu] at hy
      exact (Option.some.inj hy).symm
    subst ey
    refine ⟨_, rfl, wpAny_letOwnedTupleGo_enum (s := { s with heap := h', toks := tk + 1 }) ho fun h2 he2 sb => ?_⟩
    have hT2 : h2.get? s.heap.objs.size = some { cls := .type "tuple", data := .seq #[.int i tk, y] } := (sb.2 _ (Nat.ne_of_gt hel)).trans hT
    have new : ObjOk X.prog X.w (upd H s.heap.objs.size (.tup [.int (i : Nat), x])) h2 s.heap.objs.size (.tup [.int (i : Nat), x]) :=
      ⟨by show 2 ≤ sizeLine; decide, [.int i tk, y], .cons ⟨_, rfl⟩ (.cons ru .nil), ⟨_, hT2, rfl, _, rfl⟩⟩
    have I1 : Inv X pins σ (upd H s.heap.objs.size (.tup [.int (i : Nat), x])) { s with heap := h2, toks := tk + 1 } :=
      I.turnedNew (ch := [e, it]) (fun b ob hb q => (sb.2 b (fun z => hb (by simp [z]))).trans (hk b ob (fun z => hb (by simp [z])) (fun z => hb (by simp [z])) q)) hf (Nat.le_refl _) new
    refine ⟨.ref s.heap.objs.size, _, I1, rfl, ⟨_, x, rfl, I.hok.fresh (Nat.le_refl _), rfl, fun ys hy2 => by rw [I.tuple_inj hy2 hq]; exact hx⟩, ⟨⟨y, ?_⟩, hst'.1.at fun o q => (sb.2 it (Ne.symm hne)).trans q⟩, fun b hb => ?_⟩
    · have e1 : ((i + 1 : Nat) : Int) = (i : Int) + 1 := by omega
      rw [e1]
      exact he2
    · have hb' : b = e ∨ b = it := by simpa using hb
      have hlt : b < s.heap.objs.size := by
        rcases hb' with z | z
        · rw [z]; exact hel
        · rw [z]; exact hitl
      rw [upd_ne (Nat.ne_of_lt hlt)]
      exact (hf b hb).1
  done := by
    intro X hP hw hK hc i pins s σ H E I hf st hg
    subst hP hw hK
    obtain ⟨⟨old, he⟩, hit⟩ := st
    obtain ⟨xs, hq, hx⟩ := hg
    obtain ⟨its, rv, p, hz⟩ := I.tuple hq
    have sz := rv.length
    obtain ⟨f0, f1, f2, f3, f4, f5⟩ := hf it (by simp)
    have hh1 : X.A.in1.handled = none := I.ok.hd hc
    have D0 : Draws X.prog X.w X.A.in1 it [it, a] i (fun _ _ => True) (fun j h => j = i ∧ h.IsTupleIter it a j ∧ h.IsTuple a its.toArray) := {
      live := fun _ _ z => let ⟨o, ho, _⟩ := z.2.1; ⟨o, ho⟩
      frame := fun _ _ _ z hk => ⟨z.1, z.2.1.at fun o q => hk it (by simp) o q, z.2.2.at fun o q => hk a (by simp) o q⟩
      item := fun j s2 Q E2 hj z k => absurd z.1 (Nat.ne_of_lt hj)
      done := fun s2 Q E2 z k => wpAny_nextOf_tuple_end hh1 z.2.1 z.2.2 (by simp; omega) k }
    exact wpAny_pyNext_enum_endD D0 he ⟨rfl, hit, show s.heap.IsTuple a its.toArray from p⟩ fun h' eb => ⟨rfl, I.turned (t' := s.toks) (fun b o hb q => eb b o hb q) f0 f1 f3 f4 f5⟩
  self := fun A i s Q E st h => let ⟨⟨_, he⟩, _⟩ := st; wpAny_pyIter_enum he h
def iEnumT (K : PySem.W.Frag) (ta : TA) : TI := fun σ H R => ta σ H fun vs H1 => ∃ a xs, vs = [.ref a] ∧ SqT K H1 a xs ∧ R (IteT K a) H1
theorem pi_enumT {X : Cx} {e : Expr} {ta : TA} {p pos tpos : Pos} {elts : List Expr} {kk : Nat} (hg : Gl X "enumerate") (hm : X.mg "enumerate" = none) (ha : PA X [e] ta) (hs : starEach [e] X.env = [(false, eval e X.env)] := by rfl) :
    PI X (.Tuple elts kk tpos) (.Call (.Name "enumerate" p) [e] [] pos) (iEnumT X.K ta) := by
  refine ⟨fun pins s σ H R I h => ?_⟩
  refine PyProof.Rows.Call_ (ld_blt I hg hm PyProof.Rows.boot_enumerate (PyProof.Rows.callWith_type1 (thn (ha.run pos pins s σ H _ I h) fun us s1 ⟨vs, H1, I1, r1, q1⟩ => ?_) hs rfl))
  obtain ⟨a, xs, ex, hq, q⟩ := q1
  subst ex
  cases r1 with
  | cons r rr =>
    cases rr
    cases r
    obtain ⟨its, rv, p', hz⟩ := I1.tuple hq
    have hta : s1.heap.IsTuple a its.toArray := p'
    have hal : a < s1.heap.objs.size := by obtain ⟨o, q, _⟩ := hta; exact Heap.lt_size q
    refine enum1 (begins_tuple a its.toArray) hta fun h' he hcell hsz hk => wpAny_pyIter_enum he ?_
    have I2 : Inv X pins σ H1 { s1 with heap := h' } := I1.kept (t' := s1.toks) hk
    refine ⟨s1.heap.objs.size + 1, [s1.heap.objs.size + 1, s1.heap.objs.size], _, _, H1, rfl, I2,
      turn_enumT a (s1.heap.objs.size + 1) s1.heap.objs.size its.toArray (Nat.succ_ne_self _) (Nat.ne_of_gt (Nat.lt_succ_of_lt hal)) (Nat.ne_of_lt hal), ⟨⟨.none, he⟩, ⟨_, hcell, rfl, rfl⟩⟩, fun b hb => ?_, q⟩
    have hb' : b = s1.heap.objs.size + 1 ∨ b = s1.heap.objs.size := by simpa using hb
    have hle : s1.heap.objs.size ≤ b := by
      rcases hb' with z | z
      · rw [z]; exact Nat.le_add_right _ _
      · rw [z]; exact Nat.le_refl _
    exact I1.fpOk hle (I1.hok.fresh hle)
theorem walk_enumT {K : PySem.W.Frag} {a : Addr} {xs : List V} : Walk (IteT K a) xs.length (fun H => SqT K H a xs) (YPair (fun i => some (.int (i : Nat))) (fun i => xs[i]?)) := by
  refine ⟨fun i _ hi q => ⟨xs, xs[i], q, by simp [hi]⟩, fun _ q => ⟨xs, q, Nat.le_refl _⟩, fun i H v H' _ q y => ?_⟩
  obtain ⟨T, x, h1, h2, h3, h4⟩ := y
  exact ⟨T, .int (i : Nat), x, h1, h2, h3, rfl, h4 xs q⟩
end Mh
namespace Mh
open PySem L2
/-- a set as it is made -/
abbrev freshSet (w : World) : Obj := { cls := .type "set", dict := none, data := .set #[] 0 (.fresh 0 0 (!w.params.followText "set-order")) }
section
variable {P : Program} {w : World} {A : Around} {E : Value → Shared → Prop} {s : Shared}
/-- set(xs), xs a list of ints -/
theorem callSetL {a : Addr} {its : Array Value} (ns : List Int) {Q : Value → Shared → Prop} (calm : A.handled = none) (isL : s.heap.IsList a its) (allInt : PyProof.Rows.IntsAre its.toList ns) (few : ns.length + 1 < scanBound)
    (k : ∀ (h' : Heap) (tk c : Nat), SetR w h' s.heap.objs.size (fun j => decide (j ∈ ns)) c → c ≤ ns.length → (∀ b o, s.heap.get? b = some o → h'.get? b = some o) → Q (.ref s.heap.objs.size) { s with heap := h', toks := tk }) :
    wpAny (model P w) A (call (.type "set") [.ref a]) Q E s := by
  have size0 : its.size = ns.length := by
    have z := PyProof.Rows.IntsAre.length allInt
    rwa [Array.length_toList] at z
  obtain ⟨cc, tl, mro⟩ := F.called_set.mro
  have made := F.called_set.made
  have below := F.called_set.sub
  refine wpAny_call (codeAny_of_tree ?_)
  show wpAny (model P w) _ (callAny (.type "set") _) _ _ s
  refine wpAny_pure ⟨Code.quiet_builtin _ (by decide +kernel), codeAny_builtin F.entry_type_call ?_⟩
  rw [Around.under_plain (weight_type_call_type "set" [.ref a] []) rfl]
  have p1 := F.called_set.notType
  have p2 := F.called_set.canCreate
  have p3 := F.typeCall_set_1 (.ref a)
  repeat (any_goals (first | assumption | wp_step))
  refine codeAny_mono (code_set_led1 (.ref a) (E := E)
    (Q₁ := fun obj s₁ => obj = .ref s.heap.objs.size ∧ s₁ = { s with heap := s.heap.push (freshSet w) }) ⟨rfl, rfl⟩) fun r s₁ hr => ?_
  rcases r with e | fl
  · exact hr
  rcases fl with _ | _ | _ | obj
  · exact hr.elim
  · exact hr.elim
  · exact hr.elim
  obtain ⟨rfl, rfl⟩ := hr
  have at0 : (s.heap.push (freshSet w)).get? s.heap.objs.size = some (freshSet w) := Heap.get?_push_size _ rfl
  have ty0 : Shared.TypeIs { s with heap := s.heap.push (freshSet w) } (.ref s.heap.objs.size) "set" := ⟨_, at0, rfl⟩
  have p4 := F.called_set.init.lookup
  have p5 := F.called_set.init.bind (.ref s.heap.objs.size)
  repeat (any_goals (first | assumption | wp_step))
  refine codeAny_mono (codeAny_call_builtin (R := wants (fun r s₂ => r = .none ∧ ∃ h' tk c, s₂ = { s with heap := h', toks := tk } ∧ SetR w h' s.heap.objs.size (fun j => decide (j ∈ ns)) c ∧ c ≤ ns.length ∧
    (∀ b o, s.heap.get? b = some o → h'.get? b = some o)) E) F.called_set.init.plain F.entry_set_init (check_set_init_1 ty0 ?_)) fun r₂ s₂ hr₂ => ?_
  · obtain ⟨⟨c0, d0, dt0, sl0⟩, got, cls0, cnt0, data0⟩ := isL
    simp only at cls0 data0
    subst cls0 data0
    have got1 : (s.heap.push (freshSet w)).get? a = some { cls := .type "list", dict := d0, data := .seq its cnt0, slots := sl0 } := Heap.get?_push_of_some _ got
    have q1 := F.sub_list_set
    have q2 := F.sub_list_frozenset
    have q3 : (Value.type "list" == Value.type "dict") = false := by decide
    have isL1 : (s.heap.push (freshSet w)).IsList a its := ⟨_, got1, rfl, cnt0, rfl⟩
    unfold Builtin.«set.__init__» noKeywords Builtin.Frozenset.updateFrom
    generalize frozen : pyIter = walkIt
    wp_walk
    subst frozen
    refine wpAny_pyIter_list isL1 (wpAny_bind (wpAny_runValue ?_))
    have below0 : a < s.heap.objs.size := Heap.lt_size got
    have calm3 : A.in1.in1.in1.handled = none := by simp [calm]
    have apart : a ≠ (s.heap.push (freshSet w)).objs.size := by
      rw [Heap.size_push]
      exact Nat.ne_of_lt (Nat.lt_succ_of_lt below0)
    have apart2 : s.heap.objs.size ∉ [(s.heap.push (freshSet w)).objs.size, a] := by
      rw [Heap.size_push]
      simp only [List.mem_cons, List.not_mem_nil, or_false, not_or]
      exact ⟨Nat.ne_of_lt (Nat.lt_succ_self _), Nat.ne_of_gt below0⟩
    have vals : ∀ (i : Nat) (v : Value), its[i]? = some v → ∃ z t, ns[i]? = some z ∧ v = .int z t := fun i v hv => by
      have hi : i < ns.length := by
        rw [← size0]
        exact (Array.getElem?_eq_some_iff.mp hv).1
      obtain ⟨t, e⟩ := PyProof.Rows.IntsAre.int_at allInt i v (by rw [Array.getElem?_toList]; exact hv)
      exact ⟨ns[i], t, List.getElem?_eq_getElem hi, by rw [e, List.getD_eq_getElem?_getD, List.getElem?_eq_getElem hi]; rfl⟩
    refine set_update_ints ((Walks.list calm3 _ a apart its).toS) s.heap.objs.size apart2 ns size0 few vals (its.size - 0) 0 _ (by omega) (Nat.zero_le _) ⟨⟨_, Heap.get?_push_size _ rfl, rfl, rfl⟩, isL1.push _⟩
      ⟨0, Nat.le_refl 0, setR_new_at (Heap.get?_push_of_some _ at0)⟩ ?_
    intro s3 c3 mv hc3 hS3
    obtain ⟨h3, g3, d3, tk3, os3⟩ := s3
    have e1 : g3 = s.gens := mv.gens
    have e2 : d3 = s.drawn := mv.drawn
    have e3 : os3 = s.os := mv.os
    subst e1 e2 e3
    show wpAny (model P w) _ _ _ _ _
    refine wpAny_pure ?_
    show wpAny (model P w) _ (ret Value.none) _ _ _
    rw [size0] at hc3
    refine wpAny_pure ⟨rfl, h3, tk3, c3, rfl, hS3, hc3, fun b o e => ?_⟩
    have hb0 : b < s.heap.objs.size := Heap.lt_size e
    refine mv.heap b o ?_ (Heap.get?_push_of_some _ (Heap.get?_push_of_some _ e))
    simp only [List.mem_cons, List.not_mem_nil, or_false, not_or]
    refine ⟨Nat.ne_of_lt hb0, ?_⟩
    rw [Heap.size_push]
    exact Nat.ne_of_lt (Nat.lt_succ_of_lt hb0)
  · rcases r₂ with e | fl
    · exact hr₂
    rcases fl with _ | _ | _ | r
    · exact hr₂.elim
    · exact hr₂.elim
    · exact hr₂.elim
    obtain ⟨rfl, h', tk, c', rfl, hS', hc', hk'⟩ := hr₂
    repeat (any_goals (first | assumption | wp_step))
    exact k _ _ _ hS' hc' hk'
end
/-- set(xs) by values -/
def rSetL (K : PySem.W.Frag) (w : World) : List V → Hp → VK → Prop := fun vs H Q => ∃ (a : Addr) (ns : List Int), vs = [V.ref a] ∧ SqL K H a (ns.map V.int) ∧ ns.length ≤ 1000 ∧
  ∀ (p : Addr) (c : Nat), H p = none → c ≤ ns.length → Q (.ref p) (upd H p (SetO w p (fun j => decide (j ∈ ns)) c))
theorem ints_of_vals : ∀ {ns : List Int} {us : List Value}, Vals (ns.map V.int) us → PyProof.Rows.IntsAre us ns
  | [], _, .nil => .nil
  | n :: ns, _, .cons r t => by
    obtain ⟨tk, rfl⟩ := r
    exact .cons n tk (ints_of_vals t)
theorem cr_setL {X : Cx} (hc : X.calm = true) : CallR X (.type "set") (rSetL X.K X.w) := by
  intro pins s σ H vs us Q I r h
  obtain ⟨a, ns, rfl, hq, few, k⟩ := h
  obtain ⟨its, rv, p, hz⟩ := I.list hq
  rw [Vals.ref1 r]
  refine callSetL ns (I.ok.hd hc) p.isList (ints_of_vals rv) (by unfold scanBound; omega) fun h' tk c hS hcl hk => ?_
  refine ⟨.ref s.heap.objs.size, upd H s.heap.objs.size (SetO X.w s.heap.objs.size (fun j => decide (j ∈ ns)) c), I.laid (t' := tk) hk (Nat.le_refl _) (setO_new hS), rfl, k _ c (I.hok.fresh (Nat.le_refl _)) hcl⟩
end Mh
/-! What the laws draw, told as data; what stays. -/
namespace Mh
open PySem L2

/-! ### all stays but what is named -/
def Bt (S : List Addr) (H H' : Hp) : Prop := ∀ b o, b ∉ S → H b = some o → H' b = some o
section
variable {S S' : List Addr} {H H1 H2 : Hp} {p : Addr} {o : HO} {K : PySem.W.Frag}
theorem Bt.refl : Bt S H H := fun _ _ _ h => h
theorem Bt.trans (a : Bt S H H1) (b : Bt S H1 H2) : Bt S H H2 := fun c u n h => b c u n (a c u n h)
theorem Bt.new (h : H p = none) : Bt S H (upd H p o) := fun b u _ e => by rw [upd_ne (ne_of_none e h)]; exact e
/-- an object that was not there, or that is named, is written -/
theorem Bt.put (a : Bt S H H1) (h : H p = none) : Bt S H (upd H1 p o) := fun b u n e => by rw [upd_ne (ne_of_none e h)]; exact a b u n e
theorem Bt.set (a : Bt S H H1) (h : p ∈ S) : Bt S H (upd H1 p o) := fun b u n e => by rw [upd_ne (fun z => n (by rw [z]; exact h))]; exact a b u n e
theorem Bt.mono (a : Bt S H H1) (h : ∀ b ∈ S, b ∈ S') : Bt S' H H1 := fun b u n e => a b u (fun z => n (h b z)) e
theorem Bt.of_same (a : Same H H1) : Bt S H H1 := fun b u _ e => a b u e
theorem Bt.same (a : Bt [] H H1) : Same H H1 := fun b u e => a b u (by simp) e
/-- what was free behind was free ahead -/
theorem Bt.free (a : Bt S H H1) (h : p ∉ S) (e : H1 p = none) : H p = none := by
  cases q : H p with
  | none => rfl
  | some u =>
    rw [a p u h q] at e
    cases e
/-- all tuples stay -/
def KT (K : PySem.W.Frag) (H H' : Hp) : Prop := ∀ a xs, SqT K H a xs → SqT K H' a xs
theorem KT.refl : KT K H H := fun _ _ h => h
theorem KT.trans (a : KT K H H1) (b : KT K H1 H2) : KT K H H2 := fun c xs h => b c xs (a c xs h)
theorem Bt.kt (a : Bt S H H1) (h : ∀ b ∈ S, ∀ xs, ¬ Rd H b (.tup xs)) : KT K H H1 := fun c xs e => by
  rcases e with e | e
  · have n : c ∉ S := fun z => h c z xs e
    rcases e with e | ⟨u, e⟩
    · exact .inl (.inl (a c _ n e))
    · exact .inl (.inr ⟨u, a c _ n e⟩)
  · exact .inr e
theorem norm_tup {xs : List V} {d : Addr} (h : H d = some (.lst xs)) : ∀ ys, ¬ Rd H d (.tup ys) := fun ys z => by
  rcases z with z | ⟨u, z⟩ <;> (rw [h] at z; cases z)
theorem Bt.kt1 {d : Addr} {xs : List V} (a : Bt [d] H H1) (h : H d = some (.lst xs)) : KT K H H1 := a.kt fun b hb ys => by
  have e : b = d := by simpa using hb
  rw [e]
  exact norm_tup h ys
theorem KT.same (a : Same H H1) : KT K H H1 := (Bt.of_same (S := []) a).kt fun b hb => absurd hb (by simp)
theorem KT.new (h : H p = none) : KT K H (upd H p o) := (Bt.new (S := []) h).kt fun b hb => absurd hb (by simp)
end

/-! ### data of tuples -/
mutual
def TD : PyData → Bool
  | .none => true
  | .bool _ => true
  | .int _ => true
  | .str _ => true
  | .tuple ds => TDs ds
  | _ => false
def TDs : List PyData → Bool
  | [] => true
  | d :: ds => TD d && TDs ds
end
theorem tds_mem : ∀ {ds : List PyData}, TDs ds = true ↔ ∀ d ∈ ds, TD d = true
  | [] => by simp [TDs]
  | d :: ds => by simp [TDs, tds_mem (ds := ds)]
section
variable {K : PySem.W.Frag} {H H' : Hp}
mutual
theorem dp_keep (kt : KT K H H') : ∀ (d : PyData) (v : V), TD d = true → Dp K H v d → Dp K H' v d
  | .none, _, _, h => by cases h; exact .non
  | .bool b, _, _, h => by cases h; exact .bl b
  | .int i, _, _, h => by cases h; exact .int i
  | .str x, _, _, h => by cases h; exact .str x
  | .list _, _, t, _ => by simp [TD] at t
  | .dict _, _, t, _ => by simp [TD] at t
  | .tuple ds, _, t, h => by
    cases h with
    | tup hs ha => exact .tup (kt _ _ hs) (dps_keep kt ds _ (by simpa [TD] using t) ha)
theorem dps_keep (kt : KT K H H') : ∀ (ds : List PyData) (vs : List V), TDs ds = true → DpAll K H vs ds → DpAll K H' vs ds
  | [], _, _, h => by cases h; exact .nil
  | d :: ds, _, t, h => by
    have t' : TD d = true ∧ TDs ds = true := by simpa [TDs] using t
    cases h with
    | cons h1 h2 => exact .cons (dp_keep kt d _ t'.1 h1) (dps_keep kt ds _ t'.2 h2)
end
theorem dp_int {v : V} {i : Int} (h : Dp K H v (.int i)) : v = .int i := by cases h; rfl
theorem dp_str {v : V} {x : Str} (h : Dp K H v (.str x)) : v = .str x := by cases h; rfl
theorem dp_tup {v : V} {ds : List PyData} (h : Dp K H v (.tuple ds)) : ∃ a xs, v = .ref a ∧ SqT K H a xs ∧ DpAll K H xs ds := by
  cases h with
  | tup hs ha => exact ⟨_, _, rfl, hs, ha⟩
theorem dps_nil {vs : List V} (h : DpAll K H vs []) : vs = [] := by cases h; rfl
theorem dps_cons {vs : List V} {d : PyData} {ds : List PyData} (h : DpAll K H vs (d :: ds)) : ∃ v r, vs = v :: r ∧ Dp K H v d ∧ DpAll K H r ds := by
  cases h with
  | cons h1 h2 => exact ⟨_, _, rfl, h1, h2⟩
theorem dps_len : ∀ {vs : List V} {ds : List PyData}, DpAll K H vs ds → vs.length = ds.length
  | _, _, .nil => rfl
  | _, _, .cons _ t => by simp [dps_len t]
theorem dps_get : ∀ {vs : List V} {ds : List PyData} {i : Nat} {v : V}, DpAll K H vs ds → vs[i]? = some v → ∃ d, ds[i]? = some d ∧ Dp K H v d
  | _, _, _, _, .nil, e => by simp at e
  | _, _, 0, _, .cons h _, e => by
    simp at e
    subst e
    exact ⟨_, rfl, h⟩
  | _, _, i + 1, v, .cons _ t, e => by
    obtain ⟨d, h1, h2⟩ := dps_get (i := i) (v := v) t (by simpa using e)
    exact ⟨d, by simpa using h1, h2⟩
theorem dps_ints : ∀ {ns : List Int} {vs : List V}, DpAll K H vs (ns.map .int) → vs = ns.map .int
  | [], _, h => dps_nil h
  | n :: ns, _, h => by
    obtain ⟨v, r, rfl, h1, h2⟩ := dps_cons h
    rw [dp_int h1, dps_ints h2]
    rfl
theorem dps_of_ints : ∀ (ns : List Int), DpAll K H (ns.map V.int) (ns.map .int)
  | [] => .nil
  | n :: ns => .cons (.int n) (dps_of_ints ns)
theorem dps_snoc : ∀ {vs : List V} {ds : List PyData} {v : V} {d : PyData}, DpAll K H vs ds → Dp K H v d → DpAll K H (vs ++ [v]) (ds ++ [d])
  | _, _, _, _, .nil, h => .cons h .nil
  | _, _, _, _, .cons a t, h => .cons a (dps_snoc t h)
end

/-! ### machines -/
inductive Tst where
  | any | below (n : Int) | rest (m r : Int) | chance (m r : Int) | known (ks : List Int)
inductive Asw where
  | num (n : Int) | plus (n : Int) | times (n : Int) | rest (m : Int) | non
def Tst.dt : Tst → PyData
  | .any => .tuple [.str "any"]
  | .below n => .tuple [.str "below", .int n]
  | .rest m r => .tuple [.str "rest", .int m, .int r]
  | .chance m r => .tuple [.str "chance", .int m, .int r]
  | .known ks => .tuple [.str "known", .tuple (ks.map .int)]
def Asw.dt : Asw → PyData
  | .num n => .tuple [.str "num", .int n]
  | .plus n => .tuple [.str "plus", .int n]
  | .times n => .tuple [.str "times", .int n]
  | .rest m => .tuple [.str "rest", .int m]
  | .non => .tuple [.str "none"]
abbrev Mach := List (Tst × Asw)
def rowDt (r : Tst × Asw) : PyData := .tuple [r.1.dt, r.2.dt]
def machDt (m : Mach) : PyData := .tuple (m.map rowDt)
def Tst.Ok : Tst → Prop
  | .any => True
  | .below n => 0 ≤ n ∧ n ≤ 9999
  | .rest m r => 2 ≤ m ∧ m ≤ 99 ∧ 0 ≤ r ∧ r < m
  | .chance m r => 2 ≤ m ∧ m ≤ 99 ∧ 0 ≤ r ∧ r < m
  | .known ks => 1 ≤ ks.length ∧ ks.length ≤ 8 ∧ ks.Pairwise (· < ·) ∧ ∀ k ∈ ks, 0 ≤ k ∧ k ≤ 9999
def Asw.Ok : Asw → Prop
  | .num n => -9999 ≤ n ∧ n ≤ 9999
  | .plus n => -9999 ≤ n ∧ n ≤ 9999
  | .times n => -9999 ≤ n ∧ n ≤ 9999
  | .rest m => 2 ≤ m ∧ m ≤ 99
  | .non => True
def MachOk (m : Mach) : Prop := 1 ≤ m.length ∧ m.length ≤ 12 ∧ ∀ r ∈ m, r.1.Ok ∧ r.2.Ok
def Tst.holds (q s : Int) : Tst → Bool
  | .any => true
  | .below n => decide (q < n)
  | .rest m r => decide (q % m = r)
  | .chance m r => decide ((7 * q + 13 * s) % m = r)
  | .known ks => decide (q ∈ ks)
def Asw.out (q : Int) : Asw → Option Int
  | .num n => some n
  | .plus n => some (q + n)
  | .times n => some (q * n)
  | .rest m => some (q % m)
  | .non => none
def tell (q s : Int) : Mach → Option Int
  | [] => none
  | (t, a) :: r => if t.holds q s then a.out q else tell q s r
def oV : Option Int → V
  | none => .non
  | some i => .int i
theorem Tst.td (t : Tst) : TD t.dt = true := by
  cases t with
  | known ks =>
    have h : TDs (ks.map PyData.int) = true := tds_mem.mpr fun d hd => by
      obtain ⟨k, _, rfl⟩ := List.mem_map.mp hd
      rfl
    simp [Tst.dt, TD, TDs, h]
  | _ => simp [Tst.dt, TD, TDs]
theorem Asw.td (a : Asw) : TD a.dt = true := by cases a <;> simp [Asw.dt, TD, TDs]
theorem row_td (r : Tst × Asw) : TD (rowDt r) = true := by simp [rowDt, TD, TDs, r.1.td, r.2.td]
theorem mach_td (m : Mach) : TD (machDt m) = true := by
  have h : TDs (m.map rowDt) = true := tds_mem.mpr fun d hd => by
    obtain ⟨r, _, rfl⟩ := List.mem_map.mp hd
    exact row_td r
  simp [machDt, TD, h]

/-! ### dice -/
def Dice (xs : List V) : Prop := ∃ (a b : Int) (r : List Int), xs = .int a :: .int b :: r.map V.int ∧ 0 ≤ a ∧ a < 2147483647 ∧ 0 ≤ b ∧ r.length ≤ 63 ∧ ∀ z ∈ r, 0 ≤ z
end Mh
namespace Mh
open PySem L2
/-! ### defs of the text -/
structure Df (K : PySem.W.Frag) (mg : Str → Option Value) (x : Str) (st : Stmt) (ps : List Str) (f : Addr) (fd : FuncData) : Prop where
  F : Fun K x x st f fd
  n : mg x = some (.ref f)
  b : Binds K fd ps []
/-- with keyword-only parameters behind the first m, all told -/
structure DfK (K : PySem.W.Frag) (mg : Str → Option Value) (x : Str) (st : Stmt) (ps : List Str) (m : Nat) (ks : List Str) (f : Addr) (fd : FuncData) : Prop where
  F : Fun K x x st f fd
  n : mg x = some (.ref f)
  kb : KBn K fd ps m ks (fun us ws => us ++ ws) (fun vs zs => vs ++ zs)
/-- with keyword-only parameters that some calls leave out: dvs their values -/
structure DfS (K : PySem.W.Frag) (mg : Str → Option Value) (x : Str) (st : Stmt) (ps : List Str) (m : Nat) (ks : List Str) (dvs : List V) (f : Addr) (fd : FuncData) (ds : List Value) : Prop where
  F : Fun K x x st f fd
  n : mg x = some (.ref f)
  kb : KBn K fd ps m ks (fun us ws => us ++ ws) (fun vs zs => vs ++ zs)
  b0 : Binds K fd ps ds
  v0 : Vals dvs ds
/-- a module's value -/
def GV (mg : Str → Option Value) (x : Str) (v : V) : Prop := ∃ u, mg x = some u ∧ RelV v u
theorem pe_gv {X : Cx} {x : Str} {v : V} {pos : Pos} (hg : Gl X x) (h : GV X.mg x v) (hd : (x == ("__debug__" : Str)) = false := by decide) : PE X (.Name x pos) (tC v) := by
  obtain ⟨u, h1, h2⟩ := h
  exact pe_glob hg h1 h2 hd
theorem at0 {x : V} {r : List V} : atI (x :: r) 0 = some x := atI_nat (j := 0) rfl
theorem at1 {x y : V} {r : List V} : atI (x :: y :: r) 1 = some y := atI_nat (j := 1) rfl
theorem at2 {x y z : V} {r : List V} : atI (x :: y :: z :: r) 2 = some z := atI_nat (j := 2) rfl
def spLaw (K : PySem.W.Frag) : Sp := fun vs H Q _ => ∃ (a : Addr) (ns : List Int), vs = [.ref a] ∧ SqL K H a (ns.map V.int) ∧ ns.length ≤ 63 ∧ ∀ H', Q (.bl true) H'
end Mh
namespace Mh
open PySem L2
theorem execs_app (env : Env) (bs : List Stmt) : ∀ as : List Stmt, execs (as ++ bs) env = (do
    match ← execs as env with
    | .next => execs bs env
    | f => pure f)
  | [] => by
    show execs bs env = (pure Flow.next >>= _)
    rw [pure_bind]
  | a :: as => by
    show execs (a :: (as ++ bs)) env = _
    rw [arm_execs_cons, arm_execs_cons, bind_assoc]
    congr 1
    funext f
    cases f with
    | next => exact execs_app env bs as
    | brk => rw [pure_bind]
    | cont => rw [pure_bind]
    | ret v => rw [pure_bind]
/-- a block in two parts, with a word between them -/
theorem pss_at {X : Cx} {l : List Stmt} (n : Nat) {t u : TS} (h1 : PSs X (l.take n) t) (h2 : PSs X (l.drop n) u) : PSs X l (Evl.tCut t u) := by
  refine ⟨fun pins s σ H D I h => ?_⟩
  obtain ⟨Mid, hm, hu⟩ := h
  rw [← List.take_append_drop n l, execs_app]
  refine wpAny_bind (thn (h1.run pins s σ H { D with nx := Mid } I hm) fun f s1 q => ?_)
  cases f with
  | next =>
    obtain ⟨σ', H', I', q⟩ := q
    exact h2.run pins s1 σ' H' D I' (hu σ' H' q)
  | ret v => exact wpAny_pure q
  | brk => exact wpAny_pure q
  | cont => exact wpAny_pure q
end Mh
/-! Tasks as data; how deep data are. -/
namespace Mh
open PySem L2
structure Qn where
  q : Int
  due : Int
  twin : Option (Int × Int)
structure Task where
  qs : List Qn
  wt : Int
def twinDt : Option (Int × Int) → PyData
  | none => .none
  | some (y, e) => .tuple [.int y, .int e]
def Qn.dt (r : Qn) : PyData := .tuple [.int r.q, .int r.due, twinDt r.twin]
def Task.dt (t : Task) : PyData := .tuple [.tuple (t.qs.map Qn.dt), .int t.wt]
def dueOk (i : Int) : Prop := -99999999 ≤ i ∧ i ≤ 99999999
def Qn.Ok (r : Qn) : Prop := 0 ≤ r.q ∧ r.q ≤ 9999 ∧ dueOk r.due ∧ ∀ y e, r.twin = some (y, e) → 0 ≤ y ∧ y ≤ 9999 ∧ dueOk e
def Task.Ok (t : Task) : Prop := 1 ≤ t.qs.length ∧ t.qs.length ≤ 16 ∧ (∀ r ∈ t.qs, r.Ok) ∧ (t.qs.map Qn.q).Nodup ∧ 1 ≤ t.wt ∧ t.wt ≤ 9
theorem twin_td (o : Option (Int × Int)) : TD (twinDt o) = true := by
  cases o with
  | none => rfl
  | some p => rfl
theorem qn_td (r : Qn) : TD r.dt = true := by simp [Qn.dt, TD, TDs, twin_td]
theorem tds_map {α : Type} {f : α → PyData} (h : ∀ a, TD (f a) = true) (l : List α) : TDs (l.map f) = true := tds_mem.mpr fun d hd => by
  obtain ⟨r, _, rfl⟩ := List.mem_map.mp hd
  exact h r
theorem task_td (t : Task) : TD t.dt = true := by simp [Task.dt, TD, TDs, tds_map qn_td]
/-- data no deeper than n, no list longer than 1000 -/
def deep : Nat → PyData → Bool
  | _, .none => true
  | _, .bool _ => true
  | _, .int _ => true
  | _, .str _ => true
  | n + 1, .list ds => decide (ds.length ≤ 1000) && ds.all (deep n)
  | n + 1, .tuple ds => decide (ds.length ≤ 1000) && ds.all (deep n)
  | _, _ => false
theorem ty_lst {K : PySem.W.Frag} {H : Hp} {a : Addr} {xs : List V} (h : SqL K H a xs) : TyX K H (.ref a) (.type "list") := by
  rcases h with h | h
  · rcases h with h | ⟨o, h⟩
    · exact .base (.lst h)
    · exact .base (.frz h)
  · obtain ⟨o, its, n, h1, h2, _⟩ := h
    exact .kList h1 h2
/-- all lists and tuples stay -/
theorem same_sql {K : PySem.W.Frag} {H H' : Hp} {a : Addr} {xs : List V} (e : Same H H') (h : SqL K H a xs) : SqL K H' a xs := e.seq h
mutual
theorem dp_same {K : PySem.W.Frag} {H H' : Hp} (e : Same H H') : ∀ (d : PyData) (v : V), Dp K H v d → Dp K H' v d
  | .none, _, h => by cases h; exact .non
  | .bool b, _, h => by cases h; exact .bl b
  | .int i, _, h => by cases h; exact .int i
  | .str x, _, h => by cases h; exact .str x
  | .dict _, _, h => by cases h
  | .list ds, _, h => by
    cases h with
    | lst hs ha => exact .lst (e.seq hs) (dps_same e ds _ ha)
  | .tuple ds, _, h => by
    cases h with
    | tup hs ha => exact .tup (KT.same e _ _ hs) (dps_same e ds _ ha)
theorem dps_same {K : PySem.W.Frag} {H H' : Hp} (e : Same H H') : ∀ (ds : List PyData) (vs : List V), DpAll K H vs ds → DpAll K H' vs ds
  | [], _, h => by cases h; exact .nil
  | d :: ds, _, h => by
    cases h with
    | cons h1 h2 => exact .cons (dp_same e d _ h1) (dps_same e ds _ h2)
end
theorem dps_at {K : PySem.W.Frag} {H : Hp} : ∀ {vs : List V} {ds : List PyData} {i : Nat} {d : PyData}, DpAll K H vs ds → ds[i]? = some d → ∃ v, vs[i]? = some v ∧ Dp K H v d
  | _, _, _, _, .nil, e => by simp at e
  | _, _, 0, _, .cons h _, e => by
    simp at e
    subst e
    exact ⟨_, rfl, h⟩
  | _, _, i + 1, d, .cons _ t, e => by
    obtain ⟨v, h1, h2⟩ := dps_at (i := i) (d := d) t (by simpa using e)
    exact ⟨v, by simpa using h1, h2⟩
/-- what a task's right answers are -/
def Qn.good (m : Mach) (s : Int) (r : Qn) : Bool := decide (tell r.q s m = some r.due)
/-- bounds of what a machine tells -/
theorem tell_bound {q s : Int} : ∀ {m : Mach} {i : Int}, (∀ r ∈ m, r.1.Ok ∧ r.2.Ok) → 0 ≤ q → q ≤ 9999 → tell q s m = some i → dueOk i
  | [], _, _, _, _, h => by cases h
  | (t, a) :: m, i, ho, h0, h1, h => by
    have o1 := (ho _ List.mem_cons_self).2
    unfold tell at h
    split at h
    · cases a with
      | num n =>
        have e : n = i := Option.some.inj h
        subst e
        exact ⟨by have := o1.1; omega, by have := o1.2; omega⟩
      | plus n =>
        have e : q + n = i := Option.some.inj h
        subst e
        exact ⟨by have := o1.1; omega, by have := o1.2; omega⟩
      | times n =>
        have e : q * n = i := Option.some.inj h
        subst e
        have n0 := o1.1
        have n1 := o1.2
        have p1 : q * n ≤ q * 9999 := Int.mul_le_mul_of_nonneg_left n1 h0
        have p2 : q * (-9999) ≤ q * n := Int.mul_le_mul_of_nonneg_left n0 h0
        exact ⟨by omega, by omega⟩
      | rest n =>
        have e : q % n = i := Option.some.inj h
        subst e
        have n0 := o1.1
        have n1 := o1.2
        have p1 := Int.emod_nonneg q (b := n) (by omega)
        have p2 := Int.emod_lt_of_pos q (b := n) (by omega)
        exact ⟨by omega, by omega⟩
      | non => cases h
    · exact tell_bound (fun r hr => ho r (List.mem_cons_of_mem _ hr)) h0 h1 h
end Mh
namespace Mh
open PySem L2
/-- data that may be compared -/
def Sh (n : Nat) (d : PyData) : Prop := d.canLay0 = true ∧ d.depth ≤ n
theorem sh_int {n : Nat} (i : Int) : Sh n (.int i) := ⟨by simp [PyData.canLay0], by simp [PyData.depth]⟩
theorem sh_non {n : Nat} : Sh n .none := ⟨by simp [PyData.canLay0], by simp [PyData.depth]⟩
theorem sh_all {n : Nat} : ∀ {ds : List PyData}, (∀ d ∈ ds, Sh n d) → PyData.canLayAll0 ds = true ∧ PyData.depthAll ds ≤ n
  | [], _ => ⟨by simp [PyData.canLayAll0], by simp [PyData.depthAll]⟩
  | d :: ds, h => by
    obtain ⟨h1, h2⟩ := sh_all (n := n) (ds := ds) fun x hx => h x (List.mem_cons_of_mem _ hx)
    obtain ⟨h3, h4⟩ := h d List.mem_cons_self
    exact ⟨by simp [PyData.canLayAll0, h1, h3], by simp only [PyData.depthAll]; omega⟩
theorem sh_list {n : Nat} {ds : List PyData} (h : ∀ d ∈ ds, Sh n d) : Sh (n + 1) (.list ds) := by
  obtain ⟨h1, h2⟩ := sh_all h
  exact ⟨by simpa [PyData.canLay0] using h1, by simp only [PyData.depth]; omega⟩
theorem sh_tuple {n : Nat} {ds : List PyData} (h : ∀ d ∈ ds, Sh n d) : Sh (n + 1) (.tuple ds) := by
  obtain ⟨h1, h2⟩ := sh_all h
  exact ⟨by simpa [PyData.canLay0] using h1, by simp only [PyData.depth]; omega⟩
theorem Sh.mono {n m : Nat} {d : PyData} (h : Sh n d) (l : n ≤ m) : Sh m d := ⟨h.1, Nat.le_trans h.2 l⟩
theorem Sh.shaped {n : Nat} {d : PyData} (h : Sh n d) (l : n ≤ 64) : SeqAt.shaped d = true := by
  unfold SeqAt.shaped
  rw [h.1, decide_eq_true (Nat.le_trans h.2 l)]
  rfl
theorem eqv_nil {ds : List PyData} : PyData.eqv (.list ds) (.list []) = ds.isEmpty := by
  cases ds <;> simp [PyData.eqv, PyData.eqvAll]
theorem dps_zip {K : PySem.W.Frag} {H : Hp} : ∀ {zs : List (V × PyData)}, (∀ z ∈ zs, Dp K H z.1 z.2) → DpAll K H (zs.map (·.1)) (zs.map (·.2))
  | [], _ => .nil
  | z :: zs, h => .cons (h z List.mem_cons_self) (dps_zip fun y hy => h y (List.mem_cons_of_mem _ hy))
theorem eraseIdx_map {α β : Type} (f : α → β) : ∀ (l : List α) (i : Nat), (l.map f).eraseIdx i = (l.eraseIdx i).map f
  | [], _ => rfl
  | _ :: _, 0 => rfl
  | a :: l, i + 1 => by simp [eraseIdx_map f l i]
theorem perm_erase {α : Type} : ∀ {l : List α} {i : Nat} {a : α}, l[i]? = some a → (a :: l.eraseIdx i).Perm l
  | [], i, a, h => by simp at h
  | b :: l, 0, a, h => by
    simp at h
    subst h
    exact List.Perm.refl _
  | b :: l, i + 1, a, h => by
    have h2 := perm_erase (l := l) (i := i) (a := a) (by simpa using h)
    show (a :: b :: l.eraseIdx i).Perm (b :: l)
    exact (List.Perm.swap b a _).trans (List.Perm.cons b h2)
end Mh
/-! The same rules within a comprehension, where the written part is told by its name. -/
namespace Mh
open PySem L2
section
variable {X : Cx} {K : PySem.W.Frag}
theorem ixK_list (e : X.K = K) : IxR X (rIxL K) := by subst e; exact ix_list
theorem ixK_tup (e : X.K = K) : IxR X (rIxT K) := by subst e; exact ix_tup
theorem ixK_seq (e : X.K = K) : IxR X (rIx K) := by subst e; exact ix_seq
theorem opK_in_seq (e : X.K = K) : OpR X (compareOp .In) (rIn K false) := by subst e; exact op_in_seq
theorem opK_notIn_seq (e : X.K = K) : OpR X (compareOp .NotIn) (rIn K true) := by subst e; exact op_notIn_seq
theorem opK_eqD (e : X.K = K) (hu : X.A.units + 64 < cLine) : OpR X (compareOp .Eq) (rEqD K) := by subst e; exact op_eqD hu
theorem opK_neD (e : X.K = K) (hu : X.A.units + 64 < cLine) : OpR X (compareOp .NotEq) (rNeD K) := by subst e; exact op_neD hu
theorem opK_catA (e : X.K = K) : OpR X (binaryOp .Add) (rCatA K) := by subst e; exact op_catA
def rLenQ (K : PySem.W.Frag) : List V → Hp → VK → Prop := fun xs H Q => ∃ p ys, xs = [.ref p] ∧ (SqL K H p ys ∨ SqT K H p ys) ∧ Q (.int ys.length) H
theorem callK_len_seq (e : X.K = K) : CallR X (.builtin "len") (rLenQ K) := by subst e; exact call_len_seq
theorem crK_sum (e : X.K = K) (hc : X.calm = true) : CallR X (.builtin "sum") (rSum K) := by subst e; exact cr_sum hc
theorem crK_all (e : X.K = K) (hc : X.calm = true) : CallR X (.builtin "all") (rAll K) := by subst e; exact cr_all hc
theorem crK_any (e : X.K = K) (hc : X.calm = true) : CallR X (.builtin "any") (rAny K) := by subst e; exact cr_any hc
def rListQ (K : PySem.W.Frag) : List V → Hp → VK → Prop := fun xs H Q => ∃ p ys, xs = [.ref p] ∧ (SqL K H p ys ∨ SqT K H p ys) ∧ ∀ l, H l = none → Q (.ref l) (upd H l (.lst ys))
theorem callK_list_of (e : X.K = K) : CallR X (.type "list") (rListQ K) := by subst e; exact call_list_of
def rTupleQ (K : PySem.W.Frag) : List V → Hp → VK → Prop := fun xs H Q => ∃ p ys, xs = [.ref p] ∧ ((SqL K H p ys ∧ ∀ l, H l = none → Q (.ref l) (upd H l (.tup ys))) ∨ (SqT K H p ys ∧ Q (.ref p) H))
theorem callK_tuple_of (e : X.K = K) : CallR X (.type "tuple") (rTupleQ K) := by subst e; exact call_tuple_of
theorem slK_list (e : X.K = K) : SlR X (rSlL K) := by subst e; exact sl_list
theorem slK_tup (e : X.K = K) : SlR X (rSlT K) := by subst e; exact sl_tup
end
end Mh
/-! A dict of names compared with one that is empty. -/
namespace Mh
open PySem L2
section
variable {X : Cx}
def rEqD0 : R2 := fun x y H Q => ∃ a b ks, x = .ref a ∧ y = .ref b ∧ H a = some (.dK ks) ∧ H b = some (.dK []) ∧ Q (.bl (ks.length == 0)) H
def rNeD0 : R2 := fun x y H Q => ∃ a b ks, x = .ref a ∧ y = .ref b ∧ Rd H a (.dK ks) ∧ H b = some (.dK []) ∧ Q (.bl (!(ks.length == 0))) H
theorem op_eq_dict0 (hu : X.A.units < cLine) : OpR X (compareOp .Eq) rEqD0 := by
  intro pins s σ H x y v u Q I rx ry h
  obtain ⟨a, b, ks, rfl, rfl, ea, eb, q⟩ := h
  obtain rfl : v = Value.ref a := rx
  obtain rfl : u = Value.ref b := ry
  obtain ⟨_, ya, va, ra, da⟩ := (show ObjOk X.prog X.w H s.heap a (.dK ks) from I.hok a _ ea)
  obtain ⟨_, yb, vb, rb, db⟩ := (show ObjOk X.prog X.w H s.heap b (.dK []) from I.hok b _ eb)
  have hb : vb.length = 0 := by rw [← rb.length]; rfl
  have ha : va.length = ks.length := ra.length.symm
  refine PySem.W.keq_eq (knd := mixKind X.prog X.w) (r := true) ya yb da db hu (fun e => ?_) (fin_bl I q (by rw [ha, hb, Bool.and_true]))
  have k0 : ks = [] := List.length_eq_zero_iff.mp (by omega)
  subst k0
  exact hits_all rb ra (by simp)
theorem op_ne_dict0 (hu : X.A.units < cLine) : OpR X (compareOp .NotEq) rNeD0 := by
  intro pins s σ H x y v u Q I rx ry h
  obtain ⟨a, b, ks, rfl, rfl, ea, eb, q⟩ := h
  obtain rfl : v = Value.ref a := rx
  obtain rfl : u = Value.ref b := ry
  obtain ⟨_, ya, va, ra, da⟩ := (show ObjOk X.prog X.w H s.heap a (.dK ks) from ea.ok I.hok)
  obtain ⟨_, yb, vb, rb, db⟩ := (show ObjOk X.prog X.w H s.heap b (.dK []) from I.hok b _ eb)
  have hb : vb.length = 0 := by rw [← rb.length]; rfl
  have ha : va.length = ks.length := ra.length.symm
  refine PySem.W.keq_ne (knd := mixKind X.prog X.w) (r := true) ya yb da db hu (fun e => ?_) (fin_bl I q (by rw [ha, hb, Bool.and_true]))
  have k0 : ks = [] := List.length_eq_zero_iff.mp (by omega)
  subst k0
  exact hits_all rb ra (by simp)
end
end Mh
/-! Two sorted lists of the same texts are one. -/
namespace Mh
open PySem L2
def leS (a b : Str) : Prop := ¬ b.cps.toList < a.cps.toList
theorem leS_of {a b : Str} (h : PySem.Spec.ltCps b.cps.toList a.cps.toList = false) : leS a b := by
  intro z
  rw [PyProof.Rows.ltCps_eq, decide_eq_false_iff_not] at h
  exact h z
theorem leS_trans {a b c : Str} (h1 : leS a b) (h2 : leS b c) : leS a c := by
  have q : a.cps.toList ≤ c.cps.toList := List.le_trans (show a.cps.toList ≤ b.cps.toList from h1) (show b.cps.toList ≤ c.cps.toList from h2)
  exact q
theorem leS_antisymm {a b : Str} (h1 : leS a b) (h2 : leS b a) : a = b := by
  have q : a.cps.toList = b.cps.toList := List.le_antisymm (show a.cps.toList ≤ b.cps.toList from h1) (show b.cps.toList ≤ a.cps.toList from h2)
  cases a
  cases b
  have q := Array.toList_inj.mp q
  simp at q
  rw [q]
theorem rising_pw : ∀ {p : Str} {l : List Str}, PyProof.Rows.risingS p l = true → (p :: l).Pairwise leS
  | p, [], _ => by simp
  | p, x :: r, h => by
    have h : (!PySem.Spec.ltCps x.cps.toList p.cps.toList && PyProof.Rows.risingS x r) = true := h
    rw [Bool.and_eq_true, Bool.not_eq_true'] at h
    have px := leS_of h.1
    have ih := rising_pw h.2
    refine List.pairwise_cons.mpr ⟨fun y hy => ?_, ih⟩
    rcases List.mem_cons.mp hy with rfl | hy
    · exact px
    · exact leS_trans px ((List.pairwise_cons.mp ih).1 y hy)
theorem sorted_pw {l : List Str} (h : PyProof.Rows.sortedS l = true) : l.Pairwise leS := by
  cases l with
  | nil => exact List.Pairwise.nil
  | cons x r => exact rising_pw h
theorem pw_uniq : ∀ {l m : List Str}, l.Perm m → l.Pairwise leS → m.Pairwise leS → l = m
  | [], m, p, _, _ => (List.nil_perm.mp p).symm
  | a :: l, [], p, _, _ => absurd p.length_eq (by simp)
  | a :: l, b :: m, p, h1, h2 => by
    have e : a = b := by
      rcases List.mem_cons.mp (p.mem_iff.mp (List.mem_cons_self (a := a) (l := l))) with e | e
      · exact e
      · rcases List.mem_cons.mp (p.mem_iff.mpr (List.mem_cons_self (a := b) (l := m))) with q | q
        · exact q.symm
        · exact leS_antisymm ((List.pairwise_cons.mp h1).1 b q) ((List.pairwise_cons.mp h2).1 a e)
    subst e
    rw [pw_uniq (List.Perm.cons_inv p) (List.pairwise_cons.mp h1).2 (List.pairwise_cons.mp h2).2]
theorem sorted_uniq {l m : List Str} (p : l.Perm m) (h1 : PyProof.Rows.sortedS l = true) (h2 : PyProof.Rows.sortedS m = true) : l = m := pw_uniq p (sorted_pw h1) (sorted_pw h2)
/-- the names, sorted -/
instance (a b : Str) : Decidable (leS a b) := inferInstanceAs (Decidable (¬ b.cps.toList < a.cps.toList))
def sortN (l : List Str) : List Str := l.mergeSort fun a b => decide (leS a b)
theorem sortN_perm (l : List Str) : (sortN l).Perm l := List.mergeSort_perm l _
theorem sortN_pw (l : List Str) : (sortN l).Pairwise leS := by
  have h := List.pairwise_mergeSort (le := fun a b => decide (leS a b)) (fun a b c h1 h2 => decide_eq_true (leS_trans (of_decide_eq_true h1) (of_decide_eq_true h2)))
    (fun a b => by
      have t : a.cps.toList ≤ b.cps.toList ∨ b.cps.toList ≤ a.cps.toList := List.le_total _ _
      rcases t with t | t
      · rw [decide_eq_true (show leS a b from t)]
        rfl
      · rw [decide_eq_true (show leS b a from t), Bool.or_true]) l
  exact h.imp fun h => of_decide_eq_true h
theorem sortN_eq {ys l : List Str} (p : ys.Perm l) (h : PyProof.Rows.sortedS ys = true) : ys = sortN l := pw_uniq (p.trans (sortN_perm l).symm) (sorted_pw h) (sortN_pw l)
theorem sortN_len (l : List Str) : (sortN l).length = l.length := (sortN_perm l).length_eq
end Mh
/-! isinstance of data; math.comb. -/
namespace Mh
open PySem L2
theorem ty_tupD {K : PySem.W.Frag} {H : Hp} {a : Addr} {xs : List V} (h : SqT K H a xs) : TyX K H (.ref a) (.type "tuple") := by
  rcases h with h | h
  · rcases h with h | ⟨o, h⟩
    · exact .base (.tup h)
    · exact .fTuple h
  · obtain ⟨o, its, n, h1, h2, _⟩ := h
    exact .kTuple h1 h2
def tyD : PyData → String
  | .none => "NoneType"
  | .bool _ => "bool"
  | .int _ => "int"
  | .str _ => "str"
  | .list _ => "list"
  | .tuple _ => "tuple"
  | .dict _ => "dict"
theorem dp_ty {K : PySem.W.Frag} {H : Hp} {v : V} {d : PyData} (h : Dp K H v d) : TyX K H v (.type (tyD d)) := by
  cases h with
  | non => exact .base .non
  | bl b => exact .base (.bl b)
  | int i => exact .base (.int i)
  | str x => exact .base (.str x)
  | lst h _ => exact ty_lst h
  | tup h _ => exact ty_tupD h
def isTup : PyData → Bool
  | .tuple _ => true
  | _ => false
def isLst : PyData → Bool
  | .list _ => true
  | _ => false
def isStrD : PyData → Bool
  | .str _ => true
  | _ => false
def isBool : PyData → Bool
  | .bool _ => true
  | _ => false
def isIntD : PyData → Bool
  | .int _ => true
  | .bool _ => true
  | _ => false
section
variable {K : PySem.W.Frag}
theorem kit_tup (d : PyData) : PySem.W.kitOne K (.type (tyD d)) (.type "tuple") = some (isTup d) := by
  cases d <;> exact kit_ty (by dsimp only [tyD, isTup, isLst, isStrD, isBool, isIntD]; decide +kernel)
theorem kit_str (d : PyData) : PySem.W.kitOne K (.type (tyD d)) (.type "str") = some (isStrD d) := by
  cases d <;> exact kit_ty (by dsimp only [tyD, isTup, isLst, isStrD, isBool, isIntD]; decide +kernel)
theorem kit_lst (d : PyData) : PySem.W.kitOne K (.type (tyD d)) (.type "list") = some (isLst d) := by
  cases d <;> exact kit_ty (by dsimp only [tyD, isTup, isLst, isStrD, isBool, isIntD]; decide +kernel)
theorem kit_bool (d : PyData) : PySem.W.kitOne K (.type (tyD d)) (.type "bool") = some (isBool d) := by
  cases d <;> exact kit_ty (by dsimp only [tyD, isTup, isLst, isStrD, isBool, isIntD]; decide +kernel)
theorem kit_int (d : PyData) : PySem.W.kitOne K (.type (tyD d)) (.type "int") = some (isIntD d) := by
  cases d <;> exact kit_ty (by dsimp only [tyD, isTup, isLst, isStrD, isBool, isIntD]; decide +kernel)
end
/-- methods of a class of the text -/
structure DfM (K : PySem.W.Frag) (C : Addr) (x q : Str) (st : Stmt) (ps : List Str) (f : Addr) (fd : FuncData) : Prop where
  F : Fun K x q st f fd
  m : Meth K C x f
  b : Binds K fd ps []
/-- in how many ways j are taken of n -/
def binom : Nat → Nat → Nat
  | _, 0 => 1
  | 0, _ + 1 => 0
  | n + 1, k + 1 => binom n k + binom n (k + 1)
theorem comb_step : ∀ n, n < 33 → ∀ k, k < 34 → PySem.W.mcComb ((n + 1 : Nat) : Int) ((k + 1 : Nat) : Int) = PySem.W.mcComb (n : Int) (k : Int) + PySem.W.mcComb (n : Int) ((k + 1 : Nat) : Int) := by decide +kernel
theorem comb_binom : ∀ {n k : Nat}, n ≤ 33 → k ≤ 34 → PySem.W.mcComb (n : Int) (k : Int) = ((binom n k : Nat) : Int)
  | n, 0, _, _ => by
    have e := PySem.W.mcComb_ends (a := (n : Int)) (b := ((0 : Nat) : Int)) (by omega) (by omega) (.inl rfl)
    rw [e]
    cases n <;> rfl
  | 0, k + 1, _, _ => PySem.W.mcComb_above (by omega)
  | n + 1, k + 1, hn, hk => by
    rw [comb_step n (by omega) k (by omega), comb_binom (n := n) (k := k) (by omega) (by omega), comb_binom (n := n) (k := k + 1) (by omega) (by omega)]
    rfl
section
variable {X : Cx}
def rComb : List V → Hp → VK → Prop := fun vs H Q => ∃ a b : Nat, vs = [.int a, .int b] ∧ a ≤ 33 ∧ b ≤ 34 ∧ Q (.int ((binom a b : Nat) : Int)) H
theorem cr_comb : CallR X (.builtin "math.comb") rComb := by
  intro pins s σ H vs us Q I r h
  obtain ⟨a, b, rfl, ha, hb, q⟩ := h
  obtain ⟨t, u, rfl⟩ := Vals.int2 r
  exact PySem.W.mc_comb (by omega) (by omega) (by omega) (.inl (by omega)) fun _ => by
    rw [comb_binom ha hb]
    exact ⟨.int _, H, I.tok _, ⟨_, rfl⟩, q⟩
end
end Mh
/-! {**a, **b} of two dicts. -/
namespace Mh
open PySem L2
section
variable {prog : Program} {w : World} {κ : Type} [DecidableEq κ] {knd : KeyKind prog w κ} {A : Around} {E : Value → Shared → Prop} {s : Shared}
theorem put_at {d : Addr} {kvs : List (κ × Value)} {k : κ} {key v : Value} {Q : Unit → Shared → Prop} (isk : knd.is k key = true) (M : s.heap.DictOf knd d kvs) (few : kvs.length ≤ sizeLine)
    (q : ∀ h', h'.DictOf knd d (stored kvs k v) → Heap.SameBut d s.heap h' → Q () { s with heap := h' }) : wpAny (model prog w) A (dictPut d (knd.hash k) key v) Q E s := by
  obtain ⟨o, es, ep, e1, e2, e3, e4, e5, e6⟩ := M
  have les : es.size ≤ sizeLine := by
    have z := e5.length
    rw [Array.length_toList] at z
    omega
  have at_ : (es.findIdx? fun e => knd.is k e.key) = kvs.findIdx? fun kv => decide (kv.1 = k) := by
    have z := e5.findIdx k
    cases es
    simpa using z
  unfold dictPut
  refine wpAny_bind (wpAny_dictFind_of isk e1 e3 e4 ?_)
  cases hi : es.findIdx? fun e => knd.is k e.key with
  | some i =>
    have there := any_of_findIdx_some (at_.symm.trans hi)
    have li : (es.toList.findIdx? fun e => knd.is k e.key) = some i := by
      cases es
      simpa using hi
    have pm := e5.modify e6 li v
    refine wpAny_updateDict e1 e3 (q _ ⟨_, _, ep, Heap.get?_update_self _ e1 (Obj.isFreed_of_dict (Obj.data_mapDict e3 _)), e2.mapDict _, Obj.data_mapDict e3 _, e4.modify _ _, ?_, ?_⟩ (Heap.SameBut.update ..))
    · unfold stored
      rw [if_pos there]
      cases es
      simpa using pm
    · unfold stored
      rw [if_pos there, keys_map_store]
      exact e6
  | none =>
    have no : k ∉ kvs.map (·.1) := not_mem_of_findIdx_none (at_.symm.trans hi)
    have none_ : ¬ (kvs.any fun kv => decide (kv.1 = k)) = true := fun z => by
      obtain ⟨x, hx, hk⟩ := List.any_eq_true.mp z
      exact no (List.mem_map.mpr ⟨x, hx, of_decide_eq_true hk⟩)
    have pa := e5.append isk (knd.hash k) v
    refine wpAny_updateDictKeys (hz := les) e1 e3 (q _ ⟨_, _, ep + 1, Heap.get?_update_self _ e1 (Obj.isFreed_of_dict (Obj.data_mapDictKeys e3 _)), e2.mapDictKeys _, Obj.data_mapDictKeys e3 _, e4.push isk _, ?_, ?_⟩ (Heap.SameBut.update ..))
    · unfold stored
      rw [if_neg none_]
      cases es
      simpa using pa
    · unfold stored
      rw [if_neg none_, List.map_append, List.nodup_append]
      refine ⟨e6, by simp, fun a ha b hb z => ?_⟩
      have zb : b = k := by simpa using hb
      exact no (by rw [← zb, ← z]; exact ha)
theorem mergeMap_at {d o : Addr} {kvs more : List (κ × Value)} {Q : Unit → Shared → Prop} (noRef : ∀ k v, knd.is k v = true → ∀ a, v ≠ .ref a) (hdo : d ≠ o) (hoS : (o == sysModules) = false)
    (hd : s.heap.DictOf knd d kvs) (ho : s.heap.DictOf knd o more) (few : kvs.length + more.length ≤ sizeLine)
    (q : ∀ h', h'.DictOf knd d (merged kvs more) → Heap.SameBut d s.heap h' → Q () { s with heap := h' }) :
    wpAny (model prog w) A (mergeMapping d (.ref o) false) Q E s := by
  obtain ⟨od, esd, epd, d1, d2, d3, d4, d5, d6⟩ := id hd
  obtain ⟨oo, eso, epo, o1, o2, o3, o4, o5, o6⟩ := id ho
  have len : more.length = eso.size := by
    have z := o5.length
    rw [Array.length_toList] at z
    exact z.symm
  have loop : wpAny (model prog w) A (do
      let size := (← dictEntries o).size
      let epoch ← dictEpoch o
      for i in List.range size do
        let some e := (← dictEntries o)[i]? | unsupported "dict.changed-during-merge"
        holding [e.key, e.val] do
          if false then
            if (← dictFind d e.key e.hash).isSome then rule "dict.merge.duplicate-key"; raiseNew (← newExc (.type "KeyError") [e.key])
          dictPut d e.hash e.key e.val
        if (← dictEpoch o) != epoch then unsupported "dict.changed-during-merge") Q E s := by
    refine wpAny_bind (wpAny_dictEntries o1 o3 ?_)
    refine wpAny_bind (wpAny_dictEpoch o1 o3 ?_)
    refine wpAny_bind (wpAny_forIn_list _ (fun rest _ s' => ∃ h' i, s' = { s with heap := h' } ∧ rest = (List.range eso.size).drop i ∧ i ≤ eso.size ∧ h'.DictOf knd d (merged kvs (more.take i)) ∧ h'.get? o = some oo ∧ Heap.SameBut d s.heap h')
      _ ?_ ?_ _ _ ⟨s.heap, 0, rfl, rfl, Nat.zero_le _, by simpa [merged] using hd, o1, Heap.SameBut.refl _ _⟩)
    · rintro x rest b s' ⟨h', i, rfl, hr, hi, hd', ho', hs'⟩
      have hlt : i < eso.size := by
        rcases Nat.lt_or_ge i eso.size with h | h
        · exact h
        · rw [List.drop_eq_nil_of_le (by simpa using h)] at hr
          cases hr
      rw [List.drop_eq_getElem_cons (by simpa using hlt), List.getElem_range] at hr
      obtain ⟨rfl, rfl⟩ := List.cons.inj hr
      refine wpAny_bind (wpAny_dictEntries ho' o3 ?_)
      rw [Array.getElem?_eq_getElem hlt]
      obtain ⟨⟨k, v⟩, hkv⟩ : ∃ kv, more[x]? = some kv := ⟨more[x]'(by omega), List.getElem?_eq_getElem _⟩
      obtain ⟨hkey, hval⟩ := o5.get? (e := eso[x]) (by simp [hlt]) hkv
      obtain ⟨k', hkey', hhash⟩ := o4 eso[x] (Array.getElem_mem hlt)
      have ek : k' = k := knd.inj _ _ _ hkey' hkey
      subst ek
      show wpAny _ _ (holding [eso[x].key, eso[x].val] _ >>= _) _ _ _
      rw [hhash, hval]
      have l1 := merged_length_le kvs (more.take x)
      have l2 : (more.take x).length ≤ more.length := by
        rw [List.length_take]
        omega
      refine wpAny_bind (wpAny_holding ?_)
      refine put_at hkey hd' (by omega) fun h'' hd'' hs'' => ?_
      have ho'' : h''.get? o = some oo := (hs''.2 o hdo.symm).trans ho'
      refine wpAny_bind (wpAny_dictEpoch ho'' o3 ?_)
      rw [if_neg (by simp)]
      exact wpAny_pure ⟨h'', x + 1, rfl, rfl, hlt, by rw [merged_take_succ kvs more x (k', v) hkv]; exact hd'', ho'', hs'.trans hs''⟩
    · rintro b s' ⟨h', i, rfl, hr, hi, hd', ho', hs'⟩
      have hin : i = eso.size := by
        rcases Nat.lt_or_ge i eso.size with h | h
        · rw [List.drop_eq_getElem_cons (by simpa using h)] at hr
          cases hr
        · omega
      refine wpAny_pure (q h' ?_ hs')
      rw [hin, ← len, List.take_length] at hd'
      exact hd'
  have first : ∀ {R : Unit → Shared → Prop} {m : Sem Unit}, wpAny (model prog w) A m R E s → wpAny (model prog w) A (do
      let es ← dictEntries o
      for e in es do
        if let .ref _ := e.key then
          if (← specialOf e.key "__eq__") != some (.builtin "object.__eq__") then
            if (es.filter (·.hash == e.hash)).size > 1 then unsupported "dict.merge-into-an-empty-dict:keys-of-equal-hash"
      m) R E s := fun {R m} r => by
    refine wpAny_bind (wpAny_dictEntries o1 o3 ?_)
    rw [← Array.forIn_toList]
    refine wpAny_bind (wpAny_forIn_list _ (fun rest _ s' => s' = s ∧ ∀ e ∈ rest, e ∈ eso.toList) _ ?_ ?_ _ _ ⟨rfl, fun _ h => h⟩)
    · rintro e rest b s' ⟨rfl, h⟩
      obtain ⟨k, hk, _⟩ := o4 e (Array.mem_toList_iff.mp (h e List.mem_cons_self))
      have nr := noRef k e.key hk
      have tail : ∀ z ∈ rest, z ∈ eso.toList := fun z hz => h z (List.mem_cons_of_mem _ hz)
      cases hq : e.key with
      | ref a => exact absurd hq (nr a)
      | _ => exact wpAny_pure ⟨rfl, tail⟩
    · rintro b s' ⟨rfl, _⟩
      exact r
  unfold mergeMapping
  refine wpAny_bind (wpAny_isInstance ho.typeIs isSubtype_dict_dict ?_)
  simp only [if_true]
  refine wpAny_bind (wpAny_specialOf ho.typeIs F.slot_dict_iter.lookup ?_)
  simp only [beq_self_eq_true]
  refine wpAny_bind (wpAny_pure ?_)
  simp only [hoS, Bool.false_eq_true, if_false]
  refine wpAny_bind (wpAny_dictEntries d1 d3 ?_)
  cases esd.isEmpty with
  | true =>
    simp only [if_true]
    exact first loop
  | false =>
    simp only [Bool.false_eq_true, if_false]
    exact loop
theorem calm_all {v : Value} {m : Sem Unit} {d : Addr} {Q : Unit → Shared → Prop} {k1 k3 : Value → Sem Unit} {k2 : Value → Sem Unit} (h : wpAny (model prog w) A m Q (fun _ _ => False) s) :
    wpAny (model prog w) A ((tryCatch (m.onRaise k1) k2).onRaise k3) Q E s :=
  wpAny_onRaise (wpAny_tryCatch (wpAny_onRaise (wpAny_mono h (fun _ _ q => q) fun _ _ z => z.elim)))
theorem disp_two {v1 v2 : Sem Value} {Q : Value → Shared → Prop}
    (h : wpAny (model prog w) A v1 (fun m s1 => wpAny (model prog w) A (mergeMapping s.heap.objs.size m false) (fun _ s2 => wpAny (model prog w) A v2 (fun n s3 =>
      wpAny (model prog w) A (mergeMapping s.heap.objs.size n false) (fun _ s4 => Q (.ref s.heap.objs.size) s4) (fun _ _ => False) s3) E s2) (fun _ _ => False) s1) E { s with heap := s.heap.push { cls := .type "dict", data := .dict #[] } }) :
    wpAny (model prog w) A (dictDisplay [(none, v1), (none, v2)]) Q E s := by
  unfold dictDisplay
  simp only [List.forIn_cons, List.forIn_nil]
  refine wpAny_bind (wpAny_bind (wpAny_bind ?_))
  rw [if_pos (by rfl)]
  refine wpAny_pure ?_
  refine wpAny_bind (wpAny_alloc ?_)
  refine wpAny_bind (wpAny_holding (wpAny_mono h (fun m s1 h1 => ?_) fun _ _ z => z))
  refine wpAny_bind (calm_all (v := .none) (d := 0) (wpAny_holding (wpAny_mono h1 (fun _ s2 h2 => ?_) fun _ _ z => z)))
  refine wpAny_pure ?_
  refine wpAny_bind (wpAny_bind ?_)
  rw [if_pos (by rfl)]
  refine wpAny_pure ?_
  refine wpAny_bind (wpAny_pure ?_)
  refine wpAny_bind (wpAny_holding (wpAny_mono h2 (fun n s3 h3 => ?_) fun _ _ z => z))
  refine wpAny_bind (calm_all (v := .none) (d := 0) (wpAny_holding (wpAny_mono h3 (fun _ s4 h4 => ?_) fun _ _ z => z)))
  refine wpAny_pure (wpAny_pure ?_)
  refine wpAny_bind ?_
  rw [if_pos (by rfl)]
  exact wpAny_pure (wpAny_pure h4)
end
section
variable {X : Cx} {a b : Expr} {ta tb : TE} {pos : Pos}
/-- {**a, **b}: the pairs of the first, then of the second -/
def tMerge (ta tb : TE) : TE := fun σ H Q => ∀ p, H p = none → ta σ (upd H p (.dK [])) fun x H1 => ∃ d ks, x = .ref d ∧ d ≠ p ∧ Rd H1 d (.dK ks) ∧ H1 p = some (.dK []) ∧ ks.length ≤ 1000 ∧ tb σ (upd H1 p (.dK (mergeK [] ks))) fun y H2 => ∃ e ls, y = .ref e ∧ e ≠ p ∧ Rd H2 e (.dK ls) ∧
  H2 p = some (.dK (mergeK [] ks)) ∧ ks.length + ls.length ≤ 1000 ∧ Q (.ref p) (upd H2 p (.dK (mergeK (mergeK [] ks) ls)))
theorem no_refs {P : Program} {w : World} : ∀ (k : Key) (v : Value), (mixKind P w).is k v = true → ∀ a, v ≠ .ref a := fun k v h a e => by
  rcases keyIs_shape (show keyIs k v = true from h) with ⟨_, _, _, z⟩ | ⟨_, _, _, z⟩ <;> (rw [e] at z; cases z)
theorem merge_step {pins : List (Addr × Obj)} {σ : St} {H : Hp} {s : Shared} {p d : Addr} {ks ls : List (Key × V)} {Q : Unit → Shared → Prop} (I : Inv X pins σ H s) (ne : d ≠ p) (hp : H p = some (.dK ks)) (hd : Rd H d (.dK ls)) (few : ks.length + ls.length ≤ 2000)
    (q : ∀ s', Inv X pins σ (upd H p (.dK (mergeK ks ls))) s' → Q () s') : wpAny (model X.prog X.w) X.A (mergeMapping p (.ref d) false) Q (fun _ _ => False) s := by
  have sL := sizeLine_eq
  obtain ⟨_, hs1, vs, r1, m1⟩ := dk_of I.hok hp
  obtain ⟨_, hs2, us, r2, m2⟩ := dk_rd I.hok hd
  refine mergeMap_at no_refs ne.symm hs2 m1 m2 (by rw [← r1.length, ← r2.length]; omega) fun h' dd hs => q _ ?_
  have he : ∃ q, h'.get? p = some q := let ⟨q, _, _, hq, _⟩ := dd; ⟨q, hq⟩
  have hz := length_mergeK ls ks
  exact d_write I (by rw [hp]; exact True.intro) hs he (dk_new (by omega) hs1 (r2.merge r1) dd)
theorem pe_merge2 (ha : PE X a ta) (hb : PE X b tb) : PE X (.Dict [none, none] [a, b] pos) (tMerge ta tb) := by
  refine ⟨fun pins s σ H Q I h => ?_⟩
  rw [arm_eval_Dict]
  refine wpAny_bind (wpAny_standAt ?_)
  have hn := I.hok.fresh (Nat.le_refl s.heap.objs.size)
  have I1 := I.laid (a := s.heap.objs.size) (o := .dK []) (h' := s.heap.push { cls := .type "dict", data := .dict #[] }) (t' := s.toks) (fun _ _ q => Heap.get?_push_of_some _ q) (Nat.le_refl _) (dk_empty s.heap I.big)
  refine disp_two ?_
  refine wpAny_bind (thn (ha.run pins _ σ _ _ I1 (h _ hn)) fun u s1 ⟨x, H1, I2, rx, d, ks, ex, ne, hd, hp, few, k1⟩ => ?_)
  subst ex
  obtain rfl : u = Value.ref d := rx
  refine wpAny_bind (wpAny_standAt (wpAny_pure ?_))
  have l1 : (mergeK [] ks).length ≤ 0 + ks.length := length_mergeK ks []
  refine merge_step I2 ne hp hd (by simp; omega) fun s2 I3 => ?_
  refine wpAny_bind (thn (hb.run pins _ σ _ _ I3 k1) fun v s3 ⟨y, H2, I4, ry, e, ls, ey, ne2, he, hp2, few2, k2⟩ => ?_)
  subst ey
  obtain rfl : v = Value.ref e := ry
  refine wpAny_bind (wpAny_standAt (wpAny_pure ?_))
  refine merge_step I4 ne2 hp2 he (by omega) fun s4 I5 => ?_
  exact ⟨.ref s.heap.objs.size, _, I5, rfl, k2⟩
end
end Mh
/-! sorted of rows (number, text, ..) of which no two have the same number and text. -/
namespace Mh
open PySem L2 PyProof.Rows
def ltS (x y : Str) : Bool := decide (x.cps.toList < y.cps.toList)
/-- by the number, then by the text -/
def ltR (p q : Int × Str) : Bool := if p.1 = q.1 then ltS p.2 q.2 else decide (p.1 < q.1)
theorem ltS_irr (x : Str) : ltS x x = false := decide_eq_false (List.lt_irrefl _)
theorem ltS_asym {x y : Str} (h : ltS x y = true) : ltS y x = false := by
  have h := of_decide_eq_true h
  exact decide_eq_false fun z => (List.lt_irrefl x.cps.toList) (List.lt_trans h z)
theorem ltS_no {x y : Str} : ltS x y = false ↔ leS y x := by
  unfold ltS
  rw [decide_eq_false_iff_not]
  exact Iff.rfl
theorem ltR_swo {α : Type} (k : α → Int × Str) : SrtO.Swo fun v u => ltR (k v) (k u) := by
  refine ⟨fun x y h => ?_, fun x y z h1 h2 => ?_⟩
  · unfold ltR at h ⊢
    split at h
    · rename_i e
      rw [if_pos e.symm]
      exact ltS_asym h
    · rename_i e
      rw [if_neg fun z => e z.symm]
      have h := of_decide_eq_true h
      exact decide_eq_false (by omega)
  · unfold ltR at h1 h2 ⊢
    split at h1
    · rename_i e1
      split at h2
      · rename_i e2
        rw [if_pos (e2.trans e1)]
        rw [ltS_no] at h1 h2 ⊢
        exact leS_trans h1 h2
      · rename_i e2
        rw [if_neg fun z => e2 (z.trans e1.symm)]
        have h2 := of_decide_eq_false h2
        exact decide_eq_false (by omega)
    · rename_i e1
      have h1 := of_decide_eq_false h1
      split at h2
      · rename_i e2
        rw [if_neg fun z => e1 (e2.symm.trans z)]
        exact decide_eq_false (by omega)
      · rename_i e2
        have h2 := of_decide_eq_false h2
        rw [if_neg (by omega)]
        exact decide_eq_false (by omega)
/-- a row at an address -/
def IsRow (h : Heap) (v : Value) (k : Int × Str) : Prop := ∃ a o t u rest n, v = .ref a ∧ h.get? a = some o ∧ o.cls = .type "tuple" ∧ o.data = .seq (Value.int k.1 t :: Value.str k.2 u :: rest).toArray n
theorem IsRow.keeps {h h' : Heap} {v : Value} {k : Int × Str} (p : IsRow h v k) (q : ∀ b o, h.get? b = some o → o.cls = .type "tuple" → h'.get? b = some o) : IsRow h' v k := by
  obtain ⟨a, o, t, u, rest, n, e, ho, hc, hd⟩ := p
  exact ⟨a, o, t, u, rest, n, e, q a o ho hc, hc, hd⟩
section
variable {prog : Program} {w : World} {A : Around} {E : Value → Shared → Prop} {s : Shared}
theorem lex_same {b fin : Bool} {Q : Bool → Shared → Prop} (q : Q fin s) : ∀ (l : List Value) (i : Nat), PySem.W.KatLex prog w A b fin Q (l.zip l) i s
  | [], _ => PySem.W.kat_nil q
  | x :: l, i => by
    show PySem.W.KatLex prog w A b fin Q ((x, x) :: l.zip l) i s
    refine PySem.W.kat_cons (SeqAt.EqAt.same x prog w _ _ ?_)
    exact PySem.W.kat_yes (lex_same q l (i + 1))
theorem row_cmp {vs : List Value} {k : Value → Int × Str} (hp : ∀ v ∈ vs, IsRow s.heap v (k v)) (one : ∀ v ∈ vs, ∀ u ∈ vs, k v = k u → v = u) :
    SrtO.Cmp prog w A s (tuples' true) (fun p => p.1 ∈ vs) (SrtO.lt2 fun v u => ltR (k v) (k u)) := by
  intro p q hm hm'
  show wpAny (model prog w) A (keyLt' (tuples' true) p.1 q.1) (fun r s' => s' = s ∧ r = ltR (k p.1) (k q.1)) (fun _ _ => False) s
  by_cases e : p.1 = q.1
  · rw [← e]
    obtain ⟨a, o, t, u, rest, n, e1, ho, hc, hd⟩ := hp _ hm
    have er : ltR (k p.1) (k p.1) = false := (ltR_swo k).refl p.1
    rw [er, e1]
    refine PySem.W.kat_lt ho hd ho hd (lex_same ⟨rfl, ?_⟩ _ _)
    simp
  · have ne : ¬ k p.1 = k q.1 := fun z => e (one _ hm _ hm' z)
    obtain ⟨a, o, t, u, rest, n, e1, ho, hc, hd⟩ := hp _ hm
    obtain ⟨a', o', t', u', rest', n', e2, ho', hc', hd'⟩ := hp _ hm'
    generalize k p.1 = x at ne hd ⊢
    generalize k q.1 = y at ne hd' ⊢
    rw [e1, e2]
    refine PySem.W.kat_lt ho hd ho' hd' ?_
    show PySem.W.KatLex prog w A true _ _ ((Value.int x.1 t, Value.int y.1 t') :: (Value.str x.2 u, Value.str y.2 u') :: rest.zip rest') 0 s
    refine PySem.W.kat_cons (SeqAt.EqAt.int_int x.1 t y.1 t' prog w _ _ ?_)
    refine PySem.W.kat_go (fun q1 => ?_) (fun q1 => ?_)
    · have q1 : x.1 = y.1 := by simpa using q1
      refine PySem.W.kat_yes (PySem.W.kat_cons (SeqAt.EqAt.str_str x.2 u y.2 u' prog w _ _ ?_))
      refine PySem.W.kat_go (fun q2 => ?_) (fun q2 => ?_)
      · have q2 : x.2 = y.2 := by simpa using q2
        exact absurd (Prod.ext q1 q2) ne
      · refine PySem.W.kat_no (oneLt_any_str ⟨rfl, ?_⟩)
        unfold ltR
        rw [if_pos q1]
        rfl
    · have q1 : ¬ x.1 = y.1 := by simpa using q1
      refine PySem.W.kat_no (oneLt_any_int ⟨rfl, ?_⟩)
      unfold ltR
      rw [if_neg q1]
theorem row_firsts {h : Heap} {k : Value → Int × Str} : ∀ {vs : List Value}, (∀ v ∈ vs, IsRow h v (k v)) → ∃ fs, PySem.W.KatTups h vs fs ∧ fs.length = vs.length ∧ ∀ f ∈ fs, ∃ x t, f = Value.int x t
  | [], _ => ⟨[], PySem.W.KatTups.nil, rfl, fun f hf => by cases hf⟩
  | v :: vs, hp => by
    obtain ⟨fs, h1, h2, h3⟩ := row_firsts (vs := vs) fun u hu => hp u (List.mem_cons_of_mem _ hu)
    obtain ⟨a, o, t, u, rest, n, e, ho, hc, hd⟩ := hp v List.mem_cons_self
    subst e
    refine ⟨Value.int (k (.ref a)).1 t :: fs, PySem.W.KatTups.cons ho hc hd (by simp) h1, by rw [List.length_cons, List.length_cons, h2], fun f hf => ?_⟩
    rcases List.mem_cons.mp hf with z | z
    · exact ⟨_, _, z⟩
    · exact h3 f z
theorem sorted_rows {l : Addr} {vs : List Value} {k : Value → Int × Str} {Q : Value → Shared → Prop} (hl : s.heap.IsList l vs.toArray) (hz : vs.length ≤ sizeLine) (hp : ∀ v ∈ vs, IsRow s.heap v (k v)) (one : ∀ v ∈ vs, ∀ u ∈ vs, k v = k u → v = u)
    (h : ∀ (h' : Heap) (d : Addr) (out : List Value), SrtO.Srtd (fun v u => ltR (k v) (k u)) out → out.Perm vs → (∀ b o, s.heap.get? b = some o → h'.get? b = some o) → s.heap.objs.size ≤ d → (∃ n, h'.get? d = some (seqObj "list" out.toArray n)) → Q (.ref d) { s with heap := h' }) :
    wpAny (model prog w) A (call (.builtin "sorted") [.ref l]) Q E s := by
  refine SrtO.sorted_ord (ltR_swo k) hl hz (fun h2 h₁ a ha kk h' keep => ?_) fun out hs hb => ?_
  · have hp' : ∀ v ∈ vs, IsRow h' v (k v) := fun v hm => (hp v hm).keeps fun b o e c => keep b o (fun z => by
      have e2 := ha
      rw [← z, (kk b o e).2] at e2
      cases e2
      exact absurd (Value.type.inj c) (by decide)) ((kk b o e).2)
    obtain ⟨fs, f1, f2, f3⟩ := row_firsts hp'
    refine ⟨tuples' true, fun Q' E' hq => ?_, row_cmp (s := { s with heap := h' }) hp' one⟩
    refine PySem.W.kat_kind (s := { s with heap := h' }) (T := .type "int") f1 (by omega) (fun f hf => ?_) (by rfl) ?_
    · obtain ⟨x, t, rfl⟩ := f3 f hf
      exact PySem.W.Looks.now
    · have e : (Value.type "int" != Value.type "tuple") = true := by decide
      rw [e]
      exact hq
  · exact h _ _ out hs hb.perm (fun b o e => sortedAll_old e) (Nat.le_succ _) (sortedAll_at s.heap vs out.toArray)
end
section
variable {X : Cx}
/-- sorted of such rows: k says what stands first in each -/
def rSortedRow (K : PySem.W.Frag) : List V → Hp → VK → Prop := fun vs H Q => ∃ (a : Addr) (xs : List V) (k : V → Int × Str), vs = [V.ref a] ∧ SqL K H a xs ∧ (∀ x ∈ xs, ∃ t r, x = V.ref t ∧ SqT K H t (.int (k x).1 :: .str (k x).2 :: r)) ∧ (∀ x ∈ xs, ∀ y ∈ xs, k x = k y → x = y) ∧
  ∀ ys p, ys.Pairwise (fun x y => ltR (k y) (k x) = false) → ys.Perm xs → H p = none → Q (.ref p) (upd H p (.lst ys))
theorem cr_sortedRow : CallR X (.builtin "sorted") (rSortedRow X.K) := by
  intro pins s σ H vs us Q I r h
  obtain ⟨a, xs, k, rfl, hs, hx, one, q⟩ := h
  obtain ⟨its, rv, hl, hz⟩ := I.list hs
  obtain ⟨u, rfl, ru⟩ := vals1 r
  obtain rfl : u = Value.ref a := ru
  obtain ⟨e1, e2⟩ := refs_back rv fun x m => by
    obtain ⟨t, _, e, _⟩ := hx x m
    exact ⟨t, e⟩
  refine sorted_rows (k := fun u => k (backV u)) hl.isList (by rw [← rv.length]; exact hz) (fun v hv => ?_) (fun v hv u hu e => ?_) fun h' d out h1 h2 kp hd hn => ?_
  · obtain ⟨t, rfl⟩ := e2 v hv
    have hm : V.ref t ∈ xs := by rw [e1]; exact List.mem_map.mpr ⟨_, hv, rfl⟩
    obtain ⟨t', r', e, ht⟩ := hx _ hm
    cases e
    obtain ⟨its2, r2, ⟨o, ho, hc, n, hd⟩, _⟩ := I.tuple ht
    cases r2 with
    | cons q1 r2 =>
      cases r2 with
      | cons q2 r2 =>
        obtain ⟨t1, rfl⟩ := q1
        obtain ⟨t2, rfl⟩ := q2
        exact ⟨t, o, t1, t2, _, n, rfl, ho, hc, hd⟩
  · obtain ⟨t, rfl⟩ := e2 v hv
    obtain ⟨t', rfl⟩ := e2 u hu
    have hm : V.ref t ∈ xs := by rw [e1]; exact List.mem_map.mpr ⟨_, hv, rfl⟩
    have hm' : V.ref t' ∈ xs := by rw [e1]; exact List.mem_map.mpr ⟨_, hu, rfl⟩
    have z := one _ hm _ hm' e
    injection z with z
    rw [z]
  · have h3 : ∀ u ∈ out, ∃ a, u = Value.ref a := fun u hu => e2 u (h2.mem_iff.mp hu)
    obtain ⟨n, hn⟩ := hn
    have hb : (out.map backV).Perm xs := by
      rw [e1]
      exact h2.map backV
    refine ⟨.ref d, upd H d (.lst (out.map backV)), I.laid (t' := s.toks) kp hd ⟨?_, out, n, vals_back h3, hn⟩, rfl, q _ d (List.pairwise_map.mpr h1) hb (I.hok.fresh hd)⟩
    rw [hb.length_eq]
    exact hz
end
end Mh
/-! Dict comprehensions over any walk; as a statement. -/
namespace Mh
open PySem L2
section
variable {J : It} {n : Nat} {G : Hp → Prop} {Y : Nat → Hp → V → Hp → Prop}
/-- a dict comprehension over a walk: Pv by the turn and the heap -/
theorem dc_it (w : Walk J n G Y) {g : TG} {tt : TT} {tk tv : TE} {vs : List Nat} {σ : St} {H1 : Hp} {D : Addr} {Qd : Hp → Prop} (Pv : Nat → Hp → Prop)
    (h0 : Pv 0 (upd H1 D (.dK []))) (hG : ∀ i H, i ≤ n → Pv i H → G H)
    (hs : ∀ i x H H', i < n → Pv i H → Y i H x H' → g x (wipe σ vs) H' fun σ2 H2 => wipe σ2 vs = wipe σ vs ∧ tt σ2 H2 fun b H3 => if b = true then tk σ2 H3 fun y H4 => tv σ2 H4 fun z H5 =>
      ∃ kvs k, y = kV k ∧ H5 D = some (.dK kvs) ∧ kvs.length < sizeLine ∧ Pv (i + 1) (upd H5 D (.dK (putK kvs k z))) else Pv (i + 1) H3)
    (hd : ∀ H, Pv n H → Qd H) :
    ∃ W : Nat → Nat → Hp → Prop, (∃ m, W 0 m (upd H1 D (.dK []))) ∧ ∀ i m H, W i m H → (J.stop i H ∧ Qd H) ∨ (J.go i H ∧ ∃ Nx : Hp → Prop, (∀ H', Nx H' → ∃ m', m' < m ∧ W (i + 1) m' H') ∧
      ∀ x H', J.yld i H x H' → g x (wipe σ vs) H' fun σ2 H2 => wipe σ2 vs = wipe σ vs ∧ tt σ2 H2 fun b H3 => if b = true then tk σ2 H3 fun y H4 => tv σ2 H4 fun z H5 =>
        ∃ kvs k, y = kV k ∧ H5 D = some (.dK kvs) ∧ kvs.length < sizeLine ∧ Nx (upd H5 D (.dK (putK kvs k z))) else Nx H3) := by
  refine ⟨fun i m H => m = n - i ∧ i ≤ n ∧ Pv i H, ⟨n, rfl, Nat.zero_le _, h0⟩, fun i m H ⟨em, hi, p⟩ => ?_⟩
  subst em
  rcases Nat.lt_or_ge i n with c | c
  · exact .inr ⟨w.goes i H c (hG i H hi p), Pv (i + 1), fun H' p' => ⟨n - (i + 1), by omega, rfl, c, p'⟩, fun x H' y => hs i x H H' c p (w.yields i H x H' c (hG i H hi p) y)⟩
  · have e : i = n := by omega
    subst e
    exact .inl ⟨w.stops H (hG i H hi p), hd H p⟩
end
section
variable {X : Cx}
theorem swD_true {kx vx : Expr} {gs : List Comprehension} {scope : Scope} {pos py : Pos} {y : Str} {l : Nat} {env : Env} (hk : env.scope.kind = .function) (hy : env.scope.names.lookup y = some .local) (hl : (py.line == pos.line) = true)
    (ha : (scope.names.any fun (n, k) => n == y && (k == .local || k == .cell)) = false) : swapsWith (.DictComp kx vx gs scope pos) (some (.Name y py)) l env = pure true := by
  have k1 : env.kindOf y = some .local := hy
  have k2 : env.blockKind = .function := by
    unfold Env.blockKind
    rw [hk]
    rfl
  unfold swapsWith
  simp only [k2, k1, ha, Expr.pos, hl]
  rfl
/-- y = {k: v for ..} of one row -/
theorem ps_setDc {i : Nat} {y : Str} {py : Pos} {kx vx tg iter : Expr} {ifs : List Expr} {scope : Scope} {own : List (Str × Nat)} {pos spos : Pos} {wi : TI} {g : TG} {tt : TT} {tk tv : TE} (hc : X.calm = true) (hN : X.N.Nodup) (hy : X.N[i]? = some y) (hyl : X.env.scope.names.lookup y = some .local)
    (hsw : swapsWith (.DictComp kx vx [⟨tg, iter, ifs, 0⟩] scope pos) (some (.Name y py)) spos.line X.env = pure true) (hi : PI X tg iter wi) (ok : BlkOk X.N X.env.scope scope own)
    (hg : ∀ (s : Shared) (H : Hp) (C : Addr) (cl : List (Str × Addr)) (fp : List Addr), PG (X.blk s H scope (compEnvC scope cl C X.env) fp) tg g)
    (ht : ∀ (s : Shared) (H : Hp) (C : Addr) (cl : List (Str × Addr)) (fp : List Addr), PTs (X.blk s H scope (compEnvC scope cl C X.env) fp) ifs tt)
    (hk : ∀ (s : Shared) (H : Hp) (C : Addr) (cl : List (Str × Addr)) (fp : List Addr), PE (X.blk s H scope (compEnvC scope cl C X.env) fp) kx tk)
    (he : ∀ (s : Shared) (H : Hp) (C : Addr) (cl : List (Str × Addr)) (fp : List Addr), PE (X.blk s H scope (compEnvC scope cl C X.env) fp) vx tv) (hs : ∀ x, foldedSetIterable iter X.env x = pure x := by intro _; rfl) :
    PS X (.Assign [.Name y py] (.DictComp kx vx [⟨tg, iter, ifs, 0⟩] scope pos) spos) (tAsg (tDc wi g tt tk tv (own.map (·.2))) (gName i)) := by
  refine ⟨fun pins s σ H D I h => ?_⟩
  rw [exec_Assign_Name_used _ _ _ _ hsw]
  refine wpAny_bind (wpAny_standAt (wpAny_bind ?_))
  have h : tDc wi g tt tk tv (own.map (·.2)) σ H (fun x H1 => gName i x σ H1 D.nx) := h
  refine wpAny_bind (thn (dc_core (use := some (assign (.Name y py) X.env)) (pos' := firstIterPos [⟨tg, iter, ifs, 0⟩] pos) (Qf := fun _ s' => SP X pins D .next s') hc hN I hi ok hg ht hk he hs h fun L C s' m H' I' q hn f => ?_) fun _ s' hq => wpAny_pure (wpAny_pure hq))
  obtain ⟨f0, f1, f2, f3, f4, f5⟩ := f
  show wpAny _ _ (assign (.Name y py) X.env (.ref L)) _ _ _
  refine wpAny_assign_Name (store_ok2 (v := V.ref L) I' hN hy (.inl hyl) rfl (fun s2 I2 ⟨a, sb, ha⟩ => ?_) (.inr hyl))
  have ne : C ≠ a := fun e => by
    rcases ha with z | z
    · exact f1 (e.trans z)
    · exact f4 y a z e.symm
  exact ⟨m, hn.sameBut sb ne, fun h3 sb3 => ⟨_, H', I2.turned (t' := s2.toks) (fun b o hb e => (sb3.2 b hb).trans e) f0 f1 f3 f4 f5, q⟩⟩
end
end Mh
namespace Mh
open PySem L2
section
variable {J : It} {n : Nat} {G : Hp → Prop} {Y : Nat → Hp → V → Hp → Prop}
/-- the same, the names of the block told as they stand when they are wiped -/
theorem lc_w (w : Walk J n G Y) {g : TG} {tt : TT} {te : TE} {vs : List Nat} {σ : St} {H1 : Hp} {D : Addr} {Qd : Hp → Prop} (τ : St) (Pv : Nat → Hp → Prop) (h0 : Pv 0 (upd H1 D (.lst []))) (hG : ∀ i H, i ≤ n → Pv i H → G H)
    (hs : ∀ i x H H', i < n → Pv i H → Y i H x H' → g x τ H' fun σ2 H2 => wipe σ2 vs = τ ∧ tt σ2 H2 fun b H3 =>
      if b = true then te σ2 H3 fun y H4 => ∃ acc, H4 D = some (.lst acc) ∧ acc.length < sizeLine ∧ Pv (i + 1) (upd H4 D (.lst (acc ++ [y]))) else Pv (i + 1) H3) (hd : ∀ H, Pv n H → Qd H) (e : wipe σ vs = τ := by rfl) :
    ∃ W : Nat → Nat → Hp → Prop, (∃ m, W 0 m (upd H1 D (.lst []))) ∧ ∀ i m H, W i m H →
      (J.stop i H ∧ Qd H) ∨ (J.go i H ∧ ∃ Nx : Hp → Prop, (∀ H', Nx H' → ∃ m', m' < m ∧ W (i + 1) m' H') ∧ ∀ x H', J.yld i H x H' → g x (wipe σ vs) H' fun σ2 H2 => wipe σ2 vs = wipe σ vs ∧ tt σ2 H2 fun b H3 =>
        if b = true then te σ2 H3 fun y H4 => ∃ acc, H4 D = some (.lst acc) ∧ acc.length < sizeLine ∧ Nx (upd H4 D (.lst (acc ++ [y]))) else Nx H3) := by
  subst e
  exact lc_it w Pv h0 hG hs hd
theorem dc_w (w : Walk J n G Y) {g : TG} {tt : TT} {tk tv : TE} {vs : List Nat} {σ : St} {H1 : Hp} {D : Addr} {Qd : Hp → Prop} (τ : St) (Pv : Nat → Hp → Prop)
    (h0 : Pv 0 (upd H1 D (.dK []))) (hG : ∀ i H, i ≤ n → Pv i H → G H)
    (hs : ∀ i x H H', i < n → Pv i H → Y i H x H' → g x τ H' fun σ2 H2 => wipe σ2 vs = τ ∧ tt σ2 H2 fun b H3 => if b = true then tk σ2 H3 fun y H4 => tv σ2 H4 fun z H5 =>
      ∃ kvs k, y = kV k ∧ H5 D = some (.dK kvs) ∧ kvs.length < sizeLine ∧ Pv (i + 1) (upd H5 D (.dK (putK kvs k z))) else Pv (i + 1) H3)
    (hd : ∀ H, Pv n H → Qd H) (e : wipe σ vs = τ := by rfl) :
    ∃ W : Nat → Nat → Hp → Prop, (∃ m, W 0 m (upd H1 D (.dK []))) ∧ ∀ i m H, W i m H → (J.stop i H ∧ Qd H) ∨ (J.go i H ∧ ∃ Nx : Hp → Prop, (∀ H', Nx H' → ∃ m', m' < m ∧ W (i + 1) m' H') ∧
      ∀ x H', J.yld i H x H' → g x (wipe σ vs) H' fun σ2 H2 => wipe σ2 vs = wipe σ vs ∧ tt σ2 H2 fun b H3 => if b = true then tk σ2 H3 fun y H4 => tv σ2 H4 fun z H5 =>
        ∃ kvs k, y = kV k ∧ H5 D = some (.dK kvs) ∧ kvs.length < sizeLine ∧ Nx (upd H5 D (.dK (putK kvs k z))) else Nx H3) := by
  subst e
  exact dc_it w Pv h0 hG hs hd
end
end Mh
/-! Heaps that keep all tuples and lists. -/
namespace Mh
open PySem L2
section
variable {K : PySem.W.Frag} {H H' H1 H2 : Hp}
theorem kt_unlock {d : Addr} {kv : List (Key × V)} {od : Obj} (hd : H d = some (.frz od (.dK kv))) : KT K H (upd H d (.dK kv)) := fun b xs z => by
  rcases z with z | z
  · rcases z with z | ⟨o, z⟩
    · refine .inl (.inl ((upd_ne fun q => ?_).trans z))
      rw [q, hd] at z
      cases z
    · refine .inl (.inr ⟨o, (upd_ne fun q => ?_).trans z⟩)
      rw [q, hd] at z
      cases z
  · exact .inr z
/-- the heap without what stands at one place -/
def del (H : Hp) (d : Addr) : Hp := fun b => if b = d then none else H b
theorem del_ne {b d : Addr} (h : b ≠ d) : del H d b = H b := if_neg h
theorem del_same (H : Hp) (d : Addr) : Same (del H d) H := fun b o e => by
  unfold del at e
  split at e
  · cases e
  · exact e
theorem del_upd {d : Addr} {o : HO} : del (upd H d o) d = del H d := by
  funext b
  unfold del
  split
  · rfl
  · rename_i q
    exact upd_ne q
theorem del_mono {d : Addr} (s : Same H H') : Same (del H d) (del H' d) := fun b o e => by
  unfold del at e ⊢
  split
  · rename_i q
    rw [if_pos q] at e
    cases e
  · rename_i q
    rw [if_neg q] at e
    exact s b o e
theorem del_kt {d : Addr} {xs : List V} (h : H d = some (.lst xs)) : KT K H (del H d) := fun b ys z => by
  rcases z with z | z
  · rcases z with z | ⟨o, z⟩
    · refine .inl (.inl ((del_ne fun q => ?_).trans z))
      rw [q, h] at z
      cases z
    · refine .inl (.inr ⟨o, (del_ne fun q => ?_).trans z⟩)
      rw [q, h] at z
      cases z
  · exact .inr z
/-- all tuples and all lists stay -/
structure KTL (K : PySem.W.Frag) (H H' : Hp) : Prop where
  t : KT K H H'
  l : ∀ a xs, SqL K H a xs → SqL K H' a xs
theorem KTL.same (s : Same H H') : KTL K H H' := ⟨KT.same s, fun a xs h => s.seq h⟩
theorem KTL.trans (h : KTL K H H1) (g : KTL K H1 H2) : KTL K H H2 := ⟨h.t.trans g.t, fun a xs q => g.l a xs (h.l a xs q)⟩
/-- an object that is no list and no tuple changes into another such, or goes -/
theorem KTL.of {d : Addr} (e : ∀ b, b ≠ d → H b = H' b) (n : ∀ u, H d = some u → (∀ xs, u ≠ .lst xs) ∧ (∀ xs, u ≠ .tup xs) ∧ (∀ o xs, u ≠ .frz o (.lst xs)) ∧ ∀ o xs, u ≠ .frz o (.tup xs)) : KTL K H H' := by
  refine ⟨fun b ys z => ?_, fun b ys z => ?_⟩
  · rcases z with z | z
    · rcases z with z | ⟨o, z⟩
      · refine .inl (.inl ((e b fun q => ?_).symm.trans z))
        rw [q] at z
        exact (n _ z).2.1 _ rfl
      · refine .inl (.inr ⟨o, (e b fun q => ?_).symm.trans z⟩)
        rw [q] at z
        exact (n _ z).2.2.2 _ _ rfl
    · exact .inr z
  · rcases z with z | z
    · rcases z with z | ⟨o, z⟩
      · refine .inl (.inl ((e b fun q => ?_).symm.trans z))
        rw [q] at z
        exact (n _ z).1 _ rfl
      · refine .inl (.inr ⟨o, (e b fun q => ?_).symm.trans z⟩)
        rw [q] at z
        exact (n _ z).2.2.1 _ _ rfl
    · exact .inr z
theorem KTL.lock {d : Addr} {kv : List (Key × V)} {od : Obj} (hd : H d = some (.dK kv)) : KTL K H (upd H d (.frz od (.dK kv))) := .of (d := d) (fun b hb => (upd_ne hb).symm) fun u q => by
  rw [hd] at q
  cases q
  exact ⟨fun _ z => (by cases z), fun _ z => (by cases z), fun _ _ z => (by cases z), fun _ _ z => (by cases z)⟩
theorem KTL.unlock {d : Addr} {kv kv2 : List (Key × V)} {od : Obj} (hd : H d = some (.frz od (.dK kv))) : KTL K H (upd H d (.dK kv2)) := .of (d := d) (fun b hb => (upd_ne hb).symm) fun u q => by
  rw [hd] at q
  cases q
  exact ⟨fun _ z => (by cases z), fun _ z => (by cases z), fun _ _ z => (by cases z), fun _ _ z => (by cases z)⟩
theorem KTL.put {d : Addr} {kv kv2 : List (Key × V)} (hd : H d = some (.dK kv)) : KTL K H (upd H d (.dK kv2)) := .of (d := d) (fun b hb => (upd_ne hb).symm) fun u q => by
  rw [hd] at q
  cases q
  exact ⟨fun _ z => (by cases z), fun _ z => (by cases z), fun _ _ z => (by cases z), fun _ _ z => (by cases z)⟩
theorem KTL.del {d : Addr} {kv : List (Key × V)} (hd : H d = some (.dK kv)) : KTL K H (Mh.del H d) := .of (d := d) (fun b hb => (del_ne hb).symm) fun u q => by
  rw [hd] at q
  cases q
  exact ⟨fun _ z => (by cases z), fun _ z => (by cases z), fun _ _ z => (by cases z), fun _ _ z => (by cases z)⟩
theorem KTL.putI {d : Addr} {C dx : Addr} {fs fs2 : List (Str × V)} (hd : H d = some (.ins C dx fs)) : KTL K H (upd H d (.ins C dx fs2)) := .of (d := d) (fun b hb => (upd_ne hb).symm) fun u q => by
  rw [hd] at q
  cases q
  exact ⟨fun _ z => (by cases z), fun _ z => (by cases z), fun _ _ z => (by cases z), fun _ _ z => (by cases z)⟩
mutual
theorem dp_ktl (k : KTL K H H') : ∀ (d : PyData) (v : V), Dp K H v d → Dp K H' v d
  | .none, _, h => by cases h; exact .non
  | .bool b, _, h => by cases h; exact .bl b
  | .int i, _, h => by cases h; exact .int i
  | .str x, _, h => by cases h; exact .str x
  | .dict _, _, h => by cases h
  | .list ds, _, h => by
    cases h with
    | lst hs ha => exact .lst (k.l _ _ hs) (dps_ktl k ds _ ha)
  | .tuple ds, _, h => by
    cases h with
    | tup hs ha => exact .tup (k.t _ _ hs) (dps_ktl k ds _ ha)
theorem dps_ktl (k : KTL K H H') : ∀ (ds : List PyData) (vs : List V), DpAll K H vs ds → DpAll K H' vs ds
  | [], _, h => by cases h; exact .nil
  | d :: ds, _, h => by
    cases h with
    | cons h1 h2 => exact .cons (dp_ktl k d _ h1) (dps_ktl k ds _ h2)
end
end
/-! keys of dicts -/
theorem val_out {kv : List (Key × V)} {k : Key} (h : k ∉ kv.map (·.1)) : valV kv k = none := by
  cases e : valV kv k with
  | none => rfl
  | some v => exact absurd (valV_in e) h
theorem val_at {kv : List (Key × V)} {i : Nat} {k : Key} {v : V} (hn : (kv.map (·.1)).Nodup) (h : kv[i]? = some (k, v)) : valV kv k = some v := by
  induction kv generalizing i with
  | nil => simp at h
  | cons p r ih =>
    rw [List.map_cons, List.nodup_cons] at hn
    cases i with
    | zero =>
      have e : p = (k, v) := by simpa using h
      subst e
      exact valV_pos rfl
    | succ i =>
      have h : r[i]? = some (k, v) := by simpa using h
      have m : k ∈ r.map (·.1) := List.mem_map.mpr ⟨(k, v), List.mem_of_getElem? h, rfl⟩
      rw [valV_neg fun z => hn.1 (by rw [z]; exact m)]
      exact ih hn.2 h
/-- a dict with these names and values -/
def kvL {α : Type} (f : α → V) (l : List (Str × α)) : List (Key × V) := l.map fun x => (Sum.inr x.1, f x.2)
theorem kvL_keys {α : Type} (f : α → V) (l : List (Str × α)) : (kvL f l).map (·.1) = (l.map (·.1)).map Sum.inr := by
  unfold kvL
  rw [List.map_map, List.map_map]
  rfl
theorem nd_inr {l : List Str} (h : l.Nodup) : (l.map (Sum.inr : Str → Key)).Nodup := List.nodup_iff_pairwise_ne.mpr (List.pairwise_map.mpr ((List.nodup_iff_pairwise_ne.mp h).imp fun h e => h (by injection e)))
theorem not_inr {l : List Str} {n : Str} (h : n ∉ l) : (Sum.inr n : Key) ∉ l.map Sum.inr := fun z => by
  obtain ⟨m, hm, e⟩ := List.mem_map.mp z
  injection e with e
  rw [e] at hm
  exact h hm
theorem nd_at {α : Type} {l : List α} {i : Nat} {x : α} (h : l.Nodup) (e : l[i]? = some x) : x ∉ l.take i := fun z => by
  rw [← List.take_append_drop i l, List.nodup_append] at h
  have d : x ∈ l.drop i := by
    obtain ⟨h1, h2⟩ := List.getElem?_eq_some_iff.mp e
    rw [List.drop_eq_getElem_cons h1, h2]
    exact List.mem_cons_self
  exact h.2.2 x z x d rfl
end Mh
/-! Rows sorted: one list only. -/
namespace Mh
open PySem L2
theorem paired_perm {α β : Type} {F : α → β → Prop} {xs zs : List α} (p : zs.Perm xs) : ∀ {ys : List β}, Paired F xs ys → ∃ ws : List β, ws.Perm ys ∧ Paired F zs ws := by
  induction p with
  | nil =>
    intro ys h
    exact ⟨ys, List.Perm.refl _, h⟩
  | cons x _ ih =>
    intro ys h
    cases h with
    | cons h1 h2 =>
      obtain ⟨ws, w1, w2⟩ := ih h2
      exact ⟨_, List.Perm.cons _ w1, .cons h1 w2⟩
  | swap x y l =>
    intro ys h
    cases h with
    | cons h1 h2 =>
      cases h2 with
      | cons h2 h3 => exact ⟨_, List.Perm.swap _ _ _, .cons h2 (.cons h1 h3)⟩
  | trans _ _ ih1 ih2 =>
    intro ys h
    obtain ⟨ws, w1, w2⟩ := ih2 h
    obtain ⟨us, u1, u2⟩ := ih1 w2
    exact ⟨us, u1.trans w1, u2⟩
theorem paired_map {α β γ : Type} {F : α → β → Prop} {f : α → γ} {g : β → γ} (h : ∀ x y, F x y → f x = g y) : ∀ {xs : List α} {ys : List β}, Paired F xs ys → xs.map f = ys.map g
  | _, _, .nil => rfl
  | _, _, .cons a t => by
    rw [List.map_cons, List.map_cons, h _ _ a, paired_map h t]
theorem paired_snoc {α β : Type} {F : α → β → Prop} {x : α} {y : β} : ∀ {xs : List α} {ys : List β}, Paired F xs ys → F x y → Paired F (xs ++ [x]) (ys ++ [y])
  | _, _, .nil, h => .cons h .nil
  | _, _, .cons a t, h => .cons a (paired_snoc t h)
theorem paired_imp {α β : Type} {F G : α → β → Prop} (h : ∀ x y, F x y → G x y) : ∀ {xs : List α} {ys : List β}, Paired F xs ys → Paired G xs ys
  | _, _, .nil => .nil
  | _, _, .cons a t => .cons (h _ _ a) (paired_imp h t)
theorem paired_len {α β : Type} {F : α → β → Prop} : ∀ {xs : List α} {ys : List β}, Paired F xs ys → xs.length = ys.length
  | _, _, .nil => rfl
  | _, _, .cons _ t => by rw [List.length_cons, List.length_cons, paired_len t]
theorem paired_mem {α β : Type} {F : α → β → Prop} {x : α} : ∀ {xs : List α} {ys : List β}, Paired F xs ys → x ∈ xs → ∃ y ∈ ys, F x y
  | _, _, .nil, h => by cases h
  | _, _, .cons a t, h => by
    rcases List.mem_cons.mp h with e | h
    · subst e
      exact ⟨_, List.mem_cons_self, a⟩
    · obtain ⟨y, h1, h2⟩ := paired_mem t h
      exact ⟨y, List.mem_cons_of_mem _ h1, h2⟩
theorem ltR_anti {p q : Int × Str} (h1 : ltR p q = false) (h2 : ltR q p = false) : p = q := by
  unfold ltR at h1 h2
  by_cases e : p.1 = q.1
  · rw [if_pos e] at h1
    rw [if_pos e.symm] at h2
    exact Prod.ext e (leS_antisymm (ltS_no.mp h2) (ltS_no.mp h1))
  · rw [if_neg e] at h1
    rw [if_neg fun z => e z.symm] at h2
    have := of_decide_eq_false h1
    have := of_decide_eq_false h2
    omega
theorem rows_uniq {α : Type} (k : α → Int × Str) : ∀ {l m : List α}, l.Perm m → (∀ x ∈ l, ∀ y ∈ l, k x = k y → x = y) → l.Pairwise (fun x y => ltR (k y) (k x) = false) → m.Pairwise (fun x y => ltR (k y) (k x) = false) → l = m
  | [], m, p, _, _, _ => (List.nil_perm.mp p).symm
  | a :: l, [], p, _, _, _ => absurd p.length_eq (by simp)
  | a :: l, b :: m, p, i, h1, h2 => by
    have ma : a ∈ b :: m := p.mem_iff.mp List.mem_cons_self
    have mb : b ∈ a :: l := p.mem_iff.mpr List.mem_cons_self
    have e : a = b := by
      rcases List.mem_cons.mp ma with e | ha
      · exact e
      · rcases List.mem_cons.mp mb with e | hb
        · exact e.symm
        · exact i a List.mem_cons_self b mb (ltR_anti ((List.pairwise_cons.mp h2).1 a ha) ((List.pairwise_cons.mp h1).1 b hb))
    subst e
    rw [rows_uniq k (List.Perm.cons_inv p) (fun x hx y hy => i x (List.mem_cons_of_mem _ hx) y (List.mem_cons_of_mem _ hy)) (List.pairwise_cons.mp h1).2 (List.pairwise_cons.mp h2).2]
/-- a row: rank, name, sixty times the mean -/
abbrev RRow := Int × Str × Int
def rkey (r : RRow) : Int × Str := (r.1, r.2.1)
def sortR (l : List RRow) : List RRow := l.mergeSort fun a b => !ltR (rkey b) (rkey a)
theorem sortR_perm (l : List RRow) : (sortR l).Perm l := List.mergeSort_perm l _
theorem sortR_pw (l : List RRow) : (sortR l).Pairwise fun x y => ltR (rkey y) (rkey x) = false := by
  have O := ltR_swo rkey
  have h := List.pairwise_mergeSort (le := fun a b => !ltR (rkey b) (rkey a)) (fun a b c h1 h2 => by
    rw [Bool.not_eq_true'] at h1 h2 ⊢
    exact O.tr a b c h1 h2) (fun a b => by
      cases e : ltR (rkey b) (rkey a) with
      | false => simp
      | true =>
        have z := O.asym b a e
        rw [z]
        simp) l
  exact h.imp fun h => by
    rw [Bool.not_eq_true'] at h
    exact h
def meanDt (m : Int) : PyData := .tuple [.int ((m.toNat / Nat.gcd m.toNat 60 : Nat) : Int), .int ((60 / Nat.gcd m.toNat 60 : Nat) : Int)]
def rrDt (r : RRow) : PyData := .tuple [.int r.1, .str r.2.1, meanDt r.2.2]
theorem rr_td (r : RRow) : TD (rrDt r) = true := by simp [rrDt, meanDt, TD, TDs]
/-- a row at a place, laid by itself -/
def RowAt (K : PySem.W.Frag) (H : Hp) (x : V) (r : RRow) : Prop := ∃ t m, x = .ref t ∧ H t = some (.tup [.int r.1, .str r.2.1, .ref m]) ∧ SqT K H m [.int ((r.2.2.toNat / Nat.gcd r.2.2.toNat 60 : Nat) : Int), .int ((60 / Nat.gcd r.2.2.toNat 60 : Nat) : Int)]
theorem RowAt.same {K : PySem.W.Frag} {H H' : Hp} {x : V} {r : RRow} (h : RowAt K H x r) (s : Same H H') : RowAt K H' x r := by
  obtain ⟨t, m, e, h1, h2⟩ := h
  exact ⟨t, m, e, s _ _ h1, KT.same s _ _ h2⟩
theorem RowAt.dp {K : PySem.W.Frag} {H : Hp} {x : V} {r : RRow} (h : RowAt K H x r) : Dp K H x (rrDt r) := by
  obtain ⟨t, m, e, h1, h2⟩ := h
  subst e
  exact .tup (SqT.of h1) (.cons (.int _) (.cons (.str _) (.cons (.tup h2 (.cons (.int _) (.cons (.int _) .nil))) .nil)))
theorem rows_dps {K : PySem.W.Frag} {H : Hp} : ∀ {us : List V} {l : List RRow}, Paired (RowAt K H) us l → DpAll K H us (l.map rrDt)
  | _, _, .nil => .nil
  | _, _, .cons a t => .cons a.dp (rows_dps t)
/-- a row's key, read off the heap -/
def kH (H : Hp) (x : V) : Int × Str := match x with
  | .ref t => match H t with
    | some (.tup (.int i :: .str s :: _)) => (i, s)
    | _ => (0, Str.empty)
  | _ => (0, Str.empty)
theorem kH_row {K : PySem.W.Frag} {H : Hp} {x : V} {r : RRow} (h : RowAt K H x r) : kH H x = rkey r := by
  obtain ⟨t, m, e, h1, h2⟩ := h
  subst e
  unfold kH
  dsimp only
  rw [h1]
  rfl
/-- sorted rows -/
theorem sort_rows {K : PySem.W.Frag} {H H' : Hp} {us ys : List V} {l : List RRow} (h : Paired (RowAt K H) us l) (i : ∀ x ∈ l, ∀ y ∈ l, rkey x = rkey y → x = y) (pm : ys.Perm us) (pw : ys.Pairwise fun x y => ltR (kH H y) (kH H x) = false) (s : Same H H') :
    Paired (RowAt K H') ys (sortR l) := by
  obtain ⟨ws, w1, w2⟩ := paired_perm pm h
  have e := paired_map (fun x y q => kH_row q) w2
  have p2 : ws.Pairwise fun x y => ltR (rkey y) (rkey x) = false := by
    have q : (ys.map (kH H)).Pairwise fun x y => ltR y x = false := List.pairwise_map.mpr pw
    rw [e] at q
    exact List.pairwise_map.mp q
  have ew : ws = sortR l := rows_uniq rkey (w1.trans (sortR_perm l).symm) (fun x hx y hy => i x (w1.mem_iff.mp hx) y (w1.mem_iff.mp hy)) p2 (sortR_pw l)
  rw [← ew]
  exact paired_imp (fun x y q => q.same s) w2
/-- what a sort of rows asks -/
theorem rows_sorts {K : PySem.W.Frag} {H : Hp} {us : List V} {l : List RRow} (h : Paired (RowAt K H) us l) (nd : (l.map rkey).Nodup) :
    (∀ x ∈ us, ∃ t r, x = V.ref t ∧ SqT K H t (.int (kH H x).1 :: .str (kH H x).2 :: r)) ∧ ∀ x ∈ us, ∀ y ∈ us, kH H x = kH H y → x = y := by
  refine ⟨fun x hx => ?_, ?_⟩
  · obtain ⟨r, _, q⟩ := paired_mem h hx
    have e := kH_row q
    obtain ⟨t, m, ex, h1, h2⟩ := q
    refine ⟨t, [.ref m], ex, ?_⟩
    rw [e]
    exact SqT.of h1
  · have e := paired_map (fun x y q => kH_row q) h
    have nk : (us.map (kH H)).Nodup := by
      rw [e]
      exact nd
    clear e nd h
    induction us with
    | nil => intro x hx; cases hx
    | cons u us ih =>
      rw [List.map_cons, List.nodup_cons] at nk
      intro x hx y hy q
      rcases List.mem_cons.mp hx with ex | hx
      · rcases List.mem_cons.mp hy with ey | hy
        · rw [ex, ey]
        · exact absurd (List.mem_map.mpr ⟨y, hy, by rw [← q, ex]⟩) nk.1
      · rcases List.mem_cons.mp hy with ey | hy
        · exact absurd (List.mem_map.mpr ⟨x, hx, by rw [q, ey]⟩) nk.1
        · exact ih nk.2 x hx y hy q
end Mh
namespace Mh
open PySem L2
/-- a try that nothing leaves by an error: its body, then what stands under finally -/
def tThenF (tb tf : TS) : TS := fun D σ H => tb { nx := fun σ1 H1 => tf D σ1 H1, rt := fun _ _ => False } σ H
section
variable {X : Cx} {body : List Stmt} {f₀ : Stmt} {fs : List Stmt} {pos : Pos} {tb tf : TS}
theorem ps_thenF (hb : PSs X.nox body tb) (hfin : PSs X.nox (f₀ :: fs) tf) : PS X (.Try body [] [] (f₀ :: fs) pos) (tThenF tb tf) := by
  refine ⟨fun pins s σ H D I h => ?_⟩
  refine wpAny_Try_finally ?_
  have q := hb.run pins s σ H { nx := fun σ1 H1 => tf D σ1 H1, rt := fun _ _ => False } (I.wish _) h
  refine wpAny_mono q (fun g s1 z => ?_) fun _ _ e => False.elim e
  have z := z.unwish
  cases g with
  | ret u =>
    obtain ⟨_, _, _, _, _, e⟩ := z
    exact False.elim e
  | brk =>
    obtain ⟨_, _, _, e⟩ := z
    exact False.elim e
  | cont =>
    obtain ⟨_, _, _, e⟩ := z
    exact False.elim e
  | next =>
    obtain ⟨σ1, H1, J1, q1⟩ := z
    refine wpAny_execs_nil ?_
    refine wpAny_mono (hfin.run pins s1 σ1 H1 D (J1.wish _) q1) (fun g2 s2 q2 => ?_) fun _ _ e => False.elim e
    have q3 : SP X pins D g2 s2 := q2.unwish
    cases g2 <;> exact q3
end
end Mh
/-! sets of texts that can be walked: set(a list of texts), sorted of it -/
namespace Mh
open PySem PySem.Spec PyProof.Rows L2
def txtV : Value → Str
  | .str k _ => k
  | _ => Str.empty
def txtOf (e : Int × Value) : Str := txtV e.2
def GoodT (P : Program) (w : World) (e : Int × Value) : Prop := ∃ k tk, e.2 = Value.str k tk ∧ e.1 = (PySem.strKind P w).hash k
/-- the set of texts at a: S its members, n their number -/
def SetT (P : Program) (w : World) (h : Heap) (a : Addr) (S : Str → Bool) (n : Nat) : Prop :=
  ∃ o es ep t, (h.get? a = some o ∧ o.ExactSet ∧ o.data = .set es ep t) ∧ (∀ e ∈ es.toList, GoodT P w e) ∧ (es.toList.map txtOf).Nodup ∧ (∀ k, S k = true ↔ k ∈ es.toList.map txtOf) ∧
    (es.size < scanBound ∧ t.fits es.size = true ∧ es.size = n) ∧ Ris t.place.toList ∧ (w.params.followText "set-order" = true ∨ t.led = true)
section
variable {P : Program} {w : World} {h h' : Heap} {a : Addr} {S : Str → Bool} {n : Nat}
theorem SetT.keep (R : SetT P w h a S n) (k : ∀ o, h.get? a = some o → h'.get? a = some o) : SetT P w h' a S n := by
  obtain ⟨o, es, ep, t, ⟨ho, r⟩, z⟩ := R
  exact ⟨o, es, ep, t, ⟨k o ho, r⟩, z⟩
theorem SetT.same {S' : Str → Bool} (R : SetT P w h a S n) (e : ∀ k, S' k = S k) : SetT P w h a S' n := by
  rw [funext e]
  exact R
theorem goodT_is {e : Int × Value} (g : GoodT P w e) (k : Str) : (PySem.strKind P w).is k e.2 = true ↔ txtOf e = k := by
  obtain ⟨k0, tk, h1, _⟩ := g
  unfold txtOf
  rw [h1]
  show ((k0 == k) = true) ↔ k0 = k
  exact beq_iff_eq
theorem goodT_elems {l : List (Int × Value)} (g : ∀ e ∈ l, GoodT P w e) : ElemsOf (PySem.strKind P w) l := fun e he => by
  obtain ⟨k, tk, h1, h2⟩ := g e he
  exact ⟨⟨k, by rw [h1]; exact strKind_is P w k tk, h2⟩, by rw [h1] <;> rfl⟩
theorem goodT_mem {l : List (Int × Value)} (g : ∀ e ∈ l, GoodT P w e) (k : Str) : k ∈ l.map txtOf ↔ ∃ e ∈ l, (PySem.strKind P w).is k e.2 = true := by
  rw [List.mem_map]
  exact ⟨fun ⟨e, he, q⟩ => ⟨e, he, (goodT_is (g e he) k).2 q⟩, fun ⟨e, he, q⟩ => ⟨e, he, (goodT_is (g e he) k).1 q⟩⟩
end
section
variable {P : Program} {w : World} {A : Around} {E : Value → Shared → Prop} {s : Shared} {a : Addr} {S : Str → Bool} {n : Nat}
/-- a new entry laid: the table stored, and laid anew where it is full -/
theorem textLaid {g : Bool → Sem Unit} (hg : ∀ (b : Bool) (s₁ : Shared) (Q' : Unit → Shared → Prop), Q' () s₁ → wpAny (model P w) A (g b) Q' E s₁)
    {o : Obj} {es : Array (Int × Value)} {ep : Nat} {t : SetTable} (ho : s.heap.get? a = some o) (hex : o.ExactSet) (hd : o.data = .set es ep t)
    {es1 : Array (Int × Value)} {t2 : SetTable} {S' : Str → Bool} (g1 : ∀ e ∈ es1.toList, GoodT P w e) (nd1 : (es1.toList.map txtOf).Nodup) (m1 : ∀ k, S' k = true ↔ k ∈ es1.toList.map txtOf)
    (hb1 : es1.size < scanBound) (hf2 : t2.fits es1.size = true) (hr : Ris t2.place.toList) (hl : w.params.followText "set-order" = true ∨ t2.led = true) {wasDummy : Bool} {R : Option Bool → Shared → Prop}
    (hR : ∀ h', Heap.SameBut a s.heap h' → SetT P w h' a S' es1.size → R (some true) { s with heap := h' }) :
    wpAny (model P w) A (do
        storeSet a es1 t2
        if (!wasDummy && t2.tooFull) = true then do
            g (relayAll t2 es1 (SetTable.grown es1.size)).2.2
            storeSet a (relayAll t2 es1 (SetTable.grown es1.size)).1 (relayAll t2 es1 (SetTable.grown es1.size)).2.1
            pure (some true)
          else pure (some true)) R E s := by
  refine wpAny_bind (wpAny_storeSet_of ho hd ?_ (fits_of_scanBound hb1))
  have ho1 := store_at (es' := es1) (t' := t2) ho hd
  have sb1 := Heap.SameBut.update s.heap a (Obj.putSet es1 t2)
  split
  · have pm := relayAll_perm t2 es1 (SetTable.grown es1.size)
    have hf3 := relayAll_fits t2 es1 (SetTable.grown es1.size)
    have hr3 := relayAll_ris t2 es1 (SetTable.grown es1.size)
    have hl3 := relayAll_led t2 es1 (SetTable.grown es1.size)
    generalize relayAll t2 es1 (SetTable.grown es1.size) = Z at pm hf3 hr3 hl3 ⊢
    obtain ⟨es2, t3, gave⟩ := Z
    dsimp only at pm hf3 hr3 hl3 ⊢
    have hsz : es2.size = es1.size := by rw [← Array.length_toList, pm.length_eq, Array.length_toList]
    have hb2 : es2.size < scanBound := by rw [hsz]; exact hb1
    refine wpAny_bind (hg _ _ _ ?_)
    refine wpAny_bind (wpAny_storeSet_of ho1 rfl ?_ (fits_of_scanBound hb2))
    have ho2 := store_at (es' := es2) (t' := t3) ho1 rfl
    refine wpAny_pure (hR _ (sb1.trans (Heap.SameBut.update _ a _)) ?_)
    exact ⟨_, es2, _, t3, ⟨ho2, hex, rfl⟩, fun e he => g1 e (pm.mem_iff.mp he), (pm.map txtOf).nodup_iff.mpr nd1, fun k => (m1 k).trans (pm.map txtOf).mem_iff.symm, ⟨hb2, hf3, hsz⟩, hr3, hl.imp id fun z => by rw [hl3]; exact z⟩
  · exact wpAny_pure (hR _ sb1 ⟨_, es1, _, t2, ⟨ho1, hex, rfl⟩, g1, nd1, m1, ⟨hb1, hf2, rfl⟩, hr, hl⟩)
theorem textAdded {k : Str} {tk : Tok} {Q : Bool → Shared → Prop} (R : SetT P w s.heap a S n) (room : n + 1 < scanBound)
    (hQ : ∀ h', Heap.SameBut a s.heap h' → SetT P w h' a (fun j => S j || decide (j = k)) (if S k = true then n else n + 1) → Q (!S k) { s with heap := h' }) :
    wpAny (model P w) A (setAddHashed a (.str k tk) ((PySem.strKind P w).hash k)) Q E s := by
  obtain ⟨o, es, ep, t, ⟨ho, hex, hd⟩, g, nd, hm, ⟨hb, hf, hn⟩, hr, hl⟩ := R
  have hkey : (PySem.strKind P w).is k (.str k tk) = true := strKind_is P w k tk
  have hsc : (Value.str k tk).scannable = true := rfl
  have hel : ElemsOf (PySem.strKind P w) es.toList := goodT_elems g
  unfold setAddHashed setAddHashedIn
  refine wpAny_holding (wpAny_bind (wpAny_setState_of ho hd hf ?_))
  dsimp only
  rw [byScan_of hsc hb hel]
  simp only [↓reduceIte]
  unfold setAddByScan
  refine wpAny_bind ?_
  refine wpAny_bind (wpAny_rule ?_)
  refine wpAny_bind (wpAny_setScan_of hkey ho hd hf hel ?_)
  cases hfi : List.findIdx? (fun e => (PySem.strKind P w).is k e.2) es.toList with
  | some j =>
    dsimp only
    obtain ⟨hj, pj, _⟩ := List.findIdx?_eq_some_iff_getElem.mp hfi
    have hSk : S k = true := (hm k).2 ((goodT_mem g k).2 ⟨es.toList[j], List.getElem_mem hj, pj⟩)
    refine wpAny_pure (wpAny_pure ?_)
    have q := hQ s.heap (Heap.SameBut.refl a s.heap) ⟨o, es, ep, t, ⟨ho, hex, hd⟩, g, nd, fun i => by
      rw [Bool.or_eq_true, decide_eq_true_eq, ← hm i]
      exact ⟨fun z => z.elim id (fun e => e ▸ hSk), .inl⟩, ⟨hb, hf, by rw [if_pos hSk]; exact hn⟩, hr, hl⟩
    rw [hSk] at q
    exact q
  | none =>
    dsimp only
    have hnk : k ∉ es.toList.map txtOf := fun z => by
      obtain ⟨e, he, q⟩ := (goodT_mem g k).1 z
      have c := List.findIdx?_eq_none_iff.mp hfi e he
      rw [q] at c
      cases c
    have hSk : S k = false := by
      cases q : S k with
      | false => rfl
      | true => exact absurd ((hm k).1 q) hnk
    have hgw : ∀ (b : Bool) {s₁ : Shared} {Q' : Unit → Shared → Prop}, Q' () s₁ → wpAny (model P w) A (match b with | true => rule "set.scan.the-table-gave-way" | false => pure ()) Q' E s₁ :=
      fun b s₁ Q' q => by cases b <;> first | exact wpAny_pure q | exact wpAny_rule q
    have pm := layNew_perm t es ((PySem.strKind P w).hash k) (.str k tk)
    have hf1 := layNew_fits t es ((PySem.strKind P w).hash k) (.str k tk)
    have hr1 := layNew_ris t es ((PySem.strKind P w).hash k) (.str k tk) hr
    have hl1 := layNew_led t es ((PySem.strKind P w).hash k) (.str k tk)
    generalize layNew t es ((PySem.strKind P w).hash k) (.str k tk) = Z at pm hf1 hr1 hl1 ⊢
    obtain ⟨es1, t1, wasDummy, gave⟩ := Z
    dsimp only at pm hf1 hr1 hl1 ⊢
    rw [Array.toList_push] at pm
    have pc : es1.toList.Perm (((PySem.strKind P w).hash k, Value.str k tk) :: es.toList) := pm.trans (List.perm_append_singleton _ _)
    have pk : (es1.toList.map txtOf).Perm (k :: es.toList.map txtOf) := pc.map txtOf
    have g1 : ∀ e ∈ es1.toList, GoodT P w e := fun e he => by
      rcases List.mem_cons.mp (pc.mem_iff.mp he) with z | z
      · rw [z]; exact ⟨k, tk, rfl, rfl⟩
      · exact g e z
    have nd1 : (es1.toList.map txtOf).Nodup := pk.nodup_iff.mpr (List.nodup_cons.mpr ⟨hnk, nd⟩)
    have m1 : ∀ i, (S i || decide (i = k)) = true ↔ i ∈ es1.toList.map txtOf := fun i => by
      rw [Bool.or_eq_true, decide_eq_true_eq, hm i, pk.mem_iff, List.mem_cons]
      exact Or.comm
    have hsz : es1.size = n + 1 := by rw [← Array.length_toList, pc.length_eq, List.length_cons, Array.length_toList, hn]
    have hb1 : es1.size < scanBound := by rw [hsz]; exact room
    have hled : w.params.followText "set-order" = true ∨ t1.led = true := hl.imp id fun z => by rw [hl1]; exact z
    have fin : ∀ h', Heap.SameBut a s.heap h' → SetT P w h' a (fun j => S j || decide (j = k)) es1.size → Q true { s with heap := h' } := fun h' sb r => by
      have q := hQ h' sb
      rw [hSk] at q
      rw [hsz] at r
      exact q r
    refine wpAny_bind (hgw _ ?_)
    split
    · refine wpAny_bind ?_
      rw [hashByValue_scannable 8 hsc]
      refine wpAny_pure ?_
      refine textLaid ?_ ho hex hd g1 nd1 m1 hb1 ?_ ?_ ?_ ?_
      · intro b s₁ Q' q; cases b <;> first | exact wpAny_pure q | exact wpAny_rule q
      · first | (split <;> first | exact hf1 | exact SetTable.fits_plain_off hf1) | exact hf1
      · first | (split <;> exact hr1) | exact hr1
      · first | (split <;> exact hled) | exact hled
      · intro h' sb r; dsimp only; exact wpAny_pure (fin h' sb r)
    · refine wpAny_bind (wpAny_pure ?_)
      simp only [↓reduceIte]
      refine textLaid ?_ ho hex hd g1 nd1 m1 hb1 hf1 hr1 hled ?_
      · intro b s₁ Q' q; cases b <;> first | exact wpAny_pure q | exact wpAny_rule q
      · intro h' sb r; dsimp only; exact wpAny_pure (fin h' sb r)
theorem textNew {ns : List Str} (ho : s.heap.get? a = some (freshSet w)) : SetT P w s.heap a (fun j => decide (j ∈ ns.take 0)) 0 :=
  ⟨_, #[], 0, _, ⟨ho, ⟨rfl, rfl, rfl⟩, rfl⟩, (fun e he => by simp at he), (by simp), (fun k => by simp), ⟨(by decide), (by rfl), rfl⟩, List.Pairwise.nil, by
    show _ ∨ (!w.params.followText "set-order") = true
    cases w.params.followText "set-order"
    · exact .inr rfl
    · exact .inl rfl⟩
/-- the loop that adds texts one by one -/
theorem textLoop {I : Addr} {fp wr : List Addr} {G : Array GenState → Array GenState → Prop} {n : Nat} {Pv : Nat → Value → Prop} {St : Nat → Shared → Prop} {R : Result → Shared → Prop}
    (W : WalksS P w A.in1 I fp wr G n Pv St) (S : Addr) (hSf : S ∉ fp) (ns : List Str) (hn : n = ns.length) (hb : ns.length + 1 < scanBound) (hval : ∀ i v, Pv i v → ∃ k t, ns[i]? = some k ∧ v = .str k t) :
    ∀ (k i : Nat) (s : Shared), n - i = k → i ≤ n → St i s → (∃ c, c ≤ i ∧ SetT P w s.heap S (fun j => decide (j ∈ ns.take i)) c) →
      (∀ s' c, Moved (S :: wr) G s s' → c ≤ n → SetT P w s'.heap S (fun j => decide (j ∈ ns)) c → R (.ok (.ret .none)) s') →
      codeAny (model P w) A (.builtin "set.update.loop" ⟨[.ref S, .ref I], []⟩) R s := by
  have hSw : S ∉ wr := fun h => hSf (W.sub _ h)
  have hsub : ∀ b ∈ wr, b ∈ S :: wr := fun b hb => List.mem_cons_of_mem _ hb
  intro k
  induction k with
  | zero =>
    intro i s hk' hi hst ⟨c, hc, hS⟩ hR
    have hin : i = n := by omega
    subst hin
    refine codeAny_builtin F.entry_set_update_loop ?_
    rw [Around.under_plainId F.plain_set_update_loop _]
    show wpAny _ A.in1 (pyNext (.ref I) >>= _) _ _ s
    refine wpAny_bind (W.done s _ _ hst fun s' hm => ?_)
    show wpAny _ A.in1 (ret Value.none) _ _ s'
    have e : ns.take i = ns := List.take_of_length_le (by omega)
    rw [e] at hS
    exact wpAny_pure (hR s' c (hm.mono hsub) hc (hS.keep fun o e => hm.heap S o hSw e))
  | succ k ih =>
    intro i s hk' hi hst ⟨c, hc, hS⟩ hR
    have hlt : i < n := by omega
    refine codeAny_builtin F.entry_set_update_loop ?_
    rw [Around.under_plainId F.plain_set_update_loop _]
    show wpAny _ A.in1 (pyNext (.ref I) >>= _) _ _ s
    refine wpAny_bind (W.item i s _ _ hlt hst fun v s' hP hst' hm => ?_)
    obtain ⟨z, t, hz, rfl⟩ := hval i v hP
    have hS' : SetT P w s'.heap S (fun j => decide (j ∈ ns.take i)) c := hS.keep fun o e => hm.heap S o hSw e
    show wpAny _ A.in1 (holding [Value.str z t] (setAdd S (.str z t)) >>= _) _ _ s'
    refine wpAny_bind (wpAny_holding ?_)
    unfold setAdd
    refine wpAny_holding ?_
    refine wpAny_bind ((PySem.strKind P w).pyHash (k := z) (strKind_is _ _ _ _) ?_)
    refine textAdded (s := { s' with toks := s'.toks + 1 }) hS' (by omega) fun h' hsb hS2 => ?_
    have hS3 : SetT P w h' S (fun j => decide (j ∈ ns.take (i + 1))) (if decide (z ∈ ns.take i) = true then c else c + 1) := hS2.same fun j => by
      rw [List.take_add_one, hz]
      simp [List.mem_append]
    have hc3 : (if decide (z ∈ ns.take i) = true then c else c + 1) ≤ i + 1 := by
      split <;> omega
    refine wpAny_pure ⟨plainId_quiet F.plain_set_update_loop _, ih (i + 1) _ (by omega) hlt (W.frame _ s' _ _ hst' (Nat.le_succ _) fun b hb o e => ?_) ⟨_, hc3, hS3⟩ fun s'' c2 hm'' hc'' hS'' => ?_⟩
    · rw [hsb.2 b (fun h : b = S => hSf (by rw [← h]; exact hb))]; exact e
    · refine hR s'' c2 (Moved.trans W.gtrans ((hm.mono hsub).then_heap (Nat.le_succ _) fun b o hb e => ?_) hm'') hc'' hS''
      rw [hsb.2 b (fun h : b = S => hb (by rw [h]; exact List.mem_cons_self))]; exact e
end
section
variable {P : Program} {w : World} {A : Around} {E : Value → Shared → Prop} {s : Shared}
/-- set(xs), xs a list of texts -/
theorem callSetT {a : Addr} {its : Array Value} (ns : List Str) {Q : Value → Shared → Prop} (calm : A.handled = none) (isL : s.heap.IsList a its) (allInt : StrsAre its.toList ns) (few : ns.length + 1 < scanBound)
    (k : ∀ (h' : Heap) (tk c : Nat), SetT P w h' s.heap.objs.size (fun j => decide (j ∈ ns)) c → c ≤ ns.length → (∀ b o, s.heap.get? b = some o → h'.get? b = some o) → Q (.ref s.heap.objs.size) { s with heap := h', toks := tk }) :
    wpAny (model P w) A (call (.type "set") [.ref a]) Q E s := by
  have size0 : its.size = ns.length := by
    have z := StrsAre.length allInt
    rwa [Array.length_toList] at z
  obtain ⟨cc, tl, mro⟩ := F.called_set.mro
  have made := F.called_set.made
  have below := F.called_set.sub
  refine wpAny_call (codeAny_of_tree ?_)
  show wpAny (model P w) _ (callAny (.type "set") _) _ _ s
  refine wpAny_pure ⟨Code.quiet_builtin _ (by decide +kernel), codeAny_builtin F.entry_type_call ?_⟩
  rw [Around.under_plain (weight_type_call_type "set" [.ref a] []) rfl]
  have p1 := F.called_set.notType
  have p2 := F.called_set.canCreate
  have p3 := F.typeCall_set_1 (.ref a)
  repeat (any_goals (first | assumption | wp_step))
  refine codeAny_mono (code_set_led1 (.ref a) (E := E)
    (Q₁ := fun obj s₁ => obj = .ref s.heap.objs.size ∧ s₁ = { s with heap := s.heap.push (freshSet w) }) ⟨rfl, rfl⟩) fun r s₁ hr => ?_
  rcases r with e | fl
  · exact hr
  rcases fl with _ | _ | _ | obj
  · exact hr.elim
  · exact hr.elim
  · exact hr.elim
  obtain ⟨rfl, rfl⟩ := hr
  have at0 : (s.heap.push (freshSet w)).get? s.heap.objs.size = some (freshSet w) := Heap.get?_push_size _ rfl
  have ty0 : Shared.TypeIs { s with heap := s.heap.push (freshSet w) } (.ref s.heap.objs.size) "set" := ⟨_, at0, rfl⟩
  have p4 := F.called_set.init.lookup
  have p5 := F.called_set.init.bind (.ref s.heap.objs.size)
  repeat (any_goals (first | assumption | wp_step))
  refine codeAny_mono (codeAny_call_builtin (R := wants (fun r s₂ => r = .none ∧ ∃ h' tk c, s₂ = { s with heap := h', toks := tk } ∧ SetT P w h' s.heap.objs.size (fun j => decide (j ∈ ns)) c ∧ c ≤ ns.length ∧
    (∀ b o, s.heap.get? b = some o → h'.get? b = some o)) E) F.called_set.init.plain F.entry_set_init (check_set_init_1 ty0 ?_)) fun r₂ s₂ hr₂ => ?_
  · obtain ⟨⟨c0, d0, dt0, sl0⟩, got, cls0, cnt0, data0⟩ := isL
    simp only at cls0 data0
    subst cls0 data0
    have got1 : (s.heap.push (freshSet w)).get? a = some { cls := .type "list", dict := d0, data := .seq its cnt0, slots := sl0 } := Heap.get?_push_of_some _ got
    have q1 := F.sub_list_set
    have q2 := F.sub_list_frozenset
    have q3 : (Value.type "list" == Value.type "dict") = false := by decide
    have isL1 : (s.heap.push (freshSet w)).IsList a its := ⟨_, got1, rfl, cnt0, rfl⟩
    unfold Builtin.«set.__init__» noKeywords Builtin.Frozenset.updateFrom
    generalize frozen : pyIter = walkIt
    wp_walk
    subst frozen
    refine wpAny_pyIter_list isL1 (wpAny_bind (wpAny_runValue ?_))
    have below0 : a < s.heap.objs.size := Heap.lt_size got
    have calm3 : A.in1.in1.in1.handled = none := by simp [calm]
    have apart : a ≠ (s.heap.push (freshSet w)).objs.size := by
      rw [Heap.size_push]
      exact Nat.ne_of_lt (Nat.lt_succ_of_lt below0)
    have apart2 : s.heap.objs.size ∉ [(s.heap.push (freshSet w)).objs.size, a] := by
      rw [Heap.size_push]
      simp only [List.mem_cons, List.not_mem_nil, or_false, not_or]
      exact ⟨Nat.ne_of_lt (Nat.lt_succ_self _), Nat.ne_of_gt below0⟩
    have vals : ∀ (i : Nat) (v : Value), its[i]? = some v → ∃ z t, ns[i]? = some z ∧ v = .str z t := fun i v hv => by
      have hi : i < ns.length := by
        rw [← size0]
        exact (Array.getElem?_eq_some_iff.mp hv).1
      obtain ⟨t, e⟩ := SS.strs_at allInt i v (by rw [Array.getElem?_toList]; exact hv)
      exact ⟨ns[i], t, List.getElem?_eq_getElem hi, by rw [e, List.getD_eq_getElem?_getD, List.getElem?_eq_getElem hi]; rfl⟩
    refine textLoop ((Walks.list calm3 _ a apart its).toS) s.heap.objs.size apart2 ns size0 few vals (its.size - 0) 0 _ (by omega) (Nat.zero_le _) ⟨⟨_, Heap.get?_push_size _ rfl, rfl, rfl⟩, isL1.push _⟩
      ⟨0, Nat.le_refl 0, textNew (Heap.get?_push_of_some _ at0)⟩ ?_
    intro s3 c3 mv hc3 hS3
    obtain ⟨h3, g3, d3, tk3, os3⟩ := s3
    have e1 : g3 = s.gens := mv.gens
    have e2 : d3 = s.drawn := mv.drawn
    have e3 : os3 = s.os := mv.os
    subst e1 e2 e3
    show wpAny (model P w) _ _ _ _ _
    refine wpAny_pure ?_
    show wpAny (model P w) _ (ret Value.none) _ _ _
    rw [size0] at hc3
    refine wpAny_pure ⟨rfl, h3, tk3, c3, rfl, hS3, hc3, fun b o e => ?_⟩
    have hb0 : b < s.heap.objs.size := Heap.lt_size e
    refine mv.heap b o ?_ (Heap.get?_push_of_some _ (Heap.get?_push_of_some _ e))
    simp only [List.mem_cons, List.not_mem_nil, or_false, not_or]
    refine ⟨Nat.ne_of_lt hb0, ?_⟩
    rw [Heap.size_push]
    exact Nat.ne_of_lt (Nat.lt_succ_of_lt hb0)
  · rcases r₂ with e | fl
    · exact hr₂
    rcases fl with _ | _ | _ | r
    · exact hr₂.elim
    · exact hr₂.elim
    · exact hr₂.elim
    obtain ⟨rfl, h', tk, c', rfl, hS', hc', hk'⟩ := hr₂
    repeat (any_goals (first | assumption | wp_step))
    exact k _ _ _ hS' hc' hk'
end
section
/-- the set of texts, as an object of the heap -/
def SetTO (P : Program) (w : World) (a : Addr) (S : Str → Bool) (n : Nat) : HO := .ext fun h => SetT P w h a S n
theorem setTO_new {w : World} {P : Program} {H : Hp} {h : Heap} {a : Addr} {S : Str → Bool} {n : Nat} (R : SetT P w h a S n) : ObjOk P w H h a (SetTO P w a S n) := by
  have ⟨o, _, _, _, ⟨ho, _⟩, _⟩ := R
  exact ⟨R, ⟨o, ho⟩, fun h1 h2 p k => SetT.keep p k⟩
/-- set(xs) by values, xs a list of texts -/
def rSetT (K : PySem.W.Frag) (P : Program) (w : World) : List V → Hp → VK → Prop := fun vs H Q => ∃ (a : Addr) (ns : List Str), vs = [V.ref a] ∧ SqL K H a (ns.map V.str) ∧ ns.length ≤ 1000 ∧
  ∀ (p : Addr) (c : Nat), H p = none → c ≤ ns.length → Q (.ref p) (upd H p (SetTO P w p (fun j => decide (j ∈ ns)) c))
theorem cr_setT {X : Cx} (hc : X.calm = true) : CallR X (.type "set") (rSetT X.K X.prog X.w) := by
  intro pins s σ H vs us Q I r h
  obtain ⟨a, ns, rfl, hq, few, k⟩ := h
  obtain ⟨its, rv, p, hz⟩ := I.list hq
  rw [Vals.ref1 r]
  refine callSetT ns (I.ok.hd hc) p.isList (strsAre_of rv) (by unfold scanBound; omega) fun h' tk c hS hcl hk => ?_
  refine ⟨.ref s.heap.objs.size, upd H s.heap.objs.size (SetTO X.prog X.w s.heap.objs.size (fun j => decide (j ∈ ns)) c), I.laid (t' := tk) hk (Nat.le_refl _) (setTO_new hS), rfl, k _ c (I.hok.fresh (Nat.le_refl _)) hcl⟩
theorem texts_are : ∀ (us : List Value), (∀ u ∈ us, ∃ k tk, u = Value.str k tk) → StrsAre us (us.map txtV)
  | [], _ => .nil
  | u :: us, h => by
    obtain ⟨k, tk, rfl⟩ := h u List.mem_cons_self
    exact .cons k tk (texts_are us fun v hv => h v (List.mem_cons_of_mem _ hv))
/-- sorted(s), s a set of fewer than 64 texts -/
def rSortedT (P : Program) (w : World) : List V → Hp → VK → Prop := fun vs H Q => ∃ (a : Addr) (S : Str → Bool) (n : Nat), vs = [V.ref a] ∧ H a = some (SetTO P w a S n) ∧ n < 64 ∧
  ∀ (ys : List Str) (p : Addr), PyProof.Rows.sortedS ys = true → ys.Nodup → (∀ k : Str, k ∈ ys ↔ S k = true) → H p = none → Q (.ref p) (upd H p (.lst (ys.map V.str)))
theorem cr_sortedT {X : Cx} (hc : X.calm = true) : CallR X (.builtin "sorted") (rSortedT X.prog X.w) := by
  intro pins s σ H vs us Q I r h
  obtain ⟨a, S, n, rfl, ha, h64, q⟩ := h
  have R : SetT X.prog X.w s.heap a S n := (I.hok a _ ha).1
  rw [Vals.ref1 r]
  obtain ⟨o, es, ep, t, ⟨ho, hex, hd⟩, g, nd, hm, ⟨hb, hf, hn⟩, hr, hl⟩ := R
  refine Calls.call_function_entry PyProof.Rows.kind_sorted PyProof.Rows.plain_sorted PyProof.Rows.entry_sorted (PyProof.Rows.args_sorted1 _) ?_
  unfold Builtin.«sorted»
  refine wpAny_bind (m := checkCount "sorted" 1 1 _) (wpAny_pure ?_)
  refine wpAny_bind (collect_set (A := X.A.in1) (I.ok.hd hc) ⟨o, ho, hex.1, hd⟩ hf hb hr hl fun s1 out k1 hz g1 o1 pm => ?_)
  have hal : out.length = n := by rw [pm.length_eq, List.length_map, Array.length_toList]; exact hn
  have hS : StrsAre out (out.map txtV) := texts_are out fun v hv => by
    obtain ⟨e, he, z⟩ := List.mem_map.mp (pm.mem_iff.mp hv)
    obtain ⟨k, tk, h1, _⟩ := g e he
    exact ⟨k, tk, by rw [← z]; exact h1⟩
  have pk : (out.map txtV).Perm (es.toList.map txtOf) := by
    have z := pm.map txtV
    rw [List.map_map] at z
    exact z
  obtain ⟨h', gg, dd, tk, oo⟩ := s1
  have e1 : gg = s.gens := g1
  have e2 : oo = s.os := o1
  subst e1 e2
  refine wpAny_bind (wpAny_newList ?_ (by rw [hal, sizeLine_eq]; omega))
  have hoL : (h'.push (seqObj "list" out.toArray 0)).get? h'.objs.size = some (seqObj "list" out.toArray 0) := Heap.get?_push_size _ rfl
  refine wpAny_bind (wpAny_holding (wpAny_call_entry PyProof.Rows.slot_list_sort ⟨_, hoL, rfl⟩ PyProof.Rows.entry_list_sort
    (list_sort_treeK strKind_oneLt hoL hS.keysOf (fun v₁ v₂ rest e => keyKind_strs (by rw [← e]; exact hS)) (by rw [hal]; exact h64) fun st' hp hs => ⟨_, rfl, ?_⟩)
    (PyProof.Rows.args_list_sort _)))
  obtain ⟨ys, y1, y2, y3⟩ := sorted_out_str hS hp hs
  obtain ⟨e', he'⟩ := PyProof.Rows.sortedHeap_at (vs := out) (out := (arrOf st').map (·.2)) hoL
  have pn := y2.trans pk
  have hlen : (ys.map V.str).length ≤ sizeLine := by
    rw [List.length_map, y2.length_eq, List.length_map, hal, sizeLine_eq]
    omega
  have hlt : s.heap.objs.size ≤ h'.objs.size := hz
  have hn0 : H h'.objs.size = none := I.hok.fresh hlt
  have kk : ∀ b u, s.heap.get? b = some u → (sortedHeap (h'.push (seqObj "list" out.toArray 0)) h'.objs.size out ((arrOf st').map (·.2))).get? b = some u := fun b u e => by
    have z := k1 b u e
    have hb' : b < h'.objs.size := Heap.lt_size z
    rw [PyProof.Rows.sortedHeap_old (Nat.ne_of_lt hb') (by rw [size_push']; exact Nat.lt_succ_of_lt hb')]
    exact Heap.get?_push_of_some _ z
  have J : Inv X pins σ (upd H h'.objs.size (.lst (ys.map V.str))) { s with heap := sortedHeap (h'.push (seqObj "list" out.toArray 0)) h'.objs.size out ((arrOf st').map (·.2)), drawn := dd, toks := tk } :=
    I.call (ch := []) (Un.laid kk hlt hn0) (I.hok.laid kk hlt ⟨hlen, ((arrOf st').map (·.2)).toList, e', vals_of_strs y1, by rw [Array.toArray_toList]; exact he'⟩) I.bare (fun _ z => nomatch z)
  exact wpAny_pure ⟨_, rfl, .ref h'.objs.size, _, J, rfl, q ys _ y3 ((pn.nodup_iff).mpr nd) (fun k => by rw [pn.mem_iff, ← hm k]) hn0⟩
end
end Mh
/-! xs[i] op= e on lists: the item that stands there, read -/
namespace Mh
open PySem PySem.Spec PyProof.Rows L2
/-- xs[i], by values, for the library's ps_augS -/
theorem get_list {X : Cx} : PGet X (rIxL X.K) := by
  intro pins s σ H o i ov iv Q I ro ri h
  obtain ⟨p, xs, k, z, rfl, rfl, hq, he, q⟩ := h
  cases ro
  obtain ⟨t, rfl⟩ := ri
  obtain ⟨its, r, pl, hz⟩ := I.list hq
  obtain ⟨j, h1, h2, h3, h4, h5⟩ := atI_get he
  obtain ⟨w, ew, rw'⟩ := r.get h2
  have hl := r.length
  have hn := line63
  have fin : EP X pins σ Q w s := ⟨z, H, I, rw', q⟩
  by_cases h0 : 0 ≤ k
  · have hj : k.toNat = j := by
      rw [seqIndex_of h0 h5] at h1
      exact Option.some.inj h1
    exact wpAny_getItem_list pl.isList h0 (by omega) (by rw [hj]; simpa using ew) fin
  · have hj : (k + (its.toArray.size : Int)).toNat = j := by
      rw [seqIndex_neg (by omega) h4] at h1
      rw [List.size_toArray, ← hl]
      exact Option.some.inj h1
    exact wpAny_getItem_list_neg pl.isList (by omega) (by rw [List.size_toArray] <;> omega) (by omega) (by rw [hj]; simpa using ew) fin
end Mh
/-! sorted(a set of ints), any number of them -/
namespace Mh
open PySem L2 PyProof.Rows
section
variable {P : Program} {w : World} {A : Around} {E : Value → Shared → Prop} {s : Shared}
theorem sorted_setW {a : Addr} {S : Int → Bool} {n : Nat} {Q : Value → Shared → Prop} (R : SetR w s.heap a S n) (hh : A.handled = none) (hz0 : n ≤ sizeLine)
    (hQ : ∀ s' p (out : Array Value) (c : Nat) (ns : List Int), (∀ b o, s.heap.get? b = some o → s'.heap.get? b = some o) → s'.gens = s.gens → s'.os = s.os → s.heap.objs.size ≤ p →
      s'.heap.get? p = some (seqObj "list" out c) → IntsAre out.toList ns → ns.Pairwise (· < ·) → (∀ k, k ∈ ns ↔ S k = true) → ns.length = n → Q (.ref p) s') :
    wpAny (model P w) A (call (.builtin "sorted") [.ref a]) Q E s := by
  obtain ⟨o, es, ep, t, ho, hex, hd, g, nd, hm, hb, hf, hn, hr, hl⟩ := R
  refine Calls.call_function_entry kind_sorted plain_sorted entry_sorted (args_sorted1 _) ?_
  unfold Builtin.«sorted»
  refine wpAny_bind (m := checkCount "sorted" 1 1 _) (wpAny_pure ?_)
  refine wpAny_bind (collect_set (A := A.in1) hh ⟨o, ho, hex.1, hd⟩ hf hb hr hl fun s1 vs k1 hz g1 o1 pm => ?_)
  have hvl : vs.length = n := by rw [pm.length_eq, List.length_map, Array.length_toList]; exact hn
  have hI : IntsAre vs (vs.map Builtin.Re.reRawOf) := ints_of vs fun v hv => by
    obtain ⟨e, he, q⟩ := List.mem_map.mp (pm.mem_iff.mp hv)
    obtain ⟨k, tk, h1, _⟩ := g e he
    exact ⟨k, tk, by rw [← q]; exact h1⟩
  have pk : (vs.map Builtin.Re.reRawOf).Perm (es.toList.map keyOf) := by
    have q := pm.map Builtin.Re.reRawOf
    rw [List.map_map] at q
    exact q
  refine wpAny_bind (wpAny_newList ?_ (by rw [hvl]; exact hz0))
  have hoL : (s1.heap.push (seqObj "list" vs.toArray 0)).get? s1.heap.objs.size = some (seqObj "list" vs.toArray 0) := Heap.get?_push_size _ rfl
  refine wpAny_bind (wpAny_holding (wpAny_call_entry slot_list_sort ⟨_, hoL, rfl⟩ entry_list_sort (SrtO.list_sort_ord SrtO.swo_int hoL (by rw [hvl]; exact hz0) (fun h2 => SrtO.ints_sortable hI h2) fun out h1 h2 => ⟨_, rfl, ?_⟩) (args_list_sort _)))
  obtain ⟨a1, a2, a3⟩ := SrtO.ints_out hI h1 h2
  obtain ⟨c, hc⟩ := sortedHeap_at (vs := vs) (out := out.toArray) hoL
  have pn : (out.map SrtO.iv).Perm (es.toList.map keyOf) := a2.trans pk
  refine wpAny_pure ⟨_, rfl, hQ _ s1.heap.objs.size out.toArray c (out.map SrtO.iv) (fun b u e => ?_) g1 o1 hz hc a1 (lt_of_le_nodup _ a3 (pn.nodup_iff.mpr nd)) (fun k => by rw [pn.mem_iff, ← hm k]) ?_⟩
  · have q := k1 b u e
    have hlt := Heap.lt_size q
    show (sortedHeap (s1.heap.push (seqObj "list" vs.toArray 0)) s1.heap.objs.size vs out.toArray).get? b = some u
    rw [sortedHeap_old (Nat.ne_of_lt hlt) (by rw [size_push']; exact Nat.lt_succ_of_lt hlt)]
    exact Heap.get?_push_of_some _ q
  · rw [pn.length_eq, List.length_map, Array.length_toList]; exact hn
end
/-- sorted(found), any number of members -/
def rSortedSetW (w : World) : List V → Hp → VK → Prop := fun vs H Q => ∃ (a : Addr) (S : Int → Bool) (n : Nat), vs = [V.ref a] ∧ H a = some (SetO w a S n) ∧ n ≤ sizeLine ∧
  ∀ (ns : List Int) (p : Addr), ns.Pairwise (· < ·) → (∀ k : Int, k ∈ ns ↔ S k = true) → ns.length = n → H p = none → Q (.ref p) (upd H p (.lst (ns.map V.int)))
theorem cr_sortedSetW {X : Cx} (hc : X.calm = true) : CallR X (.builtin "sorted") (rSortedSetW X.w) := by
  intro pins s σ H vs us Q I r h
  obtain ⟨a, S, n, rfl, ha, hn, q⟩ := h
  have R := setO_get I ha
  rw [Vals.ref1 r]
  refine sorted_setW R (I.ok.hd hc) hn fun s' p out c ns k g o hp hg hi hs hm hl => ?_
  have hlen : (ns.map V.int).length ≤ sizeLine := by rw [List.length_map, hl]; exact hn
  have hn : H p = none := I.hok.fresh hp
  have J : Inv X pins σ (upd H p (.lst (ns.map V.int))) { s with heap := s'.heap, gens := s'.gens, drawn := s'.drawn, toks := s'.toks } :=
    I.call (ch := []) (Un.laid k hp hn) (I.hok.laid k hp ⟨hlen, out.toList, c, vals_of_ints hi, hg⟩) (by rw [g]; exact I.bare) (fun _ z => nomatch z)
  have e : s' = { s with heap := s'.heap, gens := s'.gens, drawn := s'.drawn, toks := s'.toks } := by
    cases s'
    cases s
    cases o
    rfl
  rw [e]
  exact ⟨.ref p, _, J, rfl, q ns p hs hm hl hn⟩
section
variable {X : Cx} {K : PySem.W.Frag}
theorem mtK_lcount (e : X.K = K) : MtR X "list.count" (rCntI K) := by subst e; exact mt_lcount
variable {o e : Expr} {es : List Expr} {to : TE} {t : TA} {name : Str} {apos cpos : Pos} {T id : String} {r : V → List V → Hp → VK → Prop}
/-- pe_bm within a comprehension -/
theorem peK_bm (eK : X.K = K) (pa : PlainAttrs T) (slot : Slot T name id) (hty : typeOf (.builtin id) = pure (.type "method_descriptor")) (hm : MtR X id r) (ho : PE X o to) (ha : PA X (e :: es) t)
    (hbase : attributeBase o name X.env (eval o X.env) = eval o X.env := by rfl)
    (hfew : ((backTo cpos (starEach (e :: es) X.env)).all (fun x => !x.1) && (backToKw cpos (keywordEach [] X.env)).all (fun x => x.1.isSome)
      && decide ((e :: es).length + ([] : List Keyword).length + (if ([] : List Keyword).isEmpty then 0 else 1) < 30)) = true := by rfl)
    (hline : (apos.endLine == cpos.line) = true := by rfl) (hs : starEach (e :: es) X.env = (false, eval e X.env) :: starEach es X.env := by rfl) (hplain : (backTo cpos (starEach es X.env)).any (·.1) = false := by rfl) :
    PE X (.Call (.Attribute o name apos) (e :: es) [] cpos) (tBM K T r to t) := by
  subst eK
  exact pe_bm pa slot hty hm ho ha hbase hfew hline hs hplain
end
end Mh
/-! t[::-1] of a tuple -/
namespace Mh
open PySem PyProof.Rows L2 HT
section
variable {prog : Program} {w : World} {A : Around} {E : Value → Shared → Prop} {s : Shared}
theorem adjust_back (n : Nat) : Builtin.Slice.sliceAdjust none none (-1) (n : Int) = ((n : Int) - 1, -1) := by
  unfold Builtin.Slice.sliceAdjust
  rfl
theorem places_back (n : Nat) : Builtin.Slice.slicePlaces ((n : Int) - 1) (-1) (-1) = n := by
  unfold Builtin.Slice.slicePlaces
  have h1 : ¬ ((-1 : Int) > 0) := by omega
  simp only [h1, if_false]
  split
  · simp
  · omega
theorem sliceApplied_back {sl : Addr} {vs : Value} {n : Nat} {Q : Int × Int × Nat → Shared → Prop} (hs : s.heap.IsSliceOf sl .none .none vs) (ps : IsPart vs (some (-1)))
    (h : Q ((n : Int) - 1, -1, n) s) : wpAny (model prog w) A (Builtin.Slice.sliceApplied (.ref sl) (pure (n : Int))) Q E s := by
  obtain ⟨os, hos, hcs, hds⟩ := id hs
  unfold Builtin.Slice.sliceApplied Builtin.Slice.sliceFields
  refine wpAny_bind (wpAny_bind (wpAny_field hos hds (x := .none) rfl (wpAny_bind (wpAny_field hos hds (x := .none) rfl (wpAny_bind (wpAny_field hos hds (x := vs) rfl (wpAny_pure ?_)))))))
  refine wpAny_bind (slicePart_ ps ?_)
  show wpAny _ _ (if ((-1 : Int) == 0) = true then _ else _) _ _ s
  rw [if_neg (by decide)]
  refine wpAny_bind (slicePart_ .none (wpAny_bind (slicePart_ .none (wpAny_bind (wpAny_pure ?_)))))
  show wpAny _ _ (match Builtin.Slice.sliceAdjust none none (-1) (n : Int) with | (lo, hi) => pure (lo, (-1 : Int), Builtin.Slice.slicePlaces lo hi (-1))) _ _ s
  rw [adjust_back n]
  show wpAny _ _ (pure ((n : Int) - 1, (-1 : Int), Builtin.Slice.slicePlaces ((n : Int) - 1) (-1) (-1))) _ _ s
  rw [places_back]
  exact wpAny_pure h
theorem pick_back (xs : Array Value) : ((List.range xs.size).filterMap fun (m : Nat) => xs[((xs.size : Int) - 1 + (m : Int) * -1).toNat]?).toArray = xs.toList.reverse.toArray := by
  have q := PySem.W.krv_pick xs
  rw [← q]
  unfold PySem.slicePick
  rw [PySem.W.krv_bounds]
  show _ = ((sliceRange ((xs.size : Int) - 1) (-1) (-1)).filterMap (xs[·]?)).toArray
  rw [PySem.W.krv_sliceRange, List.filterMap_map]
  have e : ∀ l : List Nat, (∀ m ∈ l, m < xs.size) → (l.filterMap fun (m : Nat) => xs[((xs.size : Int) - 1 + (m : Int) * -1).toNat]?) = l.filterMap ((fun x => xs[x]?) ∘ fun k => xs.size - 1 - k) := by
    intro l
    induction l with
    | nil => intro _; rfl
    | cons m l ih =>
      intro h
      have hm := h m List.mem_cons_self
      have e : ((xs.size : Int) - 1 + (m : Int) * -1).toNat = xs.size - 1 - m := by omega
      rw [List.filterMap_cons, List.filterMap_cons, ih fun k hk => h k (List.mem_cons_of_mem _ hk), e]
      rfl
  rw [e _ fun m hm => List.mem_range.mp hm]
theorem getItem_tuple_back {t sl : Addr} {items : Array Value} {vs : Value} {Q : Value → Shared → Prop} (ht : IsTup s.heap t items) (hs : s.heap.IsSliceOf sl .none .none vs) (ps : IsPart vs (some (-1)))
    (h : Q (.ref s.heap.objs.size) { s with heap := s.heap.push { cls := .type "tuple", data := .seq items.toList.reverse.toArray } })
    (hsz : items.size ≤ sizeLine) : wpAny (model prog w) A (getItem (.ref t) (.ref sl)) Q E s := by
  have htake : sizeOk (.seq items.toList.reverse.toArray) := by
    show items.toList.reverse.toArray.size ≤ sizeLine
    rw [List.size_toArray, List.length_reverse, Array.length_toList]
    exact hsz
  obtain ⟨os, hos, hcs, hds⟩ := id hs
  have hTs : s.TypeIs (.ref sl) "slice" := ⟨os, hos, hcs⟩
  unfold getItem
  try with_reducible refine wpAny_holding ?_
  first | refine wpAny_bind (wpAny_pure ?_) | skip
  refine wpAny_bind (wpAny_sequenceKey ht.typeIs (by decide) ?_)
  refine wpAny_bind (wpAny_callSpecial?_slot (name := Str.ofString "__getitem__") ht.typeIs PyProof.Rows.slot_tuple_getitem
    (wpAny_call_entry PyProof.Rows.slot_tuple_getitem ht.typeIs entry_tuple_getitem ?_ (args_tuple_getitem _ _)))
  show wpAny _ _ (Builtin.Tuple.tupleItemsOf (.ref t) >>= _) _ _ s
  refine wpAny_bind (tupleItemsOf_ ht ?_)
  refine wpAny_bind (wpAny_typeOf hTs ?_)
  rw [if_pos (by decide)]
  refine wpAny_bind (sliceApplied_back hs ps ?_)
  have hno : ¬ (((((items.size : Int) - 1) == 0 && (-1 : Int) == 1 && items.size == items.size)) = true) := by
    intro q
    rw [Bool.and_eq_true, Bool.and_eq_true] at q
    exact absurd q.1.2 (by decide)
  show wpAny _ _ (if (((items.size : Int) - 1) == 0 && (-1 : Int) == 1 && items.size == items.size) = true then _ else _) _ _ s
  rw [if_neg hno, pick_back]
  first
    | exact wpAny_bind (m := Builtin.Tuple.tupleExact _) (wpAny_newObj_type (wpAny_pure ⟨_, rfl, wpAny_pure h⟩) htake)
    | exact wpAny_bind (m := Builtin.Tuple.tupleExact _) (wpAny_newObj_type (wpAny_bind (wpAny_pure (wpAny_pure ⟨_, rfl, wpAny_pure h⟩))) htake)
    | exact wpAny_bind (wpAny_bind (m := Builtin.Tuple.tupleExact _) (wpAny_newObj_type (wpAny_pure (wpAny_pure ⟨_, rfl, wpAny_pure h⟩)) htake))
    | exact wpAny_bind (wpAny_bind (m := Builtin.Tuple.tupleExact _) (wpAny_newObj_type (wpAny_pure ⟨_, rfl, wpAny_pure h⟩) htake))
end
section
variable {X : Cx}
def tRevT (K : PySem.W.Frag) (te : TE) : TE := fun σ H Q => te σ H fun x H1 => ∃ a xs, x = .ref a ∧ SqT K H1 a xs ∧ ∀ p, H1 p = none → Q (.ref p) (upd H1 p (.tup xs.reverse))
theorem pe_revT {e : Expr} {te : TE} {k : Nat} {p1 p2 p3 pos : Pos} (he : PE X e te) : PE X (.Subscript e (.Slice none none (some (.UnaryOp .USub (.Constant (.int 1) k p1) p2)) p3) pos) (tRevT X.K te) := by
  refine ⟨fun pins s σ H Q I h => ?_⟩
  refine Subscript_ (thn (he.run pins s σ H _ I h) fun v s1 ⟨x, H1, I1, r1, q1⟩ => ?_)
  obtain ⟨a, xs, ex, hx, q⟩ := q1
  subst ex
  cases r1
  have hst : PO X (some (.UnaryOp .USub (.Constant (.int 1) k p1) p2)) (tPart (tUn (rU fun i => .int (-i)) (tC (.int 1)))) := po_some (pe_un un_neg pe_int)
  refine wpAny_Slice (thn (po_none.run pins s1 σ H1 (fun o H2 => o = none ∧ H2 = H1) I1 ⟨rfl, rfl⟩) fun vl s2 ⟨l, H2, I2, pl, el, e2⟩ => ?_)
  subst el e2
  refine thn (po_none.run pins s2 σ H2 (fun o H3 => o = none ∧ H3 = H2) I2 ⟨rfl, rfl⟩) fun vu s3 ⟨u, H3, I3, pu, eu, e3⟩ => ?_
  subst eu e3
  refine thn (hst.run pins s3 σ H3 (fun o H4 => o = some (-1) ∧ H4 = H3) I3 ⟨1, rfl, -1, rfl, rfl, rfl⟩) fun vs s4 ⟨o, H4, I4, ps, eo, e4⟩ => ?_
  subst eo e4
  cases pl
  cases pu
  have I5 : Inv X pins σ H4 { s4 with heap := s4.heap.push { cls := .type "slice", data := .fields #[.none, .none, vs] } } := I4.kept (t' := s4.toks) fun b ob q => Heap.get?_push_of_some _ q
  obtain ⟨its, r, ht, hz⟩ := I5.tuple hx
  have hlen := r.length
  show wpAny (model X.prog X.w) X.A (subscriptTail e (.Slice none none (some (.UnaryOp .USub (.Constant (.int 1) k p1) p2)) p3) (.ref a) (.ref s4.heap.objs.size)) (EP X pins σ Q) X.xe { s4 with heap := s4.heap.push { cls := .type "slice", data := .fields #[.none, .none, vs] } }
  refine tail_any (ops := [.ref a, .ref s4.heap.objs.size]) ht.typeIs (PyProof.Rows.slot_tuple_getitem.lookup) ?_ (by with_unfolding_all rfl)
  refine getItem_tuple_back ht (Heap.IsSliceOf.new _ .none .none vs) ps ?_ (by rw [List.size_toArray]; omega)
  refine ⟨.ref _, _, I5.laid (t' := s4.toks) (o := .tup xs.reverse) (fun b ob q => Heap.get?_push_of_some _ q) (Nat.le_refl _) ?_, rfl, q _ (I5.hok.fresh (Nat.le_refl _))⟩
  exact ⟨by rw [List.length_reverse]; exact hz, _, r.reverse, IsTup.new _ _⟩
end
end Mh
/-! A walk over a new dict, which stays locked. -/
namespace Mh
open PySem PyProof.Rows L2
def iKeysL (td : TE) : TI := fun σ H R => td σ H fun x H1 => ∃ d kvs, x = .ref d ∧ H1 d = some (.dK kvs) ∧ ∀ o, R (Itk d o kvs) (upd H1 d (.frz o (.dK kvs)))
section
variable {X : Cx} {tg e : Expr} {td : TE}
theorem pi_keysL (he : PE X e td) : PI X tg e (iKeysL td) := by
  refine ⟨fun pins s σ H R I h => ?_⟩
  refine thn (he.run pins s σ H _ I h) fun u s1 ⟨x, H1, I1, rx, d, kvs, ex, hd0, q⟩ => ?_
  subst ex
  obtain rfl : u = Value.ref d := rx
  obtain ⟨o, I2⟩ := I1.lock hd0 trivial
  have q := q o
  have hd : upd H1 d (.frz o (.dK kvs)) d = some (.frz o (.dK kvs)) := upd_same
  obtain ⟨hs, hgd, hx, es, ep, vs, hdt, hsz, kv, hm⟩ := I2.frzK hd
  refine iter_keys hs hgd hx hdt (pi_one (tk := s1.toks) I2 _ (turn_keys _ hdt) ⟨_, Heap.get?_push_size _ rfl, rfl, ?_⟩ q)
  rw [hsz] <;> rfl
end
end Mh
/-! dict(zip(xs, ys)), two lists of one length, the keys whole numbers or texts. -/
namespace Mh
open PySem PySem.Spec PyProof.Rows L2
def tZipD (K : PySem.W.Frag) (ta : TA) : TE := fun σ H Q => ta σ H fun vs H1 => ∃ (a b : Addr) (ks : List Key) (ys : List V), vs = [.ref a, .ref b] ∧ SqL K H1 a (ks.map kV) ∧ SqL K H1 b ys ∧
  ∀ p, H1 p = none → Q (.ref p) (upd H1 p (.dK (mergeK [] (ks.zip ys))))
theorem kv_zip : ∀ {ks : List Key} {ys : List V} {us : List Value}, Vals ys us → KV (ks.zip ys) (ks.zip us)
  | [], ys, us, r => by rw [List.zip_nil_left, List.zip_nil_left]; exact .nil
  | k :: ks, [], _, .nil => by rw [List.zip_nil_right, List.zip_nil_right]; exact .nil
  | k :: ks, y :: ys, u :: us, .cons h t => .cons ⟨rfl, h⟩ (kv_zip t)
section
variable {X : Cx} {e e2 : Expr} {ta : TA} {p0 p pos pos0 : Pos}
theorem pe_dictzip (hcalm : X.calm = true) (hg1 : Gl X "dict") (hm1 : X.mg "dict" = none) (hg : Gl X "zip") (hm : X.mg "zip" = none) (ha : PA X [e, e2] ta)
    (hs : starEach [e, e2] X.env = (false, eval e X.env) :: starEach [e2] X.env := by rfl) (hpl : (backTo pos (starEach [e2] X.env)).any (·.1) = false := by rfl) :
    PE X (.Call (.Name "dict" p0) [.Call (.Name "zip" p) [e, e2] [] pos] [] pos0) (tZipD X.K ta) := by
  refine ⟨fun pins s σ H Q I h => ?_⟩
  refine wpAny_Call_Name_kw (ld_blt I hg1 hm1 (u := .type "dict") (by rfl) ?_)
  refine PyProof.Rows.callWith_type1 ?_ rfl rfl
  show wpAny _ _ (spliced ((false, eval (.Call (.Name "zip" p) [e, e2] [] pos) X.env) :: backTo pos0 (starEach [] X.env))) _ _ s
  refine Calls.spliced_cons ?_
  refine Call_ (ld_blt I hg hm PyProof.Rows.boot_zip (PyProof.Rows.callWith_type1 (thn (ha.run pos pins s σ H _ I h) fun us s1 ⟨vs, H1, I1, r1, q1⟩ => ?_) hs hpl))
  obtain ⟨a, b, ks, ys, ex, hqx, hqy, q⟩ := q1
  subst ex
  cases r1 with
  | cons r rr =>
    cases rr with
    | cons r' rr =>
      cases rr
      cases r
      cases r'
      obtain ⟨its, rv, p1, hz1⟩ := I1.list hqx
      obtain ⟨its2, rv2, p2, _⟩ := I1.list hqy
      have la : a < s1.heap.objs.size := p1.lt
      have lb : b < s1.heap.objs.size := p2.lt
      have l1 : ks.length = its.length := by
        have e := rv.length
        rwa [List.length_map] at e
      have l2 : ys.length = its2.length := rv2.length
      refine call_zip_2 p1.isList p2.isList fun h' hz hTI hTO h1 h2 hsz hk => ?_
      have I2 : Inv X pins σ H1 { s1 with heap := h' } := I1.kept (t' := s1.toks) hk
      refine Calls.spliced_nil ?_
      have P := PairArg.zip (prog := X.prog) (w := X.w) (s1.heap.objs.size + 4) (s1.heap.objs.size + 2) (s1.heap.objs.size + 3) s1.heap.objs.size (s1.heap.objs.size + 1) a b (PySem.W.ktu_apart s1.heap.objs.size a b la lb) its.toArray its2.toArray
      have le5 : s1.heap.objs.size ≤ h'.objs.size := by rw [hsz]; exact Nat.le_add_right _ _
      have hm0 : (h'.objs.size == sysModules) = false := beq_eq_false_iff_ne.mpr (Nat.ne_of_gt (Nat.lt_of_lt_of_le I1.big le5))
      have mn : min its.toArray.size its2.toArray.size = (ks.zip its2).length := by
        rw [List.size_toArray, List.size_toArray, List.length_zip]
        omega
      rw [mn] at P
      refine PySem.call_dict_pairs (knd := mixKind X.prog X.w) (kvs := ks.zip its2) P (I2.ok.hd hcalm) ⟨hz, hTI, ⟨_, _, hTO⟩, h1, h2, p1.isList.at fun o e => hk _ o e, p2.isList.at fun o e => hk _ o e⟩ ⟨?_, ?_⟩ ?_ fun h'' tk hd' k => ?_
      · rfl
      · rintro i key v ⟨e1, e2⟩
        have e1 : its[i]? = some key := by simpa using e1
        have e2 : its2[i]? = some v := by simpa using e2
        have lt : i < ks.length := by
          have := (List.getElem?_eq_some_iff.mp e1).1
          omega
        have ek : ks[i]? = some ks[i] := List.getElem?_eq_getElem lt
        obtain ⟨u, hu, ru⟩ := rv.get (i := i) (x := kV ks[i]) (by rw [List.getElem?_map, ek]; rfl)
        rw [e1] at hu
        have hu := Option.some.inj hu
        subst hu
        refine ⟨ks[i], ?_, kV_is ru⟩
        rw [List.getElem?_zip_eq_some]
        exact ⟨ek, e2⟩
      · rw [List.length_map] at hz1
        rw [List.length_zip]
        omega
      · have kz : KV (ks.zip ys) (ks.zip its2) := kv_zip rv2
        have hlen : (mergeK [] (ks.zip ys)).length ≤ sizeLine := by
          refine Nat.le_trans (length_mergeK (ks.zip ys) []) ?_
          rw [List.length_nil, Nat.zero_add, List.length_zip]
          rw [List.length_map] at hz1
          omega
        have ka : ∀ b o, s1.heap.get? b = some o → h''.get? b = some o := fun c o e => by
          have lt := Heap.lt_size e
          refine k c o (fun z => ?_) (hk c o e)
          simp only [List.mem_cons, List.not_mem_nil, or_false] at z
          rcases z with e | e | e | e <;> rw [e] at lt <;> exact absurd lt (Nat.not_lt.mpr (by first | exact Nat.le_refl _ | exact Nat.le_add_right _ _))
        exact ⟨.ref h'.objs.size, upd H1 h'.objs.size (.dK (mergeK [] (ks.zip ys))), I1.laid (t' := tk) ka le5 (show ObjOk X.prog X.w _ _ _ (.dK (mergeK [] (ks.zip ys))) from ⟨hlen, hm0, merged [] (ks.zip its2), KV.merge kz .nil, hd'⟩), rfl, q _ (I1.hok.fresh le5)⟩
end
end Mh
/-! sorted of tuples (text, ..) of which no two have the same text. -/
namespace Mh
open PySem L2 PyProof.Rows
theorem ltS_swo {α : Type} (k : α → Str) : SrtO.Swo fun v u => ltS (k v) (k u) := by
  refine ⟨fun x y h => ltS_asym h, fun x y z h1 h2 => ?_⟩
  rw [ltS_no] at h1 h2 ⊢
  exact leS_trans h1 h2
/-- such a tuple at an address -/
def IsTx (h : Heap) (v : Value) (k : Str) : Prop := ∃ a o u rest n, v = .ref a ∧ h.get? a = some o ∧ o.cls = .type "tuple" ∧ o.data = .seq (Value.str k u :: rest).toArray n
theorem IsTx.keeps {h h' : Heap} {v : Value} {k : Str} (p : IsTx h v k) (q : ∀ b o, h.get? b = some o → o.cls = .type "tuple" → h'.get? b = some o) : IsTx h' v k := by
  obtain ⟨a, o, u, rest, n, e, ho, hc, hd⟩ := p
  exact ⟨a, o, u, rest, n, e, q a o ho hc, hc, hd⟩
section
variable {prog : Program} {w : World} {A : Around} {E : Value → Shared → Prop} {s : Shared}
theorem tx_cmp {vs : List Value} {k : Value → Str} (hp : ∀ v ∈ vs, IsTx s.heap v (k v)) (one : ∀ v ∈ vs, ∀ u ∈ vs, k v = k u → v = u) :
    SrtO.Cmp prog w A s (tuples' true) (fun p => p.1 ∈ vs) (SrtO.lt2 fun v u => ltS (k v) (k u)) := by
  intro p q hm hm'
  show wpAny (model prog w) A (keyLt' (tuples' true) p.1 q.1) (fun r s' => s' = s ∧ r = ltS (k p.1) (k q.1)) (fun _ _ => False) s
  by_cases e : p.1 = q.1
  · rw [← e]
    obtain ⟨a, o, u, rest, n, e1, ho, hc, hd⟩ := hp _ hm
    have er : ltS (k p.1) (k p.1) = false := ltS_irr _
    rw [er, e1]
    refine PySem.W.kat_lt ho hd ho hd (lex_same ⟨rfl, ?_⟩ _ _)
    simp
  · have ne : ¬ k p.1 = k q.1 := fun z => e (one _ hm _ hm' z)
    obtain ⟨a, o, u, rest, n, e1, ho, hc, hd⟩ := hp _ hm
    obtain ⟨a', o', u', rest', n', e2, ho', hc', hd'⟩ := hp _ hm'
    generalize k p.1 = x at ne hd ⊢
    generalize k q.1 = y at ne hd' ⊢
    rw [e1, e2]
    refine PySem.W.kat_lt ho hd ho' hd' ?_
    show PySem.W.KatLex prog w A true _ _ ((Value.str x u, Value.str y u') :: rest.zip rest') 0 s
    refine PySem.W.kat_cons (SeqAt.EqAt.str_str x u y u' prog w _ _ ?_)
    refine PySem.W.kat_go (fun q2 => ?_) (fun q2 => ?_)
    · have q2 : x = y := by simpa using q2
      exact absurd q2 ne
    · exact PySem.W.kat_no (oneLt_any_str ⟨rfl, rfl⟩)
theorem tx_firsts {h : Heap} {k : Value → Str} : ∀ {vs : List Value}, (∀ v ∈ vs, IsTx h v (k v)) → ∃ fs, PySem.W.KatTups h vs fs ∧ fs.length = vs.length ∧ ∀ f ∈ fs, ∃ x t, f = Value.str x t
  | [], _ => ⟨[], PySem.W.KatTups.nil, rfl, fun f hf => by cases hf⟩
  | v :: vs, hp => by
    obtain ⟨fs, h1, h2, h3⟩ := tx_firsts (vs := vs) fun u hu => hp u (List.mem_cons_of_mem _ hu)
    obtain ⟨a, o, u, rest, n, e, ho, hc, hd⟩ := hp v List.mem_cons_self
    subst e
    refine ⟨Value.str (k (.ref a)) u :: fs, PySem.W.KatTups.cons ho hc hd (by simp) h1, by rw [List.length_cons, List.length_cons, h2], fun f hf => ?_⟩
    rcases List.mem_cons.mp hf with z | z
    · exact ⟨_, _, z⟩
    · exact h3 f z
theorem sorted_txs {l : Addr} {vs : List Value} {k : Value → Str} {Q : Value → Shared → Prop} (hl : s.heap.IsList l vs.toArray) (hz : vs.length ≤ sizeLine) (hp : ∀ v ∈ vs, IsTx s.heap v (k v)) (one : ∀ v ∈ vs, ∀ u ∈ vs, k v = k u → v = u)
    (h : ∀ (h' : Heap) (d : Addr) (out : List Value), SrtO.Srtd (fun v u => ltS (k v) (k u)) out → out.Perm vs → (∀ b o, s.heap.get? b = some o → h'.get? b = some o) → s.heap.objs.size ≤ d → (∃ n, h'.get? d = some (seqObj "list" out.toArray n)) → Q (.ref d) { s with heap := h' }) :
    wpAny (model prog w) A (call (.builtin "sorted") [.ref l]) Q E s := by
  refine SrtO.sorted_ord (ltS_swo k) hl hz (fun h2 h₁ a ha kk h' keep => ?_) fun out hs hb => ?_
  · have hp' : ∀ v ∈ vs, IsTx h' v (k v) := fun v hm => (hp v hm).keeps fun b o e c => keep b o (fun z => by
      have e2 := ha
      rw [← z, (kk b o e).2] at e2
      cases e2
      exact absurd (Value.type.inj c) (by decide)) ((kk b o e).2)
    obtain ⟨fs, f1, f2, f3⟩ := tx_firsts hp'
    refine ⟨tuples' true, fun Q' E' hq => ?_, tx_cmp (s := { s with heap := h' }) hp' one⟩
    refine PySem.W.kat_kind (s := { s with heap := h' }) (T := .type "str") f1 (by omega) (fun f hf => ?_) (by rfl) ?_
    · obtain ⟨x, t, rfl⟩ := f3 f hf
      exact PySem.W.Looks.now
    · have e : (Value.type "str" != Value.type "tuple") = true := by decide
      rw [e]
      exact hq
  · exact h _ _ out hs hb.perm (fun b o e => sortedAll_old e) (Nat.le_succ _) (sortedAll_at s.heap vs out.toArray)
end
section
variable {X : Cx}
def rSortedTx (K : PySem.W.Frag) : List V → Hp → VK → Prop := fun vs H Q => ∃ (a : Addr) (xs : List V) (k : V → Str), vs = [V.ref a] ∧ SqL K H a xs ∧ (∀ x ∈ xs, ∃ t r, x = V.ref t ∧ SqT K H t (.str (k x) :: r)) ∧ (∀ x ∈ xs, ∀ y ∈ xs, k x = k y → x = y) ∧
  ∀ ys p, ys.Pairwise (fun x y => ltS (k y) (k x) = false) → ys.Perm xs → H p = none → Q (.ref p) (upd H p (.lst ys))
theorem cr_sortedTx : CallR X (.builtin "sorted") (rSortedTx X.K) := by
  intro pins s σ H vs us Q I r h
  obtain ⟨a, xs, k, rfl, hs, hx, one, q⟩ := h
  obtain ⟨its, rv, hl, hz⟩ := I.list hs
  obtain ⟨u, rfl, ru⟩ := vals1 r
  obtain rfl : u = Value.ref a := ru
  obtain ⟨e1, e2⟩ := refs_back rv fun x m => by
    obtain ⟨t, _, e, _⟩ := hx x m
    exact ⟨t, e⟩
  refine sorted_txs (k := fun u => k (backV u)) hl.isList (by rw [← rv.length]; exact hz) (fun v hv => ?_) (fun v hv u hu e => ?_) fun h' d out h1 h2 kp hd hn => ?_
  · obtain ⟨t, rfl⟩ := e2 v hv
    have hm : V.ref t ∈ xs := by rw [e1]; exact List.mem_map.mpr ⟨_, hv, rfl⟩
    obtain ⟨t', r', e, ht⟩ := hx _ hm
    cases e
    obtain ⟨its2, r2, ⟨o, ho, hc, n, hd⟩, _⟩ := I.tuple ht
    cases r2 with
    | cons q1 r2 =>
      obtain ⟨t1, rfl⟩ := q1
      exact ⟨t, o, t1, _, n, rfl, ho, hc, hd⟩
  · obtain ⟨t, rfl⟩ := e2 v hv
    obtain ⟨t', rfl⟩ := e2 u hu
    have hm : V.ref t ∈ xs := by rw [e1]; exact List.mem_map.mpr ⟨_, hv, rfl⟩
    have hm' : V.ref t' ∈ xs := by rw [e1]; exact List.mem_map.mpr ⟨_, hu, rfl⟩
    have z := one _ hm _ hm' e
    injection z with z
    rw [z]
  · have h3 : ∀ u ∈ out, ∃ a, u = Value.ref a := fun u hu => e2 u (h2.mem_iff.mp hu)
    obtain ⟨n, hn⟩ := hn
    have hb : (out.map backV).Perm xs := by
      rw [e1]
      exact h2.map backV
    refine ⟨.ref d, upd H d (.lst (out.map backV)), I.laid (t' := s.toks) kp hd ⟨?_, out, n, vals_back h3, hn⟩, rfl, q _ d (List.pairwise_map.mpr h1) hb (I.hok.fresh hd)⟩
    rw [hb.length_eq]
    exact hz
end
/-! pairs (name, place), sorted by name -/
theorem txs_uniq {α : Type} (k : α → Str) : ∀ {l m : List α}, l.Perm m → (∀ x ∈ l, ∀ y ∈ l, k x = k y → x = y) → l.Pairwise (fun x y => ltS (k y) (k x) = false) → m.Pairwise (fun x y => ltS (k y) (k x) = false) → l = m
  | [], m, p, _, _, _ => (List.nil_perm.mp p).symm
  | a :: l, [], p, _, _, _ => absurd p.length_eq (by simp)
  | a :: l, b :: m, p, i, h1, h2 => by
    have ma : a ∈ b :: m := p.mem_iff.mp List.mem_cons_self
    have mb : b ∈ a :: l := p.mem_iff.mpr List.mem_cons_self
    have e : a = b := by
      rcases List.mem_cons.mp ma with e | ha
      · exact e
      · rcases List.mem_cons.mp mb with e | hb
        · exact e.symm
        · exact i a List.mem_cons_self b mb (leS_antisymm (ltS_no.mp ((List.pairwise_cons.mp h1).1 b hb)) (ltS_no.mp ((List.pairwise_cons.mp h2).1 a ha)))
    subst e
    rw [txs_uniq k (List.Perm.cons_inv p) (fun x hx y hy => i x (List.mem_cons_of_mem _ hx) y (List.mem_cons_of_mem _ hy)) (List.pairwise_cons.mp h1).2 (List.pairwise_cons.mp h2).2]
/-- a pair (text, number), laid by itself -/
def TxAt (H : Hp) (x : V) (r : Str × Nat) : Prop := ∃ t, x = .ref t ∧ H t = some (.tup [.str r.1, .int (r.2 : Int)])
theorem TxAt.same {H H' : Hp} {x : V} {r : Str × Nat} (h : TxAt H x r) (s : Same H H') : TxAt H' x r := by
  obtain ⟨t, e, h1⟩ := h
  exact ⟨t, e, s _ _ h1⟩
/-- a pair's text, read off the heap -/
def kT (H : Hp) (x : V) : Str := match x with
  | .ref t => match H t with
    | some (.tup (.str s :: _)) => s
    | _ => Str.empty
  | _ => Str.empty
theorem kT_at {H : Hp} {x : V} {r : Str × Nat} (h : TxAt H x r) : kT H x = r.1 := by
  obtain ⟨t, e, h1⟩ := h
  subst e
  unfold kT
  dsimp only
  rw [h1]
/-- what such a sort asks -/
theorem txs_sorts {K : PySem.W.Frag} {H : Hp} {us : List V} {l : List (Str × Nat)} (h : Paired (TxAt H) us l) (nd : (l.map (·.1)).Nodup) :
    (∀ x ∈ us, ∃ t r, x = V.ref t ∧ SqT K H t (.str (kT H x) :: r)) ∧ ∀ x ∈ us, ∀ y ∈ us, kT H x = kT H y → x = y := by
  refine ⟨fun x hx => ?_, ?_⟩
  · obtain ⟨r, _, q⟩ := paired_mem h hx
    have e := kT_at q
    obtain ⟨t, ex, h1⟩ := q
    refine ⟨t, [.int (r.2 : Int)], ex, ?_⟩
    rw [e]
    exact SqT.of h1
  · have e := paired_map (fun x y q => kT_at q) h
    have nk : (us.map (kT H)).Nodup := by
      rw [e]
      exact nd
    clear e nd h
    induction us with
    | nil => intro x hx; cases hx
    | cons u us ih =>
      rw [List.map_cons, List.nodup_cons] at nk
      intro x hx y hy q
      rcases List.mem_cons.mp hx with ex | hx
      · rcases List.mem_cons.mp hy with ey | hy
        · rw [ex, ey]
        · exact absurd (List.mem_map.mpr ⟨y, hy, by rw [← q, ex]⟩) nk.1
      · rcases List.mem_cons.mp hy with ey | hy
        · exact absurd (List.mem_map.mpr ⟨x, hx, by rw [q, ey]⟩) nk.1
        · exact ih nk.2 x hx y hy q
/-- sorted pairs -/
theorem sort_txs {H H' : Hp} {us ys : List V} {l m : List (Str × Nat)} (h : Paired (TxAt H) us l) (i : ∀ x ∈ l, ∀ y ∈ l, x.1 = y.1 → x = y) (pm : ys.Perm us) (pw : ys.Pairwise fun x y => ltS (kT H y) (kT H x) = false) (s : Same H H') (lm : l.Perm m) (mw : m.Pairwise fun x y => ltS y.1 x.1 = false) :
    Paired (TxAt H') ys m := by
  obtain ⟨ws, w1, w2⟩ := paired_perm pm h
  have e := paired_map (fun x y q => kT_at q) w2
  have p2 : ws.Pairwise fun x y => ltS y.1 x.1 = false := by
    have q : (ys.map (kT H)).Pairwise fun x y => ltS y x = false := List.pairwise_map.mpr pw
    rw [e] at q
    exact List.pairwise_map.mp q
  have ew : ws = m := txs_uniq (fun x : Str × Nat => x.1) (w1.trans lm) (fun x hx y hy => i x (w1.mem_iff.mp hx) y (w1.mem_iff.mp hy)) p2 mw
  rw [← ew]
  exact paired_imp (fun x y q => q.same s) w2
end Mh
/-! Lambdas that stand on the heap, to be called later. -/
namespace Mh
open PySem PySem.Spec PyProof.Rows L2 LamX
/-- a lambda: at most one parameter, which has a number as default -/
structure Lm where
  params : Arguments
  body : Expr
  scope : Scope
  dflt : Option (Str × Int)
abbrev lq (X : Cx) : Str := X.env.qual ++ "<lambda>"
/-- a lambda at f, its defaults dV, its code object at c -/
def LamO (q : Str) (m : Lm) (cells : List (Str × Addr)) (dV : Value) (f c : Addr) : HO :=
  .ext fun h => ∃ pm ct doc : Value, h.get? f = some (PySem.W.kdv_obj "<lambda>" q m.params (.expr m.body) m.scope (cloFrom cells m.scope.names []) dV doc pm c ct)
def DvAt (H : Hp) (dV : Value) : Option (Str × Int) → Prop
  | none => dV = .none
  | some (_, n) => ∃ t, dV = .ref t ∧ H t = some (.tup [.int n])
def IsLm (X : Cx) (m : Lm) (H : Hp) (f : Addr) : Prop := ∃ c dV, H f = some (LamO (lq X) m X.env.cells dV f c) ∧ H c = some (CodeO c (lq X)) ∧ DvAt H dV m.dflt
theorem lamO_ok {P : Program} {w : World} {H : Hp} {h : Heap} {q : Str} {m : Lm} {cells : List (Str × Addr)} {dV doc : Value} {f c : Addr} {pm ct : Value} (e : h.get? f = some (PySem.W.kdv_obj "<lambda>" q m.params (.expr m.body) m.scope (cloFrom cells m.scope.names []) dV doc pm c ct)) :
    ObjOk P w H h f (LamO q m cells dV f c) := ⟨⟨pm, ct, doc, e⟩, ⟨_, e⟩, fun h1 h2 ⟨pm, ct, doc, z⟩ st => ⟨pm, ct, doc, st _ z⟩⟩
theorem lamO_ne {q : Str} {m : Lm} {cells : List (Str × Addr)} {dV : Value} {f c : Addr} (ps : Array Value) : LamO q m cells dV f c ≠ .tbl ps := fun z => by
  unfold LamO at z
  cases z
theorem DvAt.ext {H H' : Hp} {dV : Value} {o : Option (Str × Int)} (h : DvAt H dV o) (e : ExtN H H') : DvAt H' dV o := by
  cases o with
  | none => exact h
  | some p =>
    obtain ⟨t, h1, h2⟩ := h
    exact ⟨t, h1, e _ _ h2 fun ps z => by cases z⟩
theorem IsLm.ext {X : Cx} {m : Lm} {H H' : Hp} {f : Addr} (h : IsLm X m H f) (e : ExtN H H') : IsLm X m H' f := by
  obtain ⟨c, dV, h1, h2, h3⟩ := h
  exact ⟨c, dV, e _ _ h1 lamO_ne, e _ _ h2 codeO_ne, h3.ext e⟩
theorem IsLm.same {X : Cx} {m : Lm} {H H' : Hp} {f : Addr} (h : IsLm X m H f) (e : ∀ b o, H b = some o → H' b = some o) : IsLm X m H' f := h.ext (ExtN.of e)
section
variable {X : Cx} {pins : List (Addr × Obj)} {σ : L2.St} {H : Hp} {s : Shared}
/-- the function object is made, its defaults known -/
theorem lm_tail {T : List (Addr × Str)} {c P : Addr} {m : Lm} {pos : Pos} {dV : Value} {Q : VK} (I : Inv X pins σ H s) (TB : TabB X.base X.mg c P) (hcode : X.env.code = .ref c)
    (hm : (P, lq X) ∈ T) (hu : ∀ p ∈ T, p.1 = P → p.2 = lq X) (hT : Tabs T H) (hdv : DvAt H dV m.dflt) (hfree : ∀ y ∈ m.scope.names, y.2 = .free → ∃ c, X.env.cells.lookup y.1 = some c)
    (h : ∀ (f : Addr) (H1 : Hp), H f = none → Bt [P] H H1 → Tabs T H1 → IsLm X m H1 f → Q (.ref f) H1) :
    wpAny (model X.prog X.w) X.A (makeTail "<lambda>" (lq X) m.params (.expr m.body) m.scope X.env dV .none none pos pos.line) (EP X pins σ Q) X.xe s := by
  obtain ⟨ps, tabH, trip, among⟩ := hT _ hm
  have tab : s.heap.get? P = some { cls := .none, data := .fields ps } := I.hok P _ tabH
  have bi : s.heap.BuiltinsAt X.mg P := TB.bm.keeps I.bk
  cases found : codeAmong pos ps.toList with
  | none =>
    refine PySem.W.kdv_makeTail (mg := X.mg) (closure_ok hfree) I.ok.glob (I.mod.glob.keeps I.bk) hcode (TB.code.keeps I.bk) tab trip found TB.gP bi fun c' ctv doc h' tk ext ge lt rec tb => ?_
    obtain ⟨c2, oc, vs, t, e2, isC, dat, nam⟩ := rec
    cases e2
    have nC : H c' = none := I.hok.fresh ge
    have I1 := inv_table (t' := tk) (more := #[rawInt pos.line, rawInt pos.col, .ref c']) (h' := h') I tabH (fun b o hb e => ext b o hb e) tb ge ⟨oc, vs, t, isC, dat, nam⟩
    have nF : upd (upd H P (.tbl (ps ++ #[rawInt pos.line, rawInt pos.col, .ref c']))) c' (CodeO c' (lq X)) h'.objs.size = none := I1.hok.fresh (Nat.le_refl _)
    have hE : ExtN H (upd (upd H P (.tbl (ps ++ #[rawInt pos.line, rawInt pos.col, .ref c']))) c' (CodeO c' (lq X))) := fun b o e n => by
      have n1 : b ≠ c' := ne_of_none e nC
      have n2 : b ≠ P := fun z => by
        rw [z, tabH] at e
        exact n ps (Option.some.inj e).symm
      rw [upd_ne n1, upd_ne n2]
      exact e
    have up : (ps ++ #[rawInt pos.line, rawInt pos.col, .ref c']).toList = ps.toList ++ [rawInt pos.line, rawInt pos.col, .ref c'] := by simp
    have T1 : Tabs T (upd (upd H P (.tbl (ps ++ #[rawInt pos.line, rawInt pos.col, .ref c']))) c' (CodeO c' (lq X))) := fun p hp => by
      by_cases hb : p.1 = P
      · rw [hu p hp hb, hb]
        refine ⟨_, by rw [upd_ne (ne_of_none tabH nC), upd_same], by rw [up]; exact PySem.TriplesOk_snoc _ _ _ _ trip, fun q cv found => ?_⟩
        rw [up] at found
        rcases among_app _ trip found with z | z
        · obtain ⟨c0, e1, e2⟩ := among q cv z
          exact ⟨c0, e1, hE _ _ e2 codeO_ne⟩
        · exact ⟨c', z, upd_same⟩
      · obtain ⟨qs, a1, a2, a3⟩ := hT p hp
        refine ⟨qs, by rw [upd_ne (ne_of_none a1 nC), upd_ne hb]; exact a1, a2, fun q cv found => ?_⟩
        obtain ⟨c0, e1, e2⟩ := a3 q cv found
        exact ⟨c0, e1, hE _ _ e2 codeO_ne⟩
    have I2 := I1.laid (h' := h'.push (PySem.W.kdv_obj "<lambda>" (lq X) m.params (.expr m.body) m.scope (cloFrom X.env.cells m.scope.names []) dV doc ((X.mg "__name__").getD .none) c' ctv)) (t' := tk) (fun b u e => Heap.get?_push_of_some _ e) (Nat.le_refl h'.objs.size) (lamO_ok (q := lq X) (m := m) (cells := X.env.cells) (c := c') (Heap.get?_push_size _ rfl))
    have nH : H h'.objs.size = none := I.hok.fresh (Nat.le_trans ge (Nat.le_of_lt lt))
    have hB : Bt [P] H (upd (upd (upd H P (.tbl (ps ++ #[rawInt pos.line, rawInt pos.col, .ref c']))) c' (CodeO c' (lq X))) h'.objs.size (LamO (lq X) m X.env.cells dV h'.objs.size c')) := fun b o n e => by
      have n1 : b ≠ c' := ne_of_none e nC
      have n2 : b ≠ P := fun z => n (by rw [z]; exact List.mem_singleton.mpr rfl)
      have n3 : b ≠ h'.objs.size := ne_of_none e nH
      rw [upd_ne n3, upd_ne n1, upd_ne n2]
      exact e
    have hE2 : ExtN H (upd (upd (upd H P (.tbl (ps ++ #[rawInt pos.line, rawInt pos.col, .ref c']))) c' (CodeO c' (lq X))) h'.objs.size (LamO (lq X) m X.env.cells dV h'.objs.size c')) := hE.trans (ExtN.of fun b o e => (upd_ne (ne_of_none e nF)).trans e)
    refine ⟨.ref h'.objs.size, _, I2, rfl, h _ _ nH hB (T1.ext fun b o e => (upd_ne (ne_of_none e nF)).trans e) ⟨c', dV, upd_same, ?_, hdv.ext hE2⟩⟩
    exact (upd_ne (ne_of_none upd_same nF)).trans upd_same
  | some cv =>
    obtain ⟨c', e, isC⟩ := among pos cv found
    subst e
    refine PySem.W.kdv_makeTailHit (mg := X.mg) (closure_ok hfree) I.ok.glob (I.mod.glob.keeps I.bk) hcode (TB.code.keeps I.bk) tab trip found bi fun ctv doc h' tk ext sz => ?_
    have nF : H h'.objs.size = none := I.hok.fresh sz
    have I1 := I.laid (h' := h'.push (PySem.W.kdv_obj "<lambda>" (lq X) m.params (.expr m.body) m.scope (cloFrom X.env.cells m.scope.names []) dV doc ((X.mg "__name__").getD .none) c' ctv)) (t' := tk) (fun b u e => Heap.get?_push_of_some _ (ext _ _ e)) sz (lamO_ok (q := lq X) (m := m) (cells := X.env.cells) (c := c') (Heap.get?_push_size _ rfl))
    have hE : ∀ b o, H b = some o → upd H h'.objs.size (LamO (lq X) m X.env.cells dV h'.objs.size c') b = some o := fun b o e => (upd_ne (ne_of_none e nF)).trans e
    exact ⟨.ref h'.objs.size, _, I1, rfl, h _ _ nF (fun b o _ e => hE b o e) (hT.ext hE) ⟨c', dV, upd_same, hE _ _ isC, hdv.ext (ExtN.of hE)⟩⟩
end
def tLm (X : Cx) (P : Addr) (m : Lm) : TE := fun _ H Q => TabS H P (lq X) ∧ ∀ f H1, H f = none → Bt [P] H H1 → TabS H1 P (lq X) → IsLm X m H1 f → Q (.ref f) H1
/-- a lambda's names: what it catches, what is its own; its own ones are no slots of the maker -/
structure LamT (N : List Str) (sc scope : Scope) : Prop where
  kind : scope.kind = .function
  co : scope.isCoroutine = false
  gen : scope.isGenerator = false
  cell : ∀ y ∈ scope.names, y.2 ≠ .cell
  own : ∀ y ∈ scope.names, y.2 = .local → y.1 ∉ N
  free : ∀ y ∈ scope.names, y.2 = .free → sc.names.lookup y.1 = some .cell ∨ sc.names.lookup y.1 = some .free
def lamTB (N : List Str) (sc scope : Scope) : Bool :=
  decide (scope.kind = .function) && !scope.isCoroutine && !scope.isGenerator && scope.names.all fun y => !decide (y.2 = .cell) && (!decide (y.2 = .local) || !N.contains y.1) && (!decide (y.2 = .free) || decide (sc.names.lookup y.1 = some .cell) || decide (sc.names.lookup y.1 = some .free))
theorem lamT_by {N : List Str} {sc scope : Scope} (h : lamTB N sc scope = true) : LamT N sc scope := by
  unfold lamTB at h
  simp only [Bool.and_eq_true, Bool.or_eq_true, Bool.not_eq_true', decide_eq_true_eq, decide_eq_false_iff_not, List.all_eq_true] at h
  obtain ⟨⟨⟨h1, h2⟩, h3⟩, h4⟩ := h
  refine ⟨h1, h2, h3, fun y hy => (h4 y hy).1.1, fun y hy e => ?_, fun y hy e => ?_⟩
  · rcases (h4 y hy).1.2 with z | z
    · exact absurd e z
    · exact fun q => by
        rw [List.contains_iff_mem.mpr q] at z
        cases z
  · rcases (h4 y hy).2 with (z | z) | z
    · exact absurd e z
    · exact .inl z
    · exact .inr z
theorem LamT.has {X : Cx} {scope : Scope} {N : List Str} (L : LamT N X.env.scope scope) (ok : X.Ok) : ∀ y ∈ scope.names, y.2 = .free → ∃ c, X.env.cells.lookup y.1 = some c := fun y hy e => by
  rcases L.free y hy e with k | k
  · exact ok.has _ (.inl k)
  · exact ok.has _ (.inr k)
/-- lambda: body -/
theorem pe_lm {X : Cx} {c P : Addr} {params : Arguments} {body : Expr} {scope : Scope} {pos : Pos} (TB : TabB X.base X.mg c P) (hcode : X.env.code = .ref c) (L : LamT X.N X.env.scope scope) (hd : params.defaults = []) (hk : params.kw_defaults = []) :
    PE X (.Lambda params body scope pos) (tLm X P ⟨params, body, scope, none⟩) := by
  refine ⟨fun pins s σ H Q I ⟨hT, h⟩ => ?_⟩
  refine PySem.W.kla_eval (by rw [defaultsOf_eq, hd, hk]; rfl) ?_
  rw [makeFunction_eq]
  simp only [List.zip_nil_right, List.filterMap_nil, List.isEmpty_nil, if_true, pure_bind]
  exact lm_tail (T := [(P, lq X)]) (m := ⟨params, body, scope, none⟩) I TB hcode (List.mem_singleton.mpr rfl) (fun p hp _ => by rw [List.mem_singleton.mp hp]) (fun p hp => by rw [List.mem_singleton.mp hp]; exact hT) rfl (L.has I.ok)
    fun f H1 n b t i => h f H1 n b (t _ (List.mem_singleton.mpr rfl)) i
/-- lambda a=n: body -/
theorem pe_lmD {X : Cx} {c P : Addr} {params : Arguments} {body : Expr} {scope : Scope} {pos p2 : Pos} {a : Str} {n : Int} {j : Nat} (TB : TabB X.base X.mg c P) (hcode : X.env.code = .ref c) (L : LamT X.N X.env.scope scope) (hd : params.defaults = [.Constant (.int n) j p2]) (hk : params.kw_defaults = []) :
    PE X (.Lambda params body scope pos) (tLm X P ⟨params, body, scope, some (a, n)⟩) := by
  refine ⟨fun pins s σ H Q I ⟨hT, h⟩ => ?_⟩
  refine PySem.W.kdv_lam (by rw [hd]; rfl) hk ?_
  rw [hd]
  refine PySem.W.kdv_all1 (thn ((pe_int (X := X) (i := n) (j := j) (pos := p2)).run pins s σ H (fun v H1 => v = .int n ∧ H1 = H) I ⟨rfl, rfl⟩) fun u s1 ⟨v, H1, I1, r, ev, eH⟩ => PySem.W.kdv_all0 ?_)
  subst ev
  rw [eH] at I1
  rw [makeFunction_eq]
  simp only [List.zip_nil_right, List.filterMap_nil, List.isEmpty_nil, List.isEmpty_cons, Bool.false_eq_true, if_true, if_false, pure_bind]
  refine wpAny_bind (wpAny_newTextTuple ?_)
  have nt : H s1.heap.objs.size = none := I1.hok.fresh (Nat.le_refl _)
  have hE : ∀ b o, H b = some o → upd H s1.heap.objs.size (.tup [.int n]) b = some o := fun b o e => (upd_ne (ne_of_none e nt)).trans e
  have I2 := I1.laid (t' := s1.toks) (fun b u e => Heap.get?_push_of_some _ e) (Nat.le_refl s1.heap.objs.size) (show ObjOk X.prog X.w (upd H s1.heap.objs.size (.tup [.int n])) (s1.heap.push { cls := .type "tuple", data := .seq [u].toArray }) s1.heap.objs.size (.tup [.int n]) from
    ⟨by show 1 ≤ sizeLine; decide, [u], .cons r .nil, ⟨_, Heap.get?_push_size _ rfl, rfl, _, rfl⟩⟩)
  refine lm_tail (T := [(P, lq X)]) (m := ⟨params, body, scope, some (a, n)⟩) I2 TB hcode (List.mem_singleton.mpr rfl) (fun p hp _ => by rw [List.mem_singleton.mp hp]) (fun p hp => by rw [List.mem_singleton.mp hp]; exact hT.ext hE) ⟨_, rfl, upd_same⟩ (L.has I.ok)
    fun f H1 nf b t i => h f H1 ?_ (fun x o nx e => b x o nx (hE x o e)) (t _ (List.mem_singleton.mpr rfl)) i
  by_cases c : f = s1.heap.objs.size
  · rw [c]
    exact nt
  · rw [upd_ne c] at nf
    exact nf
/-! ### what stands at f may be called -/
/-- calling f over this base does tl -/
def Acts (P : Program) (w : World) (K : PySem.W.Frag) (mg : Str → Option Value) (base : Heap) (k : Nat) (f : Addr) (tl : XK → Hp → VK → Prop) : Prop :=
  ∀ (A : Around) (outer : List Env) (s1 : Shared) (HZ : Hp) (Q : VK) (E : XK), Room k A → Env0 P w K mg base A outer s1 HZ → tl E HZ Q →
    (∃ fd : FuncData, ∃ o, s1.heap.get? f = some { cls := .type "function", dict := o, data := .func fd }) ∧ codeAny (model P w) A (.call (.ref f) ⟨[], []⟩) (CR (L2.CX P w) outer P w HZ s1 Q E) s1
theorem Acts.mono {P : Program} {w : World} {K : PySem.W.Frag} {mg : Str → Option Value} {base : Heap} {j k : Nat} {f : Addr} {tl : XK → Hp → VK → Prop} (h : Acts P w K mg base j f tl) (l : j ≤ k) : Acts P w K mg base k f tl :=
  fun A outer s1 HZ Q E r e t => h A outer s1 HZ Q E (r.mono l) e t
/-- all that stands untracked at a state, but for the frames: a base for those who are called from it -/
def above_ (X : Cx) (s : Shared) (H : Hp) : Heap := hidT s.heap fun b => if b ∈ frs X.stack then some (.own 0) else H b
theorem above_get {X : Cx} {s : Shared} {H : Hp} {b : Addr} {o : Obj} (e : s.heap.get? b = some o) (n : H b = none) (nf : b ∉ frs X.stack) : (above_ X s H).get? b = some o := hidT_get e (by rw [if_neg nf]; exact n)
theorem above_of {X : Cx} {s : Shared} {H : Hp} {b : Addr} {o : Obj} (e : (above_ X s H).get? b = some o) : s.heap.get? b = some o ∧ H b = none ∧ b ∉ frs X.stack := by
  obtain ⟨h1, h2⟩ := of_hidT e
  by_cases c : b ∈ frs X.stack
  · rw [if_pos c] at h2
    cases h2
  · rw [if_neg c] at h2
    exact ⟨h1, h2, c⟩
theorem frames_at {h b1 b2 : Heap} : ∀ {l : List Env}, h.FunFrames b1 l → (∀ b ∈ frs l, b2.get? b = none) → h.FunFrames b2 l
  | [], _, _ => trivial
  | env :: l, ⟨k, ⟨L, o, e1, _, e3, e4⟩, r⟩, n => by
    have m : frs (env :: l) = L :: frs l := by
      unfold frs
      rw [List.filterMap_cons, e1]
    rw [m] at n
    exact ⟨k, ⟨L, o, e1, n L List.mem_cons_self, e3, e4⟩, frames_at r fun b hb => n b (List.mem_cons_of_mem _ hb)⟩
section
variable {X : Cx} {pins : List (Addr × Obj)} {σ : L2.St} {H : Hp} {s : Shared}
theorem above_base (I : Inv X pins σ H s) : ∀ b o, X.base.get? b = some o → (above_ X s H).get? b = some o := fun b o e => by
  obtain ⟨h1, h2⟩ := I.bs b o e
  refine above_get h1 h2 fun z => ?_
  have q := (I.stack.mem z).1
  rw [e] at q
  cases q
/-- from a body: what a callee over the base above wants -/
theorem above_env (I : Inv X pins σ H s) : Env0 X.prog X.w X.K X.mg (above_ X s H) X.A X.stack s H := by
  have k := above_base I
  obtain ⟨mb, h1, h2⟩ := I.mod.blt
  refine ⟨I.ok.frames, ⟨I.mod.kin.keeps k, I.mod.glob.keeps k, ⟨mb, h1.keeps k, h2⟩, I.mod.nolimit.keeps k⟩, fun b o e => ⟨(above_of e).1, (above_of e).2.1⟩, Nat.le_of_eq (hidT_size _ _), frames_at I.stack fun b hb => ?_, I.stkFree, I.hok, I.bare⟩
  cases e : (above_ X s H).get? b with
  | none => rfl
  | some o => exact absurd hb (above_of e).2.2
/-- and back to ours -/
theorem env_down {A : Around} {outer : List Env} {s1 : Shared} {HZ : Hp} (I : Inv X pins σ H s) (e : Env0 X.prog X.w X.K X.mg (above_ X s H) A outer s1 HZ) : Env0 X.prog X.w X.K X.mg X.base A outer s1 HZ := by
  have k := above_base I
  refine ⟨e.frames, I.mod, fun b o q => e.bs b o (k b o q), Nat.le_trans (Nat.le_trans I.ok.bsz I.sz) (Nat.le_trans (Nat.le_of_eq (hidT_size _ _).symm) e.bsz), frames_at e.funs fun b hb => ?_, e.frf, e.hok, e.bare⟩
  cases q : X.base.get? b with
  | none => rfl
  | some o =>
    have z := (e.funs.mem hb).1
    rw [k b o q] at z
    cases z
/-- the cells of a def's own frame are there -/
theorem above_cell {y : Str} {c : Addr} {o : Obj} (I : Inv X pins σ H s) (own : ∀ y, X.fn y = true) (hc : X.env.cells.lookup y = some c) (e : s.heap.get? c = some o) : (above_ X s H).get? c = some o := by
  refine above_get e (I.freeC y c hc) fun z => ?_
  rcases List.mem_cons.mp (I.stkSub _ z) with q | q
  · obtain ⟨v, o1, h1, h2⟩ := I.cell y c hc
    obtain ⟨m, ⟨o2, es, ep, h3, h4, _⟩, _⟩ := I.loc
    rw [q] at h1
    rw [h1] at h3
    cases h3
    rw [h4] at h2
    cases h2
  · obtain ⟨_, o1, h1, _⟩ := I.ok.funs.mem q
    exact absurd (Heap.lt_size h1) (Nat.not_lt.mpr (I.ok.cab y c (own y) hc))
end
section
variable {X : Cx} {pins : List (Addr × Obj)} {σ : L2.St} {H HZ : Hp} {s s1 : Shared}
/-- the frame of a lambda's body -/
theorem lm_start {A : Around} {outer : List Env} {E : XK} {scope : Scope} {f c' : Addr} {h₁ : Heap} {tk : Nat} {bs : List (Str × Value)} (I : Inv X pins σ H s) (L : LamT X.N X.env.scope scope) (e0 : Env0 X.prog X.w X.K X.mg X.base A outer s1 HZ) (hd : A.handled = none)
    (kept : ∀ y c o, X.env.cells.lookup y = some c → s.heap.get? c = some o → s1.heap.get? c = some o ∧ HZ c = none) (hns : h₁.Ns s1.heap.objs.size fun y => bs.reverse.lookup y) (kp : ∀ b o, s1.heap.get? b = some o → h₁.get? b = some o) :
    Inv (lamCx X A outer s1 HZ E scope f c') [] σ HZ { s1 with heap := h₁, toks := tk } := by
  have caught : ∀ {y c}, (cloFrom X.env.cells scope.names []).lookup y = some c → X.env.cells.lookup y = some c := fun {y c} e => by
    rcases cloFrom_mem (PySem.mem_of_lookup e) with z | ⟨z1, z2⟩
    · cases z
    · obtain ⟨c1, z3⟩ := L.has I.ok _ z1 rfl
      have z3 : X.env.cells.lookup y = some c1 := z3
      rw [z3] at z2
      have z2 : c = c1 := by rw [z2]; rfl
      rw [z2]
      exact z3
  have has : ∀ {y}, scope.names.lookup y = some .free → ∃ c, (cloFrom X.env.cells scope.names []).lookup y = some c := fun {y} hl =>
    mem_lookup (cloFrom_has (cells := X.env.cells) (acc := []) (PySem.mem_of_lookup hl))
  have stays : ∀ {y : Str} {c : Addr} {v : Option Value}, X.env.cells.lookup y = some c → s.heap.IsCell c v → h₁.IsCell c v := fun {y c v} n ⟨o, ho, hd⟩ => ⟨o, kp _ _ (kept y c o n ho).1, hd⟩
  have none_ : ∀ b : Addr, b ∉ (lamCx X A outer s1 HZ E scope f c').ex := fun b z => by
    have z : b ∈ ([] : List Addr) := z
    cases z
  have ok : (lamCx X A outer s1 HZ E scope f c').Ok := {
    mod := e0.mod
    kind := L.kind
    glob := rfl
    blt := rfl
    above := Nat.le_refl _
    inj := fun y z c e1 e2 => I.ok.inj y z c (caught e1) (caught e2)
    has := fun y hy => by
      rcases (show scope.names.lookup y = some .cell ∨ scope.names.lookup y = some .free from hy) with hy | hy
      · exact absurd rfl (L.cell _ (PySem.mem_of_lookup hy))
      · exact has hy
    cab := fun y c z _ => by
      have z : false = true := z
      cases z
    hd := fun _ => hd
    frames := Around.frames_deeper e0.frames
    stk := .inr ⟨rfl, rfl⟩
    exf := fun b z => absurd z (none_ b)
    bs := e0.bs
    bsz := e0.bsz
    noex := fun b _ _ => none_ b
    exfs := fun b z => absurd z (none_ b)
    funs := e0.funs
    frf := e0.frf }
  refine ⟨ok, rfl, e0.bare, Un.kept kp, ⟨_, hns, fun i y v e1 e2 e3 => ?_⟩, fun y c e => ?_, e0.hok.fresh (Nat.le_refl _), fun y c e => ?_, fun q hq => (by have z : q ∈ ([] : List (Addr × Obj)) ++ [] := hq; simp at z), e0.hok.kept kp, I.len⟩
  · rcases (show Vis scope y from e3) with z | z | z
    · exact absurd (List.mem_of_getElem? (show X.N[i]? = some y from e1)) (L.own _ (PySem.mem_of_lookup z) rfl)
    · exact absurd rfl (L.cell _ (PySem.mem_of_lookup z))
    · obtain ⟨m, hn, hl⟩ := I.loc
      have vis : Vis X.env.scope y := (L.free _ (PySem.mem_of_lookup z) rfl).elim (fun k => .inr (.inl k)) (fun k => .inr (.inr k))
      obtain ⟨u, r, q⟩ := hl i y v e1 e2 vis
      obtain ⟨c2, h2⟩ := has z
      have c1 := caught h2
      refine ⟨u, r, .inr ⟨.inr z, c2, h2, ?_⟩⟩
      rcases q with ⟨z1, _⟩ | ⟨_, c3, e4, z1⟩
      · have z1 : X.env.scope.names.lookup y = some .local := z1
        rcases L.free _ (PySem.mem_of_lookup z) rfl with z2 | z2
        · have z2 : X.env.scope.names.lookup y = some .cell := z2
          rw [z1] at z2
          cases z2
        · have z2 : X.env.scope.names.lookup y = some .free := z2
          rw [z1] at z2
          cases z2
      · rw [c1] at e4
        cases e4
        exact stays c1 z1
  · obtain ⟨u, z⟩ := I.cell y c (caught e)
    exact ⟨u, stays (caught e) z⟩
  · obtain ⟨v, o, ho, _⟩ := I.cell y c (caught e)
    exact (kept y c o (caught e) ho).2
/-- how a lambda's parameter is bound -/
def LmB (m : Lm) : Prop := match m.dflt with
  | none => ∀ (q : Str) (cl : List (Str × Addr)) (doc pm cv ct : Value), bindArgs (PySem.W.kdv_fn "<lambda>" q m.params (.expr m.body) m.scope cl .none doc pm cv ct) ⟨[], []⟩ = pure []
  | some (a, _) => m.scope.names.lookup a = some .local ∧ ∀ (q : Str) (cl : List (Str × Addr)) (t : Addr) (doc pm cv ct : Value), ∃ k, bindArgs (PySem.W.kdv_fn "<lambda>" q m.params (.expr m.body) m.scope cl (.ref t) doc pm cv ct) ⟨[], []⟩ = seqItems? (.ref t) >>= k ∧ ∀ v : Value, k (some #[v]) = pure [(a, v)]
/-- the maker's lambda, called by whomever -/
theorem lm_acts {m : Lm} {f : Addr} {k : Nat} {t : XK → TE} (I : Inv X pins σ H s) (own : ∀ y, X.fn y = true) (L : LamT X.N X.env.scope m.scope) (hbind : LmB m)
    (hbody : ∀ (A : Around) (outer : List Env) (s : Shared) (H : Hp) (E : XK) (f c' : Addr), Room k (A.deeper (lamEnv X m.scope s.heap.objs.size f c')) → PE (lamCx X A outer s H E m.scope f c') m.body (t E)) :
    Acts X.prog X.w X.K X.mg (above_ X s H) (k + 1) f fun E HZ Q => IsLm X m HZ f ∧ t E σ HZ Q := by
  intro A outer s1 HZ Q E hr eA ⟨⟨c', dV, hf, hc, hdv⟩, ht⟩
  have e0 := env_down I eA
  obtain ⟨⟨pm, ctv, doc, of1⟩, _, _⟩ := e0.hok f _ hf
  obtain ⟨⟨oc, vs, tq, isC, dat, nam⟩, _, _⟩ := e0.hok c' _ hc
  have lim : s1.heap.NoLimit := e0.mod.nolimit.keeps fun b o e => (e0.bs b o e).1
  obtain ⟨bs, bd, loc⟩ : ∃ bs, BindsTo s1 (PySem.W.kdv_fn "<lambda>" (lq X) m.params (.expr m.body) m.scope (cloFrom X.env.cells m.scope.names []) dV doc pm (.ref c') ctv) ⟨[], []⟩ bs ∧ ∀ y ∈ bs, m.scope.names.lookup y.1 = some .local := by
    unfold LmB at hbind
    unfold DvAt at hdv
    cases e : m.dflt with
    | none =>
      rw [e] at hbind hdv
      have hdv : dV = .none := hdv
      subst hdv
      exact ⟨[], .of_eq (hbind _ _ _ _ _ _), fun y hy => by cases hy⟩
    | some p =>
      obtain ⟨a, n⟩ := p
      rw [e] at hbind hdv
      obtain ⟨t, rfl, h2⟩ := hdv
      obtain ⟨b1, b2⟩ := hbind
      obtain ⟨kk, b3, b4⟩ := b2 (lq X) (cloFrom X.env.cells m.scope.names []) t doc pm (.ref c') ctv
      obtain ⟨_, its, r, o, ho, _, nn, hd⟩ := e0.hok t _ h2
      obtain ⟨u, rfl, _⟩ := vals1 r
      refine ⟨[(a, u)], BindsTo.of_defaults (T := t) rfl ho hd b3 (b4 u), fun y hy => ?_⟩
      rw [List.mem_singleton.mp hy]
      exact b1
  refine ⟨⟨_, _, of1⟩, PySem.W.kla_callFunE hr.depth of1 rfl L.co L.gen rfl ⟨c', oc, vs, tq, rfl, isC, dat, nam⟩ (bd _ _ _ _ ?_)⟩
  refine wpAny_newFunctionEnv (fun y hy => L.cell y hy) loc (fun h₁ ns1 sb1 => ⟨lim.fresh _ sb1, ?_⟩) L.kind
  have kp : ∀ b o, s1.heap.get? b = some o → h₁.get? b = some o := fun b o e => sb1.extBut b o (Nat.ne_of_lt (Heap.lt_size e)) (Heap.get?_push_of_some _ e)
  have J : Inv (lamCx X A outer s1 HZ E m.scope f c') [] σ HZ { s1 with heap := h₁, toks := s1.toks + bs.length } := lm_start I L e0 hr.hd (fun y c o hc ho => eA.bs c o (above_cell I own hc ho)) ns1 kp
  refine PySem.W.kla_codeExpr (thn ((hbody A outer s1 HZ E f c' (hr.deeper _)).run [] _ _ HZ Q J ht) fun v s' ⟨u, H', J', rv, q⟩ => ?_)
  exact ⟨u, H', J'.os, J'.bare, J'.base, J'.hok, rv, q⟩
end
/-- a lambda of X, its body's reading told: it may be called as long as X's frame stands so -/
structure LamD where
  m : Lm
  t : XK → TE
def LamOk (X : Cx) (k : Nat) (D : LamD) : Prop := ∀ (pins : List (Addr × Obj)) (σ : L2.St) (H : Hp) (s : Shared) (f : Addr), Inv X pins σ H s → Acts X.prog X.w X.K X.mg (above_ X s H) k f fun E HZ Q => IsLm X D.m HZ f ∧ D.t E σ HZ Q
/-- a lambda as a value, to be called later on -/
def tLmG (X : Cx) (P : Addr) (k : Nat) (D : LamD) : TE := fun σ H Q => TabS H P (lq X) ∧ (LamOk X k D → ∀ f H1, H f = none → Bt [P] H H1 → TabS H1 P (lq X) → IsLm X D.m H1 f → Q (.ref f) H1)
theorem pe_lmG {X : Cx} {c P : Addr} {k : Nat} {t : XK → TE} {params : Arguments} {body : Expr} {scope : Scope} {pos : Pos} (TB : TabB X.base X.mg c P) (hcode : X.env.code = .ref c) (L : LamT X.N X.env.scope scope) (hd : params.defaults = []) (hk : params.kw_defaults = []) (hb : LmB ⟨params, body, scope, none⟩) (own : ∀ y, X.fn y = true)
    (hbody : ∀ (A : Around) (outer : List Env) (s : Shared) (H : Hp) (E : XK) (f c' : Addr), Room k (A.deeper (lamEnv X scope s.heap.objs.size f c')) → PE (lamCx X A outer s H E scope f c') body (t E)) :
    PE X (.Lambda params body scope pos) (tLmG X P (k + 1) ⟨⟨params, body, scope, none⟩, t⟩) :=
  ⟨fun pins s σ H Q I ⟨hT, h⟩ => (pe_lm TB hcode L hd hk).run pins s σ H Q I ⟨hT, h fun pins σ H s f I => lm_acts I own L hb hbody⟩⟩
theorem pe_lmGD {X : Cx} {c P : Addr} {k : Nat} {t : XK → TE} {params : Arguments} {body : Expr} {scope : Scope} {pos p2 : Pos} {a : Str} {n : Int} {j : Nat} (TB : TabB X.base X.mg c P) (hcode : X.env.code = .ref c) (L : LamT X.N X.env.scope scope) (hd : params.defaults = [.Constant (.int n) j p2]) (hk : params.kw_defaults = []) (hb : LmB ⟨params, body, scope, some (a, n)⟩) (own : ∀ y, X.fn y = true)
    (hbody : ∀ (A : Around) (outer : List Env) (s : Shared) (H : Hp) (E : XK) (f c' : Addr), Room k (A.deeper (lamEnv X scope s.heap.objs.size f c')) → PE (lamCx X A outer s H E scope f c') body (t E)) :
    PE X (.Lambda params body scope pos) (tLmG X P (k + 1) ⟨⟨params, body, scope, some (a, n)⟩, t⟩) :=
  ⟨fun pins s σ H Q I ⟨hT, h⟩ => (pe_lmD (a := a) TB hcode L hd hk).run pins s σ H Q I ⟨hT, h fun pins σ H s f I => lm_acts I own L hb hbody⟩⟩
/-- the call of what was handed in -/
theorem pe_acts {Z : Cx} {P : Program} {w : World} {K : PySem.W.Frag} {mg : Str → Option Value} {base : Heap} {W : WX} {k i : Nat} {a : Str} {p1 p2 : Pos} (eP : Z.prog = P) (ew : Z.w = w) (eK : Z.K = K) (em : Z.mg = mg) (eb : Z.base = base)
    (tk : Takes Z W) (hr : Room k Z.A) (hN : Z.N[i]? = some a) (hv : Vis Z.env.scope a) (hd : (a == ("__debug__" : Str)) = false := by decide) (hcd : (a == ("__classdict__" : Str)) = false := by decide) :
    PE Z (.Call (.Name a p1) [] [] p2) (fun σ H Q => ∃ (f : Addr) (tl : XK → Hp → VK → Prop), σ[i]? = some (some (.ref f)) ∧ Acts P w K mg base k f tl ∧ tl (WE W σ) H Q) := by
  subst eP ew eK em eb
  refine ⟨fun pins s σ H Q I ⟨f, tl, hs, ac, ht⟩ => ?_⟩
  refine wpAny_Call_Name_kw (thn ((pe_var (pos := p1) (i := i) hN hv hd hcd).run pins s σ H (fun v H1 => v = .ref f ∧ H1 = H) I ⟨.ref f, hs, rfl, rfl⟩) fun u s1 ⟨v, H1, I1, r1, ev, eH⟩ => ?_)
  subst ev
  rw [eH] at I1
  obtain rfl : u = Value.ref f := r1
  obtain ⟨⟨fd, od, isF⟩, run⟩ := ac Z.A Z.stack s1 H Q (WE W σ) hr I1.env0 ht
  refine PySem.W.callWith_F0 ⟨_, _, _, _, isF⟩ (wpAny_call (codeAny_mono run fun r s' hq => ?_))
  cases r with
  | error e => exact passAt tk σ pins H s1 e s' I1 hq
  | ok fl =>
    cases fl with
    | ret u => exact I1.after hq
    | next => exact hq.elim
    | brk => exact hq.elim
    | cont => exact hq.elim
end Mh
/-! Defs that are told of the state at their call; what a suite asks of a caught refusal. -/
namespace Mh
open PySem PySem.Spec PyProof.Rows L2 LamX
section
variable {P : Program} {w : World} {K : PySem.W.Frag} {mg : Str → Option Value} {base : Heap}
/-- a def's promise, its code object known -/
theorem okC {x qual : Str} {st : Stmt} {f : Addr} {fd : FuncData} {N ps : List Str} {k : Nat} {sp : Sp} (F : Fun K x qual st f fd) (S : FnScope N ps (defScope st)) (len : ∀ vs H Q E, sp vs H Q E → vs.length = ps.length)
    (hbody : ∀ (cdv : Value), cdv = fd.code → ∀ (A : Around) (outer : List Env) (s : Shared) (H : Hp) (vs : List V) (Q : VK) (E : XK), Room k (A.deeper (envOfC qual (defScope st) s.heap.objs.size f cdv)) → sp vs H Q E →
      ∃ t, PSs (cxOf CX0 P w K mg base N qual (defScope st) f cdv A outer s H E).nox (defBody st) t ∧ t { nx := fun _ H' => Q .non H', rt := Q } (start N vs) H) : FnOk P w K mg base CX0 (k + 1) f fd ps sp := by
  obtain ⟨oc, od, kV, doc, pm, an, cdv, ct, osl, e, lk, hcd⟩ := F.ex
  subst e
  refine fn_of lk hcd S len fun A outer s H vs Q E hr hsp => ?_
  obtain ⟨t, h, q⟩ := hbody cdv rfl A outer s H vs Q E hr hsp
  exact ⟨t, h.nox, q⟩
variable {CX : CXT} {k : Nat} {f : Addr} {fd : FuncData} {ps : List Str} {sp sp2 : Sp}
/-- what lets nothing out lets nothing out -/
theorem FnOk.lift (F : FnOk P w K mg base CX0 k f fd ps sp) : FnOk P w K mg base CX k f fd ps sp := ⟨F.len, fun A outer s H args us vs Q E hr e0 hb r h => codeAny_mono (F.run A outer s H args us vs Q E hr e0 hb r h) fun rr s2 q => by
  cases rr with
  | error u => exact (show False from q).elim
  | ok fl => cases fl <;> exact q⟩
/-- two promises of one def -/
theorem FnOk.or (F : FnOk P w K mg base CX k f fd ps sp) (G : FnOk P w K mg base CX k f fd ps sp2) : FnOk P w K mg base CX k f fd ps fun vs H Q E => sp vs H Q E ∨ sp2 vs H Q E :=
  ⟨fun vs H Q E h => h.elim (F.len vs H Q E) (G.len vs H Q E), fun A outer s H args us vs Q E hr e0 hb r h => h.elim (F.run A outer s H args us vs Q E hr e0 hb r) (G.run A outer s H args us vs Q E hr e0 hb r)⟩
end
/-- a lambda's body lets out what its caller takes -/
theorem pass_lam {P : Program} {w : World} {X : Cx} {A : Around} {outer : List Env} {s : Shared} {H : Hp} {E : XK} {scope : Scope} {f c' : Addr} (eP : X.prog = P) (ew : X.w = w) : Passes (L2.CX P w) (lamCx X A outer s H E scope f c') E := by
  subst eP ew
  exact passes_call (takes_of rfl rfl rfl rfl) fun _ _ _ _ h => h
/-- a def's body that raises -/
theorem pass_def {P : Program} {w : World} {K : PySem.W.Frag} {mg : Str → Option Value} {base : Heap} {N : List Str} {q : Str} {sc : Scope} {f : Addr} {cdv : Value} {A : Around} {outer : List Env} {s : Shared} {H : Hp} {E : XK} :
    Passes (L2.CX P w) (cxOf (L2.CX P w) P w K mg base N q sc f cdv A outer s H E) E := passes_call (takes_of rfl rfl rfl rfl) fun _ _ _ _ h => h
theorem take_def {P : Program} {w : World} {K : PySem.W.Frag} {mg : Str → Option Value} {base : Heap} {N : List Str} {q : Str} {sc : Scope} {f : Addr} {cdv : Value} {A : Around} {outer : List Env} {s : Shared} {H : Hp} {E : XK} :
    Takes (cxOf (L2.CX P w) P w K mg base N q sc f cdv A outer s H E) (fun cls d _ H => E cls d H) := takes_of rfl rfl rfl rfl
/-- a def called whose promise stands over every base: over the base above, where what was untracked stays -/
theorem pe_callAt {Z : Cx} {k : Nat} {f : Addr} {fd : FuncData} {ps : List Str} {sp : Heap → Sp} {x : Str} {p pos : Pos} {e : Expr} {es : List Expr} {t : TA} {rd : L2.St → List V → Hp → VK → Prop}
    (F : ∀ base : Heap, FnOk Z.prog Z.w Z.K Z.mg base CX0 k f fd ps (sp base)) (hr : Room k Z.A) (hg : Gl Z x) (hm : Z.mg x = some (.ref f)) (hk : PySem.W.keepIn Z.K (.ref f) = true) (hb : Binds Z.K fd ps []) (ha : PA Z (e :: es) t)
    (br : ∀ (pins : List (Addr × Obj)) (s : Shared) (σ : L2.St) (H : Hp) (vs : List V) (Q : VK), Inv Z pins σ H s → rd σ vs H Q → sp (above_ Z s H) vs H Q E0)
    (hdb : (x == ("__debug__" : Str)) = false := by decide) (he : starEach (e :: es) Z.env = (false, eval e Z.env) :: starEach es Z.env := by rfl) (hpl : (backTo pos (starEach es Z.env)).any (·.1) = false := by rfl) :
    PE Z (.Call (.Name x p) (e :: es) [] pos) (fun σ H Q => t σ H fun vs H1 => rd σ vs H1 Q) := by
  refine ⟨fun pins s σ H Q I h => ?_⟩
  refine wpAny_Call_Name_kw (ld_glob I hg hm ?_ hdb)
  refine PySem.W.callWith_K (h₀ := Z.base) I.ok.mod.kin hk (thn (ha.run pos pins s σ H _ I h) fun us s1 ⟨vs, H1, I1, r, q⟩ => ⟨I1.kIn, ?_⟩) he hpl
  have hsp := br pins s1 σ H1 vs Q I1 q
  have G := F (above_ Z s1 H1)
  have lus : us.length = ps.length := by
    rw [← r.length]
    exact G.len _ _ _ _ hsp
  have bd := hb s1 us I1.kIn (by rw [List.append_nil]; exact lus)
  rw [List.append_nil] at bd
  refine wpAny_call (codeAny_mono (G.run Z.A Z.stack s1 H1 ⟨us, []⟩ us vs Q E0 hr (above_env I1) bd r hsp) fun rr s2 hq => ?_)
  cases rr with
  | error u => exact (show False from hq).elim
  | ok fl =>
    cases fl with
    | ret u => exact I1.after hq
    | next => exact hq.elim
    | brk => exact hq.elim
    | cont => exact hq.elim
/-- isinstance(e, c) in a suite, whatever was caught -/
def rIsC (K : PySem.W.Frag) (a : Addr) (cls : Value) (d : Option Addr) : List V → Hp → VK → Prop := fun xs H Q => ∃ D, cls = .ref D ∧ d = none ∧ ExcC K D ∧ rIsE K D a xs H Q
theorem call_isC {X : Cx} {a : Addr} {cls : Value} {d : Option Addr} {oe : Obj} {pn : List (Addr × Obj)} (hz : Zc cls d oe) (hf : ∃ vs, oe.data = .fields vs) : CallR (X.suite a ((a, oe) :: pn)) (.builtin "isinstance") (rIsC X.K a cls d) := by
  intro pins s σ H xs us Q I r ⟨D, e1, e2, C, h⟩
  subst e1 e2
  exact call_isE C hz hf pins s σ H xs us Q I r h
/-- the classes of refusals: D is the j-th of cs -/
structure ExR (K : PySem.W.Frag) (HE : Addr) (cs : List Addr) (j : Nat) (D : Addr) : Prop where
  at_ : cs[j]? = some D
  c : ExcC K D
  m : PySem.W.exmOne K (.ref D) (.ref HE) = some true
  v : PySem.W.kitOne K (.ref D) (.type "ValueError") = some true
  i : ∀ i C, cs[i]? = some C → PySem.W.kitOne K (.ref D) (.ref C) = some (decide (i = j))
  q : PySem.W.excIn K D He.veBase "ValueError.__new__" = true
  k : PySem.W.keepIn K (.ref D) = true
  r : PySem.W.typeIn K (.ref D) = some (.type "type")
def eqB (a b : Option Bool) : Bool := decide (a = b)
def eqV2 (a b : Option Value) : Bool := decide (a = b)
def exRB (K : PySem.W.Frag) (HE : Addr) (cs : List Addr) (j : Nat) (D : Addr) : Bool :=
  (decide (cs[j]? = some D) && He.eqO (PySem.W.findIn K (.ref D) "__getattribute__") (some (some (.builtin "BaseException.__getattribute__"))) && He.eqO (PySem.W.findIn K (.ref D) "__getattr__") (some none) && eqB (PySem.W.subIn K (.ref D) (.type "BaseException")) (some true)) &&
  (PySem.W.hasDictIn K D && He.eqO (PySem.W.findIn K (.ref D) "__class__") (some (some (.builtin "object.__class__"))) && He.eqO (PySem.W.specialIn K (.builtin "object.__class__") "__get__") (some (some (.builtin "getset_descriptor.__get__"))) && eqB (PySem.W.takesIn K (.builtin "object.__class__")) (some true)) &&
  (eqB (PySem.W.mroIn K D (.type "object")) (some true) && eqB (PySem.W.exmOne K (.ref D) (.ref HE)) (some true) && eqB (PySem.W.kitOne K (.ref D) (.type "ValueError")) (some true)) &&
  ((List.range cs.length).all (fun i => eqB (PySem.W.kitOne K (.ref D) (.ref (cs.getD i 0))) (some (decide (i = j)))) && PySem.W.excIn K D He.veBase "ValueError.__new__" && PySem.W.keepIn K (.ref D) && eqV2 (PySem.W.typeIn K (.ref D)) (some (.type "type")))
theorem exRB_ok {K : PySem.W.Frag} {HE : Addr} {cs : List Addr} {j : Nat} {D : Addr} (h : exRB K HE cs j D = true) : ExR K HE cs j D := by
  unfold exRB at h
  simp only [Bool.and_eq_true] at h
  obtain ⟨⟨⟨⟨⟨⟨a1, a2⟩, a3⟩, a4⟩, ⟨⟨b1, b2⟩, b3⟩, b4⟩, ⟨c1, c2⟩, c3⟩, ⟨⟨d1, d2⟩, d3⟩, d4⟩ := h
  refine ⟨of_decide_eq_true a1, ⟨He.eqO_ok a2, He.eqO_ok a3, of_decide_eq_true a4, b1, He.eqO_ok b2, He.eqO_ok b3, of_decide_eq_true b4, of_decide_eq_true c1⟩, of_decide_eq_true c2, of_decide_eq_true c3, fun i C hi => ?_, d2, d3, of_decide_eq_true d4⟩
  have lt := (List.getElem?_eq_some_iff.mp hi).1
  have q := of_decide_eq_true (List.all_eq_true.mp d1 i (List.mem_range.mpr lt))
  have e : cs.getD i 0 = C := by rw [List.getD_eq_getElem?_getD, hi]; rfl
  rw [e] at q
  exact q
theorem ExR.raises {X : Cx} {HE : Addr} {cs : List Addr} {j : Nat} {D : Addr} (h : ExR X.K HE cs j D) : Raises X (.ref D) := raises_own h.c.hs h.r
/-- raise D('text') -/
theorem ps_refuse {X : Cx} {W : WX} {HE : Addr} {cs : List Addr} {j : Nat} {D : Addr} {x m : Str} {jj : Nat} {p p2 pos pos2 : Pos} (h : ExR X.K HE cs j D) (hc : X.calm = true) (tk : Takes X W) (gC : X.mg x = some (.ref D)) (hg : Gl X x) (hdb : (x == ("__debug__" : Str)) = false := by decide) :
    PS X (.Raise (some (.Call (.Name x p) [.Constant (.str m) jj p2] [] pos)) none pos2) (fun _ σ H => W (.ref D) none σ H) :=
  ps_raise hc tk (pmk_own PySem.F.excBase_ValueError h.q gC h.k h.raises hg hdb)
/-- what is never reckoned -/
theorem pe_never {X : Cx} {e : Expr} : PE X e (fun _ _ _ => False) := ⟨fun _ _ _ _ _ _ h => h.elim⟩
section
variable {X : Cx}
/-- l.count(y), plain things -/
def rCntF (K : PySem.W.Frag) : V → List V → Hp → VK → Prop := fun x xs H Q => ∃ (p : Addr) (ys : List V) (y : V), x = .ref p ∧ xs = [y] ∧ SqL K H p ys ∧ flatV y = true ∧ ys.all flatV = true ∧ Q (.int ((ys.countP fun z => eqV z y : Nat) : Int)) H
theorem cnt_flat {y : V} : ∀ {ys : List V} {us : List Value}, Vals ys us → ys.all flatV = true → us.countP (eqU y) = ys.countP fun z => eqV z y
  | _, _, .nil, _ => rfl
  | z :: ys, u :: us, .cons r t, f => by
    rw [List.all_cons, Bool.and_eq_true] at f
    rw [List.countP_cons, List.countP_cons, cnt_flat t f.2, eqU_of r f.1]
theorem mt_countF : MtR X "list.count" (rCntF X.K) := by
  intro pins s σ H x xs v us Q I rx rxs h
  obtain ⟨p, ys, y, rfl, rfl, hs, fy, fys, q⟩ := h
  cases rx
  obtain ⟨u, rfl, ru⟩ := rxs.one
  obtain ⟨its, rv, ⟨⟨cls, dd, data, sl⟩, n, ho, hc, hdn, hd⟩, hlen⟩ := I.list hs
  simp only at hc hd
  subst hc hd
  refine call_meets PySem.F.slot_list_count ⟨_, ho, rfl⟩ PySem.F.entry_list_count (PySem.F.args_list_count_2 _ _) (SeqAt.list_countAt p its.toArray n dd sl u (eqU y)) ⟨ho, fun u' hu' => mem_eqAt ru fy rv fys u' (by simpa using hu'), ?_⟩
  refine ⟨.int ((ys.countP fun z => eqV z y : Nat) : Int), H, I.tok _, ⟨s.toks, ?_⟩, q⟩
  have ec : its.toArray.toList.countP (eqU y) = ys.countP fun z => eqV z y := cnt_flat rv fys
  rw [ec]
theorem mtK_countF {K : PySem.W.Frag} (e : X.K = K) : MtR X "list.count" (rCntF K) := by subst e; exact mt_countF
theorem mtK_index {K : PySem.W.Frag} (e : X.K = K) : MtR X "list.index" (rIndex K) := by subst e; exact mt_index
theorem pass0S {σ : L2.St} {E : XK} : PassesAt CX0 X σ E := fun _ _ _ _ _ _ h => h.elim
end
/-- a law that makes lambdas: its table of code objects is empty ahead -/
def spLawT (K : PySem.W.Frag) (tb : Addr) : Sp := fun vs H Q _ => ∃ (a : Addr) (ns : List Int), vs = [.ref a] ∧ SqL K H a (ns.map V.int) ∧ ns.length ≤ 63 ∧ H tb = some (.tbl #[]) ∧ ∀ H', Q (.bl true) H'
/-- the end of such a law -/
theorem walk_tabE {l : PySem.W.OpenLaw} {n k : Nat} {q : Program} {loose : List Str} {XP : (Str → Option Value) → Heap → Prop} {YP : World → Heap → Prop} {d : DefRec} {CX : CXT} {x : Str}
    (most : l.most = some n) (small : n ≤ sizeLine) (plain : d.params.defaults = []) (room : Room k callerA)
    (F : ∀ (w : World) (mg : Str → Option Value) (fa : Addr) (h : Heap), YP w h → h.Ns mainGlobals mg → mg d.name = some (.ref fa) → ∃ K : PySem.W.Frag, K.In h ∧ LawAtS l w K CX k n x mg fa h)
    (never : ∀ (H : Hp) (s : Shared) (e : Value) (s' : Shared), CX [] H s (fun _ _ _ => False) e s' → False) :
    PySem.W.WalkO q loose XP YP l.row.toRowW d [] (fun f vs => PySem.call f vs) := by
  refine Att.attach_callB most plain fun w t0 t1 mg mb fa ob pm cdo dc a vs ns G Y _ _ _ there is_ whole short bits gens => ?_
  obtain ⟨K, inK, fd, cs, sp, empty, out, code, binds, wish, ok⟩ := F w mg fa _ Y G.T.g there
  exact law_callTs inK G.T.g G.T.b G.T.builtins G.T.nolimit gens empty out code G.T.bmain is_ whole (Nat.le_trans short small) room ok binds (fun H tabs seq => wish H a ns short bits tabs seq) fun H e s' => never H t1 e s'
/-- what is told of tables of code objects -/
theorem tabs_of {g : Addr → Option Obj} {as : List Addr} {tf : List He.Defn} (h : He.tabsB g tf (He.frT g as) = true) : ∀ p ∈ tf, PySem.W.codeHdIn (He.frT g as) (He.cT (He.frT g as) p).1 (He.cT (He.frT g as) p).2 = true ∧ (He.frT g as).lookup (He.cT (He.frT g as) p).2 = none ∧ g (He.cT (He.frT g as) p).2 = some { cls := .none, data := .fields #[] } := fun p hp => by
  have q := List.all_eq_true.mp h p hp
  obtain ⟨q1, q2⟩ := He.ba q
  refine ⟨q1, ?_⟩
  cases e : g (He.cT (He.frT g as) p).2 with
  | none =>
    rw [e] at q2
    cases q2
  | some o =>
    rw [e] at q2
    exact ⟨He.frT_none e q2, by rw [He.emptyTab_eq q2]⟩
/-- a def's code object -/
theorem code_of {K : PySem.W.Frag} {p : Str × Option Str} {q : Str} {oc : Value} {od : Option Addr} {osl : Array (Option Value)} {fd : FuncData} (lk : K.lookup (He.fAd K p) = some ⟨oc, od, .func fd, osl⟩) (c : PySem.W.codeIn K fd.code q = true) : fd.code = .ref (He.cT K p).1 := by
  obtain ⟨a, e⟩ := He.codeIn_ref c
  rw [e]
  exact congrArg Value.ref (He.codeOf_eq lk e).symm
end Mh
namespace Mh
open PySem L2
def top (i : Nat) : Stmt := PySem.Challenge.pw_measurehall_k03_questions_and_seeds_refu.main.body.getD i (.Pass ⟨0, 0, 0, 0⟩)
abbrev s_is_number : Stmt := top 28
abbrev N_is_number : List Str := ["value", "low", "high"]
theorem sc_is_number : FnScope N_is_number ["value", "low", "high"] (defScope s_is_number) := ⟨rfl, rfl, rfl, by decide +kernel, rfl, by decide +kernel, by decide +kernel⟩
abbrev s_is_question : Stmt := top 29
abbrev N_is_question : List Str := ["value"]
theorem sc_is_question : FnScope N_is_question ["value"] (defScope s_is_question) := ⟨rfl, rfl, rfl, by decide +kernel, rfl, by decide +kernel, by decide +kernel⟩
abbrev s_is_seed : Stmt := top 30
abbrev N_is_seed : List Str := ["value"]
theorem sc_is_seed : FnScope N_is_seed ["value"] (defScope s_is_seed) := ⟨rfl, rfl, rfl, by decide +kernel, rfl, by decide +kernel, by decide +kernel⟩
abbrev s_is_divisor : Stmt := top 31
abbrev N_is_divisor : List Str := ["value"]
theorem sc_is_divisor : FnScope N_is_divisor ["value"] (defScope s_is_divisor) := ⟨rfl, rfl, rfl, by decide +kernel, rfl, by decide +kernel, by decide +kernel⟩
abbrev s_is_known : Stmt := top 32
abbrev N_is_known : List Str := ["numbers", "one", "other", "number"]
theorem sc_is_known : FnScope N_is_known ["numbers"] (defScope s_is_known) := ⟨rfl, rfl, rfl, by decide +kernel, rfl, by decide +kernel, by decide +kernel⟩
abbrev s_is_test : Stmt := top 33
abbrev N_is_test : List Str := ["test", "bound", "divisor", "rest", "numbers"]
theorem sc_is_test : FnScope N_is_test ["test"] (defScope s_is_test) := ⟨rfl, rfl, rfl, by decide +kernel, rfl, by decide +kernel, by decide +kernel⟩
abbrev s_is_answer : Stmt := top 34
abbrev N_is_answer : List Str := ["answer", "number", "divisor"]
theorem sc_is_answer : FnScope N_is_answer ["answer"] (defScope s_is_answer) := ⟨rfl, rfl, rfl, by decide +kernel, rfl, by decide +kernel, by decide +kernel⟩
abbrev s_is_row : Stmt := top 35
abbrev N_is_row : List Str := ["row"]
theorem sc_is_row : FnScope N_is_row ["row"] (defScope s_is_row) := ⟨rfl, rfl, rfl, by decide +kernel, rfl, by decide +kernel, by decide +kernel⟩
abbrev s_check_machine : Stmt := top 36
abbrev N_check_machine : List Str := ["machine", "at", "row"]
theorem sc_check_machine : FnScope N_check_machine ["machine"] (defScope s_check_machine) := ⟨rfl, rfl, rfl, by decide +kernel, rfl, by decide +kernel, by decide +kernel⟩
abbrev s_check_question : Stmt := top 37
abbrev N_check_question : List Str := ["question"]
theorem sc_check_question : FnScope N_check_question ["question"] (defScope s_check_question) := ⟨rfl, rfl, rfl, by decide +kernel, rfl, by decide +kernel, by decide +kernel⟩
abbrev s_check_seed : Stmt := top 38
abbrev N_check_seed : List Str := ["seed"]
theorem sc_check_seed : FnScope N_check_seed ["seed"] (defScope s_check_seed) := ⟨rfl, rfl, rfl, by decide +kernel, rfl, by decide +kernel, by decide +kernel⟩
abbrev s_does_hold : Stmt := top 39
abbrev N_does_hold : List Str := ["test", "question", "seed", "bound", "divisor", "rest", "numbers"]
theorem sc_does_hold : FnScope N_does_hold ["test", "question", "seed"] (defScope s_does_hold) := ⟨rfl, rfl, rfl, by decide +kernel, rfl, by decide +kernel, by decide +kernel⟩
abbrev s_outcome : Stmt := top 40
abbrev N_outcome : List Str := ["answer", "question", "number", "divisor"]
theorem sc_outcome : FnScope N_outcome ["answer", "question"] (defScope s_outcome) := ⟨rfl, rfl, rfl, by decide +kernel, rfl, by decide +kernel, by decide +kernel⟩
abbrev s_run : Stmt := top 41
abbrev N_run : List Str := ["machine", "question", "seed", "test", "answer"]
theorem sc_run : FnScope N_run ["machine", "question", "seed"] (defScope s_run) := ⟨rfl, rfl, rfl, by decide +kernel, rfl, by decide +kernel, by decide +kernel⟩
abbrev s_answered : Stmt := top 42
abbrev N_answered : List Str := ["machine", "question", "seed"]
theorem sc_answered : FnScope N_answered ["machine", "question", "seed"] (defScope s_answered) := ⟨rfl, rfl, rfl, by decide +kernel, rfl, by decide +kernel, by decide +kernel⟩
abbrev s_is_due : Stmt := top 47
abbrev N_is_due : List Str := ["value"]
theorem sc_is_due : FnScope N_is_due ["value"] (defScope s_is_due) := ⟨rfl, rfl, rfl, by decide +kernel, rfl, by decide +kernel, by decide +kernel⟩
abbrev s_is_twin : Stmt := top 48
abbrev N_is_twin : List Str := ["twin"]
theorem sc_is_twin : FnScope N_is_twin ["twin"] (defScope s_is_twin) := ⟨rfl, rfl, rfl, by decide +kernel, rfl, by decide +kernel, by decide +kernel⟩
abbrev s_is_asked : Stmt := top 49
abbrev N_is_asked : List Str := ["asked"]
theorem sc_is_asked : FnScope N_is_asked ["asked"] (defScope s_is_asked) := ⟨rfl, rfl, rfl, by decide +kernel, rfl, by decide +kernel, by decide +kernel⟩
abbrev s_is_framed : Stmt := top 50
abbrev N_is_framed : List Str := ["task", "questions", "weight"]
theorem sc_is_framed : FnScope N_is_framed ["task"] (defScope s_is_framed) := ⟨rfl, rfl, rfl, by decide +kernel, rfl, by decide +kernel, by decide +kernel⟩
abbrev s_check_task : Stmt := top 51
abbrev N_check_task : List Str := ["task", "found", "at", "asked"]
theorem sc_check_task : FnScope N_check_task ["task"] (defScope s_check_task) := ⟨rfl, rfl, rfl, by decide +kernel, rfl, by decide +kernel, by decide +kernel⟩
abbrev s_right_ones : Stmt := top 52
abbrev N_right_ones : List Str := ["machine", "task", "seed", "at", "question", "due", "_"]
theorem sc_right_ones : FnScope N_right_ones ["machine", "task", "seed"] (defScope s_right_ones) := ⟨rfl, rfl, rfl, by decide +kernel, rfl, by decide +kernel, by decide +kernel⟩
abbrev s_count_right : Stmt := top 53
abbrev N_count_right : List Str := ["machine", "task", "seed"]
theorem sc_count_right : FnScope N_count_right ["machine", "task", "seed"] (defScope s_count_right) := ⟨rfl, rfl, rfl, by decide +kernel, rfl, by decide +kernel, by decide +kernel⟩
abbrev s_check_run : Stmt := top 54
abbrev N_check_run : List Str := ["machine", "task", "seed"]
theorem sc_check_run : FnScope N_check_run ["machine", "task", "seed"] (defScope s_check_run) := ⟨rfl, rfl, rfl, by decide +kernel, rfl, by decide +kernel, by decide +kernel⟩
abbrev s_right : Stmt := top 55
abbrev N_right : List Str := ["machine", "task", "seed"]
theorem sc_right : FnScope N_right ["machine", "task", "seed"] (defScope s_right) := ⟨rfl, rfl, rfl, by decide +kernel, rfl, by decide +kernel, by decide +kernel⟩
abbrev s_score : Stmt := top 56
abbrev N_score : List Str := ["machine", "task", "seed"]
theorem sc_score : FnScope N_score ["machine", "task", "seed"] (defScope s_score) := ⟨rfl, rfl, rfl, by decide +kernel, rfl, by decide +kernel, by decide +kernel⟩
abbrev s_heart : Stmt := top 57
abbrev N_heart : List Str := ["machine", "task", "seed", "paired", "many", "here", "there", "ways", "question", "due", "twin", "laid", "_"]
theorem sc_heart : FnScope N_heart ["machine", "task", "seed"] (defScope s_heart) := ⟨rfl, rfl, rfl, by decide +kernel, rfl, by decide +kernel, by decide +kernel⟩
abbrev s_dice : Stmt := top 59
abbrev N_dice : List Str := ["_law_script", "_law_k", "_law_found", "_law_cell"]
theorem sc_dice : FnScope N_dice ["_law_script", "_law_k"] (defScope s_dice) := ⟨rfl, rfl, rfl, by decide +kernel, rfl, by decide +kernel, by decide +kernel⟩
abbrev s_off : Stmt := top 60
abbrev N_off : List Str := ["_law_d", "_law_upto", "_law_found"]
theorem sc_off : FnScope N_off ["_law_d", "_law_upto"] (defScope s_off) := ⟨rfl, rfl, rfl, by decide +kernel, rfl, by decide +kernel, by decide +kernel⟩
abbrev s_mixed : Stmt := top 61
abbrev N_mixed : List Str := ["_law_d", "_law_row", "_law_left", "_law_found"]
theorem sc_mixed : FnScope N_mixed ["_law_d", "_law_row"] (defScope s_mixed) := ⟨rfl, rfl, rfl, by decide +kernel, rfl, by decide +kernel, by decide +kernel⟩
abbrev s_word_of : Stmt := top 62
abbrev N_word_of : List Str := ["_law_work", "e", "_law_kinds", "_law_names", "_law_name"]
theorem sc_word_of : FnScope N_word_of ["_law_work"] (defScope s_word_of) := ⟨rfl, rfl, rfl, by decide +kernel, rfl, by decide +kernel, by decide +kernel⟩
abbrev s_are : Stmt := top 63
abbrev N_are : List Str := ["_law_works", "_law_name", "_law_work"]
theorem sc_are : FnScope N_are ["_law_works", "_law_name"] (defScope s_are) := ⟨rfl, rfl, rfl, by decide +kernel, rfl, by decide +kernel, by decide +kernel⟩
abbrev s_test : Stmt := top 64
abbrev N_test : List Str := ["_law_d", "_law_kind", "_law_m", "_law_k"]
theorem sc_test : FnScope N_test ["_law_d"] (defScope s_test) := ⟨rfl, rfl, rfl, by decide +kernel, rfl, by decide +kernel, by decide +kernel⟩
abbrev s_answer : Stmt := top 65
abbrev N_answer : List Str := ["_law_d", "_law_kind", "_law_n"]
theorem sc_answer : FnScope N_answer ["_law_d"] (defScope s_answer) := ⟨rfl, rfl, rfl, by decide +kernel, rfl, by decide +kernel, by decide +kernel⟩
abbrev s_machine : Stmt := top 66
abbrev N_machine : List Str := ["_law_d", "_law_k"]
theorem sc_machine : FnScope N_machine ["_law_d"] (defScope s_machine) := ⟨rfl, rfl, rfl, by decide +kernel, rfl, by decide +kernel, by decide +kernel⟩
abbrev s_told : Stmt := top 67
abbrev N_told : List Str := ["_law_machine_here", "_law_question", "_law_grain", "_law_test_here", "_law_answer_here", "_law_word", "_law_good", "_law_whole", "_law_told_here"]
theorem sc_told : FnScope N_told ["_law_machine_here", "_law_question", "_law_grain"] (defScope s_told) := ⟨rfl, rfl, rfl, by decide +kernel, rfl, by decide +kernel, by decide +kernel⟩
abbrev s_task : Stmt := top 68
abbrev N_task : List Str := ["_law_d", "_law_machine_here", "_law_numbers", "_law_often", "_law_rows", "_law_x", "_law_due", "_law_twin", "_law_y"]
theorem sc_task : FnScope N_task ["_law_d", "_law_machine_here"] (defScope s_task) := ⟨rfl, rfl, rfl, by decide +kernel, rfl, by decide +kernel, by decide +kernel⟩
abbrev s_law : Stmt := top 69
abbrev N_law : List Str := ["_law_script", "_law_d", "_law_far", "_law_works", "_law_plain", "_law_told_here", "_law_grain", "_law_machine_here", "_law_question", "_law_task_here"]
theorem sc_law : FnScope N_law ["_law_script"] (defScope s_law) := ⟨rfl, rfl, rfl, by decide +kernel, rfl, by decide +kernel, by decide +kernel⟩
structure Adr where
  HallError : Addr
  BadQuestion : Addr
  BadSeed : Addr
  BadName : Addr
  TooMany : Addr
  Taken : Addr
  NoMachine : Addr
  NoTask : Addr
  BadScore : Addr
  NoRun : Addr
  NotRanked : Addr
  BadShare : Addr
  NotAhead : Addr
  NoPage : Addr
  BadMachine : Addr
  BadText : Addr
  BadTask : Addr
  BadDeed : Addr
  law_cd : Addr
  law_tb : Addr
  is_number : Addr
  is_number_ : FuncData
  is_question : Addr
  is_question_ : FuncData
  is_seed : Addr
  is_seed_ : FuncData
  is_divisor : Addr
  is_divisor_ : FuncData
  is_known : Addr
  is_known_ : FuncData
  is_test : Addr
  is_test_ : FuncData
  is_answer : Addr
  is_answer_ : FuncData
  is_row : Addr
  is_row_ : FuncData
  check_machine : Addr
  check_machine_ : FuncData
  check_question : Addr
  check_question_ : FuncData
  check_seed : Addr
  check_seed_ : FuncData
  does_hold : Addr
  does_hold_ : FuncData
  outcome : Addr
  outcome_ : FuncData
  run : Addr
  run_ : FuncData
  answered : Addr
  answered_ : FuncData
  answered_ds : List Value
  is_due : Addr
  is_due_ : FuncData
  is_twin : Addr
  is_twin_ : FuncData
  is_asked : Addr
  is_asked_ : FuncData
  is_framed : Addr
  is_framed_ : FuncData
  check_task : Addr
  check_task_ : FuncData
  right_ones : Addr
  right_ones_ : FuncData
  count_right : Addr
  count_right_ : FuncData
  check_run : Addr
  check_run_ : FuncData
  right : Addr
  right_ : FuncData
  score : Addr
  score_ : FuncData
  heart : Addr
  heart_ : FuncData
  dice : Addr
  dice_ : FuncData
  off : Addr
  off_ : FuncData
  mixed : Addr
  mixed_ : FuncData
  word_of : Addr
  word_of_ : FuncData
  are : Addr
  are_ : FuncData
  test : Addr
  test_ : FuncData
  answer : Addr
  answer_ : FuncData
  machine : Addr
  machine_ : FuncData
  told : Addr
  told_ : FuncData
  task : Addr
  task_ : FuncData
  law : Addr
  law_ : FuncData
def exs (A : Adr) : List Addr := [A.BadQuestion, A.BadSeed, A.BadName, A.TooMany, A.Taken, A.NoMachine, A.NoTask, A.BadScore, A.NoRun, A.NotRanked, A.BadShare, A.NotAhead, A.NoPage, A.BadMachine, A.BadText, A.BadTask, A.BadDeed]
structure Txt (K : PySem.W.Frag) (mg : Str → Option Value) (A : Adr) : Prop where
  n_ValueError : mg "ValueError" = none
  n_abs : mg "abs" = none
  n_all : mg "all" = none
  n_bool : mg "bool" = none
  n_enumerate : mg "enumerate" = none
  n_int : mg "int" = none
  n_isinstance : mg "isinstance" = none
  n_len : mg "len" = none
  n_list : mg "list" = none
  n_max : mg "max" = none
  n_range : mg "range" = none
  n_set : mg "set" = none
  n_sorted : mg "sorted" = none
  n_sum : mg "sum" = none
  n_tuple : mg "tuple" = none
  n_zip : mg "zip" = none
  c_LAST_QUESTION : GV mg "LAST_QUESTION" (.int 9999)
  c_LAST_SEED : GV mg "LAST_SEED" (.int 999)
  c_MOST_ROWS : GV mg "MOST_ROWS" (.int 12)
  c_MOST_KNOWN : GV mg "MOST_KNOWN" (.int 8)
  c_LEAST_DIVISOR : GV mg "LEAST_DIVISOR" (.int 2)
  c_MOST_DIVISOR : GV mg "MOST_DIVISOR" (.int 99)
  c_MOST_IN_ANSWER : GV mg "MOST_IN_ANSWER" (.int 9999)
  c_MOST_QUESTIONS : GV mg "MOST_QUESTIONS" (.int 16)
  c_MOST_DUE : GV mg "MOST_DUE" (.int 99999999)
  c_MOST_WEIGHT : GV mg "MOST_WEIGHT" (.int 9)
  m_comb : mg "comb" = some (.builtin "math.comb")
  g_HallError : mg "HallError" = some (.ref A.HallError)
  g_BadQuestion : mg "BadQuestion" = some (.ref A.BadQuestion)
  g_BadSeed : mg "BadSeed" = some (.ref A.BadSeed)
  g_BadName : mg "BadName" = some (.ref A.BadName)
  g_TooMany : mg "TooMany" = some (.ref A.TooMany)
  g_Taken : mg "Taken" = some (.ref A.Taken)
  g_NoMachine : mg "NoMachine" = some (.ref A.NoMachine)
  g_NoTask : mg "NoTask" = some (.ref A.NoTask)
  g_BadScore : mg "BadScore" = some (.ref A.BadScore)
  g_NoRun : mg "NoRun" = some (.ref A.NoRun)
  g_NotRanked : mg "NotRanked" = some (.ref A.NotRanked)
  g_BadShare : mg "BadShare" = some (.ref A.BadShare)
  g_NotAhead : mg "NotAhead" = some (.ref A.NotAhead)
  g_NoPage : mg "NoPage" = some (.ref A.NoPage)
  g_BadMachine : mg "BadMachine" = some (.ref A.BadMachine)
  g_BadText : mg "BadText" = some (.ref A.BadText)
  g_BadTask : mg "BadTask" = some (.ref A.BadTask)
  g_BadDeed : mg "BadDeed" = some (.ref A.BadDeed)
  x_BadQuestion : ExR K A.HallError (exs A) 0 A.BadQuestion
  x_BadSeed : ExR K A.HallError (exs A) 1 A.BadSeed
  law_c : A.law_.code = .ref A.law_cd
  is_number : Df K mg "is_number" s_is_number ["value", "low", "high"] A.is_number A.is_number_
  is_question : Df K mg "is_question" s_is_question ["value"] A.is_question A.is_question_
  is_seed : Df K mg "is_seed" s_is_seed ["value"] A.is_seed A.is_seed_
  is_divisor : Df K mg "is_divisor" s_is_divisor ["value"] A.is_divisor A.is_divisor_
  is_known : Df K mg "is_known" s_is_known ["numbers"] A.is_known A.is_known_
  is_test : Df K mg "is_test" s_is_test ["test"] A.is_test A.is_test_
  is_answer : Df K mg "is_answer" s_is_answer ["answer"] A.is_answer A.is_answer_
  is_row : Df K mg "is_row" s_is_row ["row"] A.is_row A.is_row_
  check_machine : Df K mg "check_machine" s_check_machine ["machine"] A.check_machine A.check_machine_
  check_question : Df K mg "check_question" s_check_question ["question"] A.check_question A.check_question_
  check_seed : Df K mg "check_seed" s_check_seed ["seed"] A.check_seed A.check_seed_
  does_hold : Df K mg "does_hold" s_does_hold ["test", "question", "seed"] A.does_hold A.does_hold_
  outcome : Df K mg "outcome" s_outcome ["answer", "question"] A.outcome A.outcome_
  run : Df K mg "run" s_run ["machine", "question", "seed"] A.run A.run_
  answered : DfS K mg "answered" s_answered ["machine", "question", "seed"] 2 ["seed"] [(.int 0)] A.answered A.answered_ A.answered_ds
  is_due : Df K mg "is_due" s_is_due ["value"] A.is_due A.is_due_
  is_twin : Df K mg "is_twin" s_is_twin ["twin"] A.is_twin A.is_twin_
  is_asked : Df K mg "is_asked" s_is_asked ["asked"] A.is_asked A.is_asked_
  is_framed : Df K mg "is_framed" s_is_framed ["task"] A.is_framed A.is_framed_
  check_task : Df K mg "check_task" s_check_task ["task"] A.check_task A.check_task_
  right_ones : Df K mg "right_ones" s_right_ones ["machine", "task", "seed"] A.right_ones A.right_ones_
  count_right : Df K mg "count_right" s_count_right ["machine", "task", "seed"] A.count_right A.count_right_
  check_run : Df K mg "check_run" s_check_run ["machine", "task", "seed"] A.check_run A.check_run_
  right : DfK K mg "right" s_right ["machine", "task", "seed"] 2 ["seed"] A.right A.right_
  score : DfK K mg "score" s_score ["machine", "task", "seed"] 2 ["seed"] A.score A.score_
  heart : DfK K mg "heart" s_heart ["machine", "task", "seed"] 2 ["seed"] A.heart A.heart_
  dice : Df K mg "_law_dice" s_dice ["_law_script", "_law_k"] A.dice A.dice_
  off : Df K mg "_law_off" s_off ["_law_d", "_law_upto"] A.off A.off_
  mixed : Df K mg "_law_mixed" s_mixed ["_law_d", "_law_row"] A.mixed A.mixed_
  word_of : Df K mg "_law_word_of" s_word_of ["_law_work"] A.word_of A.word_of_
  are : Df K mg "_law_are" s_are ["_law_works", "_law_name"] A.are A.are_
  test : Df K mg "_law_test" s_test ["_law_d"] A.test A.test_
  answer : Df K mg "_law_answer" s_answer ["_law_d"] A.answer A.answer_
  machine : Df K mg "_law_machine" s_machine ["_law_d"] A.machine A.machine_
  told : Df K mg "_law_told" s_told ["_law_machine_here", "_law_question", "_law_grain"] A.told A.told_
  task : Df K mg "_law_task" s_task ["_law_d", "_law_machine_here"] A.task A.task_
  law : Df K mg "law" s_law ["_law_script"] A.law A.law_
end Mh
namespace Mh
open PySem L2
noncomputable section
def hn0 : List PySem.Str := ["__name__", "HallError", "BadMachine", "BadQuestion", "BadSeed", "BadText", "BadTask", "BadName", "TooMany", "Taken", "NoMachine", "NoTask", "BadScore", "NoRun", "NotRanked", "BadShare", "NotAhead", "NoPage", "BadDeed", "LAST_QUESTION", "LAST_SEED", "MOST_ROWS", "MOST_KNOWN", "LEAST_DIVISOR", "MOST_DIVISOR", "MOST_IN_ANSWER", "is_number", "is_question", "is_seed", "is_divisor"]
def hn1 : List PySem.Str := ["is_known", "is_test", "is_answer", "is_row", "check_machine", "check_question", "check_seed", "does_hold", "outcome", "run", "answered", "MOST_QUESTIONS", "MOST_DUE", "MOST_WEIGHT", "is_due", "is_twin", "is_asked", "is_framed", "check_task", "right_ones", "count_right", "check_run", "right", "score", "heart", "_law_dice", "_law_off", "_law_mixed", "_law_word_of", "_law_are"]
def hn2 : List PySem.Str := ["_law_test", "_law_answer", "_law_machine", "_law_told", "_law_task"]
def hnames : List PySem.Str := hn0 ++ hn1 ++ hn2
def hf0 : List He.Fa := [.free "ValueError", .free "abs", .free "all", .free "bool", .free "enumerate", .free "int", .free "isinstance", .free "len", .free "list", .free "max", .free "range", .free "set", .free "sorted", .free "sum", .free "tuple", .free "zip", .int "LAST_QUESTION" 9999, .int "LAST_SEED" 999, .int "MOST_ROWS" 12, .int "MOST_KNOWN" 8, .int "LEAST_DIVISOR" 2, .int "MOST_DIVISOR" 99, .int "MOST_IN_ANSWER" 9999, .int "MOST_QUESTIONS" 16, .int "MOST_DUE" 99999999, .int "MOST_WEIGHT" 9, .glo "is_number", .keep "is_number", .glo "is_question", .keep "is_question"]
def hf1 : List He.Fa := [.glo "is_seed", .keep "is_seed", .glo "is_divisor", .keep "is_divisor", .glo "is_known", .keep "is_known", .glo "is_test", .keep "is_test", .glo "is_answer", .keep "is_answer", .glo "is_row", .keep "is_row", .glo "check_machine", .keep "check_machine", .glo "check_question", .keep "check_question", .glo "check_seed", .keep "check_seed", .glo "does_hold", .keep "does_hold", .glo "outcome", .keep "outcome", .glo "run", .keep "run", .glo "answered", .keep "answered", .glo "is_due", .keep "is_due", .glo "is_twin", .keep "is_twin"]
def hf2 : List He.Fa := [.glo "is_asked", .keep "is_asked", .glo "is_framed", .keep "is_framed", .glo "check_task", .keep "check_task", .glo "right_ones", .keep "right_ones", .glo "count_right", .keep "count_right", .glo "check_run", .keep "check_run", .glo "right", .keep "right", .glo "score", .keep "score", .glo "heart", .keep "heart", .glo "_law_dice", .keep "_law_dice", .glo "_law_off", .keep "_law_off", .glo "_law_mixed", .keep "_law_mixed", .glo "_law_word_of", .keep "_law_word_of", .glo "_law_are", .keep "_law_are", .glo "_law_test", .keep "_law_test"]
def hf3 : List He.Fa := [.glo "_law_answer", .keep "_law_answer", .glo "_law_machine", .keep "_law_machine", .glo "_law_told", .keep "_law_told", .glo "_law_task", .keep "_law_task", .glo "law", .keep "law"]
def hfa : List He.Fa := hf0 ++ (hf1 ++ (hf2 ++ (hf3)))
def hd_is_number : He.FnD := ⟨("is_number", none), "is_number", "is_number", defArgs s_is_number, defBody s_is_number, defScope s_is_number⟩
def hd_is_question : He.FnD := ⟨("is_question", none), "is_question", "is_question", defArgs s_is_question, defBody s_is_question, defScope s_is_question⟩
def hd_is_seed : He.FnD := ⟨("is_seed", none), "is_seed", "is_seed", defArgs s_is_seed, defBody s_is_seed, defScope s_is_seed⟩
def hd_is_divisor : He.FnD := ⟨("is_divisor", none), "is_divisor", "is_divisor", defArgs s_is_divisor, defBody s_is_divisor, defScope s_is_divisor⟩
def hd_is_known : He.FnD := ⟨("is_known", none), "is_known", "is_known", defArgs s_is_known, defBody s_is_known, defScope s_is_known⟩
def hd_is_test : He.FnD := ⟨("is_test", none), "is_test", "is_test", defArgs s_is_test, defBody s_is_test, defScope s_is_test⟩
def hd_is_answer : He.FnD := ⟨("is_answer", none), "is_answer", "is_answer", defArgs s_is_answer, defBody s_is_answer, defScope s_is_answer⟩
def hd_is_row : He.FnD := ⟨("is_row", none), "is_row", "is_row", defArgs s_is_row, defBody s_is_row, defScope s_is_row⟩
def hd_check_machine : He.FnD := ⟨("check_machine", none), "check_machine", "check_machine", defArgs s_check_machine, defBody s_check_machine, defScope s_check_machine⟩
def hd_check_question : He.FnD := ⟨("check_question", none), "check_question", "check_question", defArgs s_check_question, defBody s_check_question, defScope s_check_question⟩
def hd_check_seed : He.FnD := ⟨("check_seed", none), "check_seed", "check_seed", defArgs s_check_seed, defBody s_check_seed, defScope s_check_seed⟩
def hd_does_hold : He.FnD := ⟨("does_hold", none), "does_hold", "does_hold", defArgs s_does_hold, defBody s_does_hold, defScope s_does_hold⟩
def hd_outcome : He.FnD := ⟨("outcome", none), "outcome", "outcome", defArgs s_outcome, defBody s_outcome, defScope s_outcome⟩
def hd_run : He.FnD := ⟨("run", none), "run", "run", defArgs s_run, defBody s_run, defScope s_run⟩
def hd_answered : He.FnD := ⟨("answered", none), "answered", "answered", defArgs s_answered, defBody s_answered, defScope s_answered⟩
def hd_is_due : He.FnD := ⟨("is_due", none), "is_due", "is_due", defArgs s_is_due, defBody s_is_due, defScope s_is_due⟩
def hd_is_twin : He.FnD := ⟨("is_twin", none), "is_twin", "is_twin", defArgs s_is_twin, defBody s_is_twin, defScope s_is_twin⟩
def hd_is_asked : He.FnD := ⟨("is_asked", none), "is_asked", "is_asked", defArgs s_is_asked, defBody s_is_asked, defScope s_is_asked⟩
def hd_is_framed : He.FnD := ⟨("is_framed", none), "is_framed", "is_framed", defArgs s_is_framed, defBody s_is_framed, defScope s_is_framed⟩
def hd_check_task : He.FnD := ⟨("check_task", none), "check_task", "check_task", defArgs s_check_task, defBody s_check_task, defScope s_check_task⟩
def hd_right_ones : He.FnD := ⟨("right_ones", none), "right_ones", "right_ones", defArgs s_right_ones, defBody s_right_ones, defScope s_right_ones⟩
def hd_count_right : He.FnD := ⟨("count_right", none), "count_right", "count_right", defArgs s_count_right, defBody s_count_right, defScope s_count_right⟩
def hd_check_run : He.FnD := ⟨("check_run", none), "check_run", "check_run", defArgs s_check_run, defBody s_check_run, defScope s_check_run⟩
def hd_right : He.FnD := ⟨("right", none), "right", "right", defArgs s_right, defBody s_right, defScope s_right⟩
def hd_score : He.FnD := ⟨("score", none), "score", "score", defArgs s_score, defBody s_score, defScope s_score⟩
def hd_heart : He.FnD := ⟨("heart", none), "heart", "heart", defArgs s_heart, defBody s_heart, defScope s_heart⟩
def hd_dice : He.FnD := ⟨("_law_dice", none), "_law_dice", "_law_dice", defArgs s_dice, defBody s_dice, defScope s_dice⟩
def hd_off : He.FnD := ⟨("_law_off", none), "_law_off", "_law_off", defArgs s_off, defBody s_off, defScope s_off⟩
def hd_mixed : He.FnD := ⟨("_law_mixed", none), "_law_mixed", "_law_mixed", defArgs s_mixed, defBody s_mixed, defScope s_mixed⟩
def hd_word_of : He.FnD := ⟨("_law_word_of", none), "_law_word_of", "_law_word_of", defArgs s_word_of, defBody s_word_of, defScope s_word_of⟩
def hd_are : He.FnD := ⟨("_law_are", none), "_law_are", "_law_are", defArgs s_are, defBody s_are, defScope s_are⟩
def hd_test : He.FnD := ⟨("_law_test", none), "_law_test", "_law_test", defArgs s_test, defBody s_test, defScope s_test⟩
def hd_answer : He.FnD := ⟨("_law_answer", none), "_law_answer", "_law_answer", defArgs s_answer, defBody s_answer, defScope s_answer⟩
def hd_machine : He.FnD := ⟨("_law_machine", none), "_law_machine", "_law_machine", defArgs s_machine, defBody s_machine, defScope s_machine⟩
def hd_told : He.FnD := ⟨("_law_told", none), "_law_told", "_law_told", defArgs s_told, defBody s_told, defScope s_told⟩
def hd_task : He.FnD := ⟨("_law_task", none), "_law_task", "_law_task", defArgs s_task, defBody s_task, defScope s_task⟩
def hd_law : He.FnD := ⟨("law", none), "law", "law", defArgs s_law, defBody s_law, defScope s_law⟩
def hg0 : List He.FnD := [hd_is_number, hd_is_question, hd_is_seed, hd_is_divisor, hd_is_known, hd_is_test, hd_is_answer, hd_is_row, hd_check_machine, hd_check_question, hd_check_seed, hd_does_hold, hd_outcome, hd_run, hd_answered, hd_is_due, hd_is_twin, hd_is_asked, hd_is_framed, hd_check_task, hd_right_ones, hd_count_right, hd_check_run, hd_right, hd_score, hd_heart, hd_dice, hd_off, hd_mixed, hd_word_of]
def hg1 : List He.FnD := [hd_are, hd_test, hd_answer, hd_machine, hd_told, hd_task, hd_law]
def hfn : List He.FnD := hg0 ++ (hg1)
def hcs : List PySem.Str := []
/-- where functions keep what their keyword-only parameters are by themselves -/
def kwA (g : Addr → Option Obj) : List Addr := (He.asG g 1).flatMap fun a => match g a with
  | some o => (match o.data with
    | .func fd => He.refV fd.kwdefaults
    | _ => [])
  | none => []
/-- a keyword-only parameter that some call leaves out: its value as it was made -/
def omB (K : PySem.W.Frag) (x a : PySem.Str) (i : Int) : Bool := match K.lookup (He.ga K x) with
  | some ⟨_, _, .func fd, _⟩ => (match fd.kwdefaults with
    | .ref dk => (match PySem.W.nsIn K dk a with
      | some (some (.int j _)) => decide (j = i)
      | _ => false)
    | _ => false)
  | _ => false
theorem omB_ok {K : PySem.W.Frag} {x a n q : PySem.Str} {i : Int} {ps : Arguments} {b : List Stmt} {sc : Scope} {oc kV doc pm cdv ct : Value} {od an : Option Addr} {osl : Array (Option Value)} (h : omB K x a i = true)
    (l : K.lookup (He.ga K x) = some ⟨oc, od, .func (PySem.W.fnOf n q ps b sc .none kV doc pm an cdv ct), osl⟩) : ∃ dk kd, kV = .ref dk ∧ PySem.W.nsIn K dk a = some (some kd) ∧ RelV (.int i) kd := by
  unfold omB at h
  rw [l] at h
  cases kV with
  | ref dk =>
    have h : (match PySem.W.nsIn K dk a with
      | some (some (.int j _)) => decide (j = i)
      | _ => false) = true := h
    cases e : PySem.W.nsIn K dk a with
    | none =>
      rw [e] at h
      cases h
    | some o =>
      rw [e] at h
      cases o with
      | none => cases h
      | some v =>
        cases v with
        | int j t =>
          have ej : j = i := of_decide_eq_true h
          exact ⟨dk, _, rfl, e, t, by rw [ej]⟩
        | _ => cases h
  | _ => cases h
def hxn : List PySem.Str := ["HallError", "BadQuestion", "BadSeed", "BadName", "TooMany", "Taken", "NoMachine", "NoTask", "BadScore", "NoRun", "NotRanked", "BadShare", "NotAhead", "NoPage", "BadMachine", "BadText", "BadTask", "BadDeed"]
def hxa (K : PySem.W.Frag) : List Addr := [He.ga K "BadQuestion", He.ga K "BadSeed", He.ga K "BadName", He.ga K "TooMany", He.ga K "Taken", He.ga K "NoMachine", He.ga K "NoTask", He.ga K "BadScore", He.ga K "NoRun", He.ga K "NotRanked", He.ga K "BadShare", He.ga K "NotAhead", He.ga K "NoPage", He.ga K "BadMachine", He.ga K "BadText", He.ga K "BadTask", He.ga K "BadDeed"]
def hexX (K : PySem.W.Frag) : Bool := (hxn.all fun x => He.eqO (PySem.W.nsIn K mainGlobals x) (some (some (.ref (He.ga K x))))) && (exRB K (He.ga K "HallError") (hxa K) 0 (He.ga K "BadQuestion") && (exRB K (He.ga K "HallError") (hxa K) 1 (He.ga K "BadSeed") && true)) && omB K "answered" "seed" 0
def hex (K : PySem.W.Frag) : Bool := (He.eqO (PySem.W.nsIn K mainGlobals "comb") (some (some (.builtin "math.comb")))) && hexX K
def htf : List He.Defn := [("law", none)]
abbrev hR : PySem.W.OpenRow := PySem.W.OpenLaw.row PySem.Challenge.rw_measurehall_k03_questions_and_seeds_refu
/-- what the module's names reach in two steps; the methods of some classes, their code -/
def refsA (g : Addr → Option Obj) (as : List Addr) : List Addr := as.flatMap fun a => match g a with
  | some o => He.refsO o
  | none => []
def asM (g : Addr → Option Obj) (cs : List PySem.Str) : List Addr :=
  He.asG g 2 ++ kwA g ++ (refsA g (refsA g (cs.map fun c => He.ga (He.frG g [mainGlobals]) c)) ++ refsA g (refsA g (refsA g (cs.map fun c => He.ga (He.frG g [mainGlobals]) c))))
def hobK (K : PySem.W.Frag) : He.Al × Bool := (He.obsE hfa hfn K, hex K)
def hobG (g : Addr → Option Obj) : He.Al × Bool := (He.obsE hfa hfn (He.frT g (asM g hcs)), hex (He.frT g (asM g hcs)) && He.tabsB g htf (He.frT g (asM g hcs)))
def hhook : PySem.W.Hook where
  α := He.Al × Bool
  obs := fun s => hobG s.heap.get?
  val := fun _ => (He.valE hfn, true)
  says := fun _ h => ∃ K : PySem.W.Frag, K.In h ∧ hobK K = (He.valE hfn, true) ∧ ∀ p ∈ htf, PySem.W.codeHdIn K (He.cT K p).1 (He.cT K p).2 = true ∧ K.lookup (He.cT K p).2 = none ∧ h.get? (He.cT K p).2 = some { cls := .none, data := .fields #[] }
  of := fun _ _ e => ⟨_, He.frT_in, by
    have e1 := congrArg (fun z : He.Al × Bool => z.1) e
    obtain ⟨e2, e3⟩ := He.ba (congrArg (fun z : He.Al × Bool => z.2) e)
    exact ⟨Prod.ext e1 e2, tabs_of e3⟩⟩
  keeps := fun _ _ _ ⟨K, hK, c, t⟩ k => ⟨K, PySem.W.Frag.In.keeps hK k, c, fun p hp => ⟨(t p hp).1, (t p hp).2.1, k _ _ (t p hp).2.2⟩⟩
def hob (s : PySem.W.SharedT) : He.Al × Bool := hobG (HandSHeadRun.getT s)
theorem hob_eq (s : PySem.W.SharedT) : hob s = hhook.obs s.abs := by
  have e : HandSHeadRun.getT s = s.abs.heap.get? := funext (HandSHeadRun.getT_eq s)
  unfold hob
  rw [e]
  rfl
abbrev hq : Program := PySem.W.view hR.prog [0, 69]
set_option maxHeartbeats 0 in
theorem hrun1 (w : World) : (HandSHeadRun.wholeF (fun p => HandSHeadRun.stepQ (HandSHeadRun.denQ HandSHeadRun.tabQ) p w) HandSHeadRun.fenceQ 12000 hR.prog).map (fun x => HandSHeadRun.looksF hR.prog x.1.heap x.2.abs) = some true := by
  kernel_rfl
set_option maxHeartbeats 0 in
theorem hrun2 (w : World) : (HandSHeadRun.wholeF (fun p => HandSHeadRun.stepQ (HandSHeadRun.denQ HandSHeadRun.tabQ) p w) HandSHeadRun.fenceQ 12000 hR.prog).map (fun x => HandSHeadRun.seenQ hq hnames (importedModules hR.prog.main.body) (fun s => PySem.W.xlAt hq [] s && PySem.W.recOk hR.toRowW.records s) x.2.abs) = some (PySem.W.openGood hq hnames) := by
  kernel_rfl
set_option maxHeartbeats 0 in
theorem hrun3 (w : World) : (HandSHeadRun.wholeF (fun p => HandSHeadRun.stepQ (HandSHeadRun.denQ HandSHeadRun.tabQ) p w) HandSHeadRun.fenceQ 12000 hR.prog).map (fun x => hob x.2) = some (hhook.val w) := by
  kernel_rfl
theorem map3 {α A B C : Type} {x : Option α} {f : α → A} {g : α → B} {h : α → C} {a : A} {b : B} {c : C} (h1 : x.map f = some a) (h2 : x.map g = some b) (h3 : x.map h = some c) : x.map (fun s => (f s, g s, h s)) = some (a, b, c) := by
  cases x with
  | none => cases h1
  | some y =>
    have e1 := Option.some.inj h1
    have e2 := Option.some.inj h2
    have e3 := Option.some.inj h3
    rw [← e1, ← e2, ← e3]
    rfl
theorem hrun (w : World) : HandSHeadRun.RunEqI hR hq hhook hob 12000 hnames w := map3 (hrun1 w) (hrun2 w) (hrun3 w)
end
end Mh
namespace Mh
open PySem L2
local macro_rules | `(tactic| walk_at "g") => `(tactic| repeat (first
  | refine ⟨_, rfl, ?_⟩
  | refine ⟨_, _, rfl, rfl, ?_⟩
  | refine ⟨_, _, _, _, rfl, rfl, SqL.of (by assumption), at0, ?_⟩
  | refine ⟨_, _, _, _, rfl, rfl, SqL.of (by assumption), at1, ?_⟩
  | refine ⟨_, _, _, _, rfl, rfl, SqT.of (by assumption), at0, ?_⟩
  | refine ⟨_, _, _, _, rfl, rfl, SqT.of (by assumption), at1, ?_⟩
  | refine ⟨_, _, rfl, .inl (SqL.of (by assumption)), ?_⟩
  | refine ⟨rfl, ?_⟩
  | refine iteT ?_
  | refine iteF ?_))
/-- what may be handed in: none, truths, numbers, texts, lists, tuples -/
inductive Odd (K : PySem.W.Frag) (H : Hp) : V → Prop where
  | non : Odd K H .non
  | bl (b : Bool) : Odd K H (.bl b)
  | int (i : Int) : Odd K H (.int i)
  | str (x : Str) : Odd K H (.str x)
  | lst {a : Addr} {xs : List V} (h : SqL K H a xs) : Odd K H (.ref a)
  | tup {a : Addr} {xs : List V} (h : SqT K H a xs) : Odd K H (.ref a)
theorem Odd.of {K : PySem.W.Frag} {H : Hp} {v : V} {d : PyData} (h : Dp K H v d) : Odd K H v := by
  cases h with
  | non => exact .non
  | bl b => exact .bl b
  | int i => exact .int i
  | str x => exact .str x
  | lst h _ => exact .lst h
  | tup h _ => exact .tup h
def isNum (lo hi : Int) : V → Bool
  | .int i => decide (lo ≤ i) && decide (i ≤ hi)
  | _ => false
def spIsNum (K : PySem.W.Frag) : Sp := fun vs H Q _ => ∃ (v : V) (lo hi : Int), vs = [v, .int lo, .int hi] ∧ Odd K H v ∧ Q (.bl (isNum lo hi v)) H
def spIs (K : PySem.W.Frag) (lo hi : Int) : Sp := fun vs H Q _ => ∃ (v : V), vs = [v] ∧ Odd K H v ∧ Q (.bl (isNum lo hi v)) H
section
variable {P : Program} {w : World} {K : PySem.W.Frag} {mg : Str → Option Value} {base : Heap} {A : Adr}
theorem ok_is_number (T : Txt K mg A) : FnOk P w K mg base CX0 1 A.is_number A.is_number_ ["value", "low", "high"] (spIsNum K) := by
  refine T.is_number.F.ok sc_is_number (fun vs H Q E h => ?_) (fun cdv Ar outer s H vs Q E hr h => ?_)
  · obtain ⟨v, lo, hi, rfl, _⟩ := h
    rfl
  · obtain ⟨v, lo, hi, rfl, od, k⟩ := h
    refine ⟨_, (pss_cons (ps_if (PW.pt (pw_or (pt_val (pe_callB call_isi (by rfl) T.n_isinstance PyProof.Rows.boot_isinstance (pa_cons (pv 0) (pa_cons (pe_bltn (v := .ty "bool") (by rfl) T.n_bool (by decide +kernel) rfl) pa_nil)))) (pw_or1 (pt_not (pt_val (pe_callB call_isi (by rfl) T.n_isinstance PyProof.Rows.boot_isinstance (pa_cons (pv 0) (pa_cons (pe_bltn (v := .ty "int") (by rfl) T.n_int (by decide +kernel) rfl) pa_nil))))))))
    (pss_one (ps_ret pe_bl))
    pss_nil)
    (pss_one (ps_ret (pe_chain op_le op_le (pv 1) (pv 0) (pv 2))))), ?_⟩
    refine ⟨v, rfl, ?_⟩
    cases od with
    | non =>
      refine ⟨_, _, .type "NoneType", _, false, rfl, .ty _, .base .non, kit_ty (by decide +kernel), _, rfl, ?_⟩
      refine ⟨_, rfl, _, _, .type "NoneType", _, false, rfl, .ty _, .base .non, kit_ty (by decide +kernel), _, rfl, ?_⟩
      exact k
    | bl b =>
      refine ⟨_, _, .type "bool", _, true, rfl, .ty _, .base (.bl b), kit_ty (by decide +kernel), _, rfl, ?_⟩
      exact k
    | int i =>
      refine ⟨_, _, .type "int", _, false, rfl, .ty _, .base (.int i), kit_ty (by decide +kernel), _, rfl, ?_⟩
      refine ⟨_, rfl, _, _, .type "int", _, true, rfl, .ty _, .base (.int i), kit_ty (by decide +kernel), _, rfl, ?_⟩
      refine iteF ?_
      refine ⟨_, rfl, _, rfl, _, _, rfl, rfl, _, rfl, ?_⟩
      have e : isNum lo hi (.int i) = (decide (lo ≤ i) && decide (i ≤ hi)) := rfl
      rw [e] at k
      cases h1 : decide (lo ≤ i) with
      | true =>
        rw [h1] at k
        refine ite2 (fun _ => ?_) (fun z => absurd rfl z)
        refine ⟨_, rfl, _, _, rfl, rfl, ?_⟩
        exact k
      | false =>
        rw [h1] at k
        exact iteF k
    | str x =>
      refine ⟨_, _, .type "str", _, false, rfl, .ty _, .base (.str x), kit_ty (by decide +kernel), _, rfl, ?_⟩
      refine ⟨_, rfl, _, _, .type "str", _, false, rfl, .ty _, .base (.str x), kit_ty (by decide +kernel), _, rfl, ?_⟩
      exact k
    | lst hl =>
      refine ⟨_, _, .type "list", _, false, rfl, .ty _, (ty_lst hl), kit_ty (by decide +kernel), _, rfl, ?_⟩
      refine ⟨_, rfl, _, _, .type "list", _, false, rfl, .ty _, (ty_lst hl), kit_ty (by decide +kernel), _, rfl, ?_⟩
      exact k
    | tup hl =>
      refine ⟨_, _, .type "tuple", _, false, rfl, .ty _, (ty_tupD hl), kit_ty (by decide +kernel), _, rfl, ?_⟩
      refine ⟨_, rfl, _, _, .type "tuple", _, false, rfl, .ty _, (ty_tupD hl), kit_ty (by decide +kernel), _, rfl, ?_⟩
      exact k
theorem ok_is_question (T : Txt K mg A) : FnOk P w K mg base CX0 2 A.is_question A.is_question_ ["value"] (spIs K 0 9999) := by
  refine T.is_question.F.ok sc_is_question (fun vs H Q E h => ?_) (fun cdv Ar outer s H vs Q E hr h => ?_)
  · obtain ⟨v, rfl, _⟩ := h
    rfl
  · obtain ⟨v, rfl, od, k⟩ := h
    refine ⟨_, (pss_one (ps_ret (pe_call (ok_is_number T) (hr.mono (by decide)) (by rfl) T.is_number.n T.is_number.F.kp T.is_number.b .nil pass0 (pa_cons (pv 0) (pa_cons pe_int (pa_cons (pe_gv (by rfl) T.c_LAST_QUESTION) pa_nil)))))), ?_⟩
    exact ⟨_, rfl, v, 0, 9999, rfl, od, k⟩
theorem ok_is_seed (T : Txt K mg A) : FnOk P w K mg base CX0 2 A.is_seed A.is_seed_ ["value"] (spIs K 0 999) := by
  refine T.is_seed.F.ok sc_is_seed (fun vs H Q E h => ?_) (fun cdv Ar outer s H vs Q E hr h => ?_)
  · obtain ⟨v, rfl, _⟩ := h
    rfl
  · obtain ⟨v, rfl, od, k⟩ := h
    refine ⟨_, (pss_one (ps_ret (pe_call (ok_is_number T) (hr.mono (by decide)) (by rfl) T.is_number.n T.is_number.F.kp T.is_number.b .nil pass0 (pa_cons (pv 0) (pa_cons pe_int (pa_cons (pe_gv (by rfl) T.c_LAST_SEED) pa_nil)))))), ?_⟩
    exact ⟨_, rfl, v, 0, 999, rfl, od, k⟩
theorem ok_is_divisor (T : Txt K mg A) : FnOk P w K mg base CX0 2 A.is_divisor A.is_divisor_ ["value"] (spIs K 2 99) := by
  refine T.is_divisor.F.ok sc_is_divisor (fun vs H Q E h => ?_) (fun cdv Ar outer s H vs Q E hr h => ?_)
  · obtain ⟨v, rfl, _⟩ := h
    rfl
  · obtain ⟨v, rfl, od, k⟩ := h
    refine ⟨_, (pss_one (ps_ret (pe_call (ok_is_number T) (hr.mono (by decide)) (by rfl) T.is_number.n T.is_number.F.kp T.is_number.b .nil pass0 (pa_cons (pv 0) (pa_cons (pe_gv (by rfl) T.c_LEAST_DIVISOR) (pa_cons (pe_gv (by rfl) T.c_MOST_DIVISOR) pa_nil)))))), ?_⟩
    exact ⟨_, rfl, v, 2, 99, rfl, od, k⟩
end
end Mh
namespace Mh
open PySem L2
local macro_rules | `(tactic| walk_at "g") => `(tactic| repeat (first
  | refine ⟨_, rfl, ?_⟩
  | refine ⟨_, _, rfl, rfl, ?_⟩
  | refine ⟨rfl, ?_⟩))
/-- a pattern of another length; of this length; another text; this text; a name -/
local macro_rules | `(tactic| walk_at "len-") => `(tactic| (refine ⟨_, _, rfl, (by assumption), ifn (by simp) ?_⟩))
local macro_rules | `(tactic| walk_at "len+") => `(tactic| (refine ⟨_, _, rfl, (by assumption), ifp rfl ?_⟩))
local macro_rules | `(tactic| walk_at "str-") => `(tactic| (refine ⟨_, _, rfl, rfl, ifn (by decide +kernel) ?_⟩))
local macro_rules | `(tactic| walk_at "str+") => `(tactic| (refine ⟨_, _, rfl, rfl, ifp rfl ?_⟩))
local macro_rules | `(tactic| walk_at "name") => `(tactic| (refine ⟨_, _, rfl, ?_⟩))
section
variable {K : PySem.W.Frag} {H : Hp}
/-! what stands at an address, test by test -/
theorem dp_1 {v : V} {x : Str} (h : Dp K H v (.tuple [.str x])) : ∃ a, v = .ref a ∧ SqT K H a [.str x] := by
  obtain ⟨a, xs, rfl, hs, ha⟩ := dp_tup h
  obtain ⟨u, r, rfl, h1, h2⟩ := dps_cons ha
  have e := dps_nil h2
  subst e
  have e := dp_str h1
  subst e
  exact ⟨a, rfl, hs⟩
theorem dp_2 {v : V} {x : Str} {d : PyData} (h : Dp K H v (.tuple [.str x, d])) : ∃ a u, v = .ref a ∧ SqT K H a [.str x, u] ∧ Dp K H u d := by
  obtain ⟨a, xs, rfl, hs, ha⟩ := dp_tup h
  obtain ⟨u, r, rfl, h1, h2⟩ := dps_cons ha
  obtain ⟨u2, r2, rfl, h3, h4⟩ := dps_cons h2
  have e := dps_nil h4
  subst e
  have e := dp_str h1
  subst e
  exact ⟨a, u2, rfl, hs, h3⟩
theorem dp_2i {v : V} {x : Str} {i : Int} (h : Dp K H v (.tuple [.str x, .int i])) : ∃ a, v = .ref a ∧ SqT K H a [.str x, .int i] := by
  obtain ⟨a, u, rfl, hs, h1⟩ := dp_2 h
  have e := dp_int h1
  subst e
  exact ⟨a, rfl, hs⟩
theorem dp_3i {v : V} {x : Str} {i j : Int} (h : Dp K H v (.tuple [.str x, .int i, .int j])) : ∃ a, v = .ref a ∧ SqT K H a [.str x, .int i, .int j] := by
  obtain ⟨a, xs, rfl, hs, ha⟩ := dp_tup h
  obtain ⟨u, r, rfl, h1, h2⟩ := dps_cons ha
  obtain ⟨u2, r2, rfl, h3, h4⟩ := dps_cons h2
  obtain ⟨u3, r3, rfl, h5, h6⟩ := dps_cons h4
  have e := dps_nil h6
  subst e
  have e := dp_str h1
  subst e
  have e := dp_int h3
  subst e
  have e := dp_int h5
  subst e
  exact ⟨a, rfl, hs⟩
theorem dp_pair {v : V} {d e : PyData} (h : Dp K H v (.tuple [d, e])) : ∃ a u z, v = .ref a ∧ SqT K H a [u, z] ∧ Dp K H u d ∧ Dp K H z e := by
  obtain ⟨a, xs, rfl, hs, ha⟩ := dp_tup h
  obtain ⟨u, r, rfl, h1, h2⟩ := dps_cons ha
  obtain ⟨u2, r2, rfl, h3, h4⟩ := dps_cons h2
  have e := dps_nil h4
  subst e
  exact ⟨a, u, u2, rfl, hs, h1, h3⟩
end
theorem dI {i j : Int} : decide (V.int i = V.int j) = decide (i = j) := by
  by_cases h : i = j
  · subst h
    rw [decide_eq_true rfl, decide_eq_true rfl]
  · rw [decide_eq_false h, decide_eq_false fun z => h (V.int.inj z)]
theorem inV_ints {ns : List Int} {q : Int} : inV (.int q) (ns.map V.int) = decide (q ∈ ns) := by
  unfold inV
  induction ns with
  | nil => simp
  | cons n ns ih =>
    rw [List.map_cons, List.any_cons, ih]
    by_cases e : q = n
    · subst e
      simp [eqV]
    · have e2 : ¬ n = q := fun z => e z.symm
      simp [eqV, e, e2]
theorem flat_ints {ns : List Int} : (ns.map V.int).all flatV = true := by
  rw [List.all_eq_true]
  intro x hx
  obtain ⟨n, _, rfl⟩ := List.mem_map.mp hx
  rfl
def spHolds (K : PySem.W.Frag) : Sp := fun vs H Q _ => ∃ (v : V) (t : Tst) (q s : Int), vs = [v, .int q, .int s] ∧ Dp K H v t.dt ∧ t.Ok ∧ Q (.bl (t.holds q s)) H
def spOut (K : PySem.W.Frag) : Sp := fun vs H Q _ => ∃ (v : V) (a : Asw) (q : Int), vs = [v, .int q] ∧ Dp K H v a.dt ∧ a.Ok ∧ Q (oV (a.out q)) H
def spRun (K : PySem.W.Frag) : Sp := fun vs H Q _ => ∃ (v : V) (m : Mach) (q s : Int), vs = [v, .int q, .int s] ∧ Dp K H v (machDt m) ∧ MachOk m ∧ Q (oV (tell q s m)) H
section
variable {P : Program} {w : World} {K : PySem.W.Frag} {mg : Str → Option Value} {base : Heap} {A : Adr}
theorem ok_does_hold (T : Txt K mg A) : FnOk P w K mg base CX0 1 A.does_hold A.does_hold_ ["test", "question", "seed"] (spHolds K) := by
  refine T.does_hold.F.ok sc_does_hold (fun vs H Q E h => ?_) (fun cdv Ar outer s H vs Q E hr h => ?_)
  · obtain ⟨v, t, q, s, rfl, _⟩ := h
    rfl
  · obtain ⟨v, t, q, z, rfl, hv, ho, k⟩ := h
    refine ⟨_, (pss_one (ps_match (pv 0) (pcs_cons [] sc_does_hold.nd own0 (pp_seq (ppq_cons pp_str ppq_nil)) (pss_one (ps_ret pe_bl))
    (pcs_cons [("bound", 3)] sc_does_hold.nd (ownC ⟨rfl, Or.inl rfl, Or.inl rfl⟩ own0) (pp_seq (ppq_cons pp_str (ppq_cons pp_name ppq_nil))) (pss_one (ps_ret (pe_cmpR op_lt (pv 1) (pv 3) (nomark _))))
    (pcs_cons [("divisor", 4), ("rest", 5)] sc_does_hold.nd (ownC ⟨rfl, Or.inl rfl, Or.inl rfl⟩ (ownC ⟨rfl, Or.inl rfl, Or.inl rfl⟩ own0)) (pp_seq (ppq_cons pp_str (ppq_cons pp_name (ppq_cons pp_name ppq_nil)))) (pss_one (ps_ret (pe_cmpR op_eq (pe_op op_mod (pv 1) (pv 4)) (pv 5) (nomark _))))
    (pcs_cons [("divisor", 4), ("rest", 5)] sc_does_hold.nd (ownC ⟨rfl, Or.inl rfl, Or.inl rfl⟩ (ownC ⟨rfl, Or.inl rfl, Or.inl rfl⟩ own0)) (pp_seq (ppq_cons pp_str (ppq_cons pp_name (ppq_cons pp_name ppq_nil)))) (pss_one (ps_ret (pe_cmpR op_eq (pe_op op_mod (pe_op op_add (pe_op op_mul pe_int (pv 1)) (pe_op op_mul pe_int (pv 2))) (pv 4)) (pv 5) (nomark _))))
    (pcs_cons [("numbers", 6)] sc_does_hold.nd (ownC ⟨rfl, Or.inl rfl, Or.inl rfl⟩ own0) (pp_seq (ppq_cons pp_str (ppq_cons pp_name ppq_nil))) (pss_one (ps_ret (pe_cmpR op_in_seq (pv 1) (pv 6) (by rfl))))
    (pcs_cons [] sc_does_hold.nd own0 pp_any (pss_one (ps_ret pe_bl))
    pcs_nil)))))))), ?_⟩
    refine ⟨_, rfl, ?_⟩
    cases t with
    | any =>
      obtain ⟨a, rfl, hs⟩ := dp_1 hv
      walk_at "len+"
      walk_at "str+"
      exact ⟨rfl, k⟩
    | below n =>
      obtain ⟨a, rfl, hs⟩ := dp_2i hv
      walk_at "len-"
      walk_at "len+"
      walk_at "str+"
      walk_at "name"
      refine ⟨rfl, ?_⟩
      walk_at "g"
      exact k
    | rest m r =>
      obtain ⟨a, rfl, hs⟩ := dp_3i hv
      walk_at "len-"
      walk_at "len-"
      walk_at "len+"
      walk_at "str+"
      walk_at "name"
      walk_at "name"
      refine ⟨rfl, ?_⟩
      walk_at "g"
      refine ⟨by have := ho.1; show 0 < m; omega, ?_⟩
      walk_at "g"
      show Q (.bl (decide (V.int (q % m) = V.int r))) H
      rw [dI]
      exact k
    | chance m r =>
      obtain ⟨a, rfl, hs⟩ := dp_3i hv
      walk_at "len-"
      walk_at "len-"
      walk_at "len+"
      walk_at "str-"
      walk_at "len+"
      walk_at "str+"
      walk_at "name"
      walk_at "name"
      refine ⟨rfl, ?_⟩
      refine ⟨_, rfl, _, _, rfl, rfl, .inl (by decide), _, rfl, _, _, rfl, rfl, .inl (by decide), ?_⟩
      walk_at "g"
      refine ⟨by have := ho.1; show 0 < m; omega, ?_⟩
      walk_at "g"
      show Q (.bl (decide (V.int ((7 * q + 13 * z) % m) = V.int r))) H
      rw [dI]
      exact k
    | known ks =>
      obtain ⟨a, u, rfl, hs, hu⟩ := dp_2 hv
      obtain ⟨b, xs, rfl, hb, hx⟩ := dp_tup hu
      have e := dps_ints hx
      subst e
      walk_at "len-"
      walk_at "len+"
      walk_at "str-"
      walk_at "len-"
      walk_at "len-"
      walk_at "len+"
      walk_at "str+"
      walk_at "name"
      refine ⟨rfl, ?_⟩
      refine ⟨_, rfl, _, rfl, b, _, rfl, .inr hb, rfl, flat_ints, ?_⟩
      show Q (.bl (inV (.int q) (ks.map V.int))) H
      rw [inV_ints]
      exact k
theorem ok_outcome (T : Txt K mg A) : FnOk P w K mg base CX0 1 A.outcome A.outcome_ ["answer", "question"] (spOut K) := by
  refine T.outcome.F.ok sc_outcome (fun vs H Q E h => ?_) (fun cdv Ar outer s H vs Q E hr h => ?_)
  · obtain ⟨v, t, q, rfl, _⟩ := h
    rfl
  · obtain ⟨v, t, q, rfl, hv, ho, k⟩ := h
    refine ⟨_, (pss_one (ps_match (pv 0) (pcs_cons [("number", 2)] sc_outcome.nd (ownC ⟨rfl, Or.inl rfl, Or.inl rfl⟩ own0) (pp_seq (ppq_cons pp_str (ppq_cons pp_name ppq_nil))) (pss_one (ps_ret (pv 2)))
    (pcs_cons [("number", 2)] sc_outcome.nd (ownC ⟨rfl, Or.inl rfl, Or.inl rfl⟩ own0) (pp_seq (ppq_cons pp_str (ppq_cons pp_name ppq_nil))) (pss_one (ps_ret (pe_op op_add (pv 1) (pv 2))))
    (pcs_cons [("number", 2)] sc_outcome.nd (ownC ⟨rfl, Or.inl rfl, Or.inl rfl⟩ own0) (pp_seq (ppq_cons pp_str (ppq_cons pp_name ppq_nil))) (pss_one (ps_ret (pe_op op_mul (pv 1) (pv 2))))
    (pcs_cons [("divisor", 3)] sc_outcome.nd (ownC ⟨rfl, Or.inl rfl, Or.inl rfl⟩ own0) (pp_seq (ppq_cons pp_str (ppq_cons pp_name ppq_nil))) (pss_one (ps_ret (pe_op op_mod (pv 1) (pv 3))))
    (pcs_cons [] sc_outcome.nd own0 pp_any (pss_one (ps_ret pe_non))
    pcs_nil))))))), ?_⟩
    refine ⟨_, rfl, ?_⟩
    cases t with
    | num n =>
      obtain ⟨a, rfl, hs⟩ := dp_2i hv
      walk_at "len+"
      walk_at "str+"
      walk_at "name"
      exact ⟨rfl, _, rfl, k⟩
    | plus n =>
      obtain ⟨a, rfl, hs⟩ := dp_2i hv
      walk_at "len+"
      walk_at "str-"
      walk_at "len+"
      walk_at "str+"
      walk_at "name"
      exact ⟨rfl, _, rfl, _, rfl, _, _, rfl, rfl, k⟩
    | times n =>
      obtain ⟨a, rfl, hs⟩ := dp_2i hv
      walk_at "len+"
      walk_at "str-"
      walk_at "len+"
      walk_at "str-"
      walk_at "len+"
      walk_at "str+"
      walk_at "name"
      exact ⟨rfl, _, rfl, _, rfl, _, _, rfl, rfl, .inr ⟨by have := ho.1; omega, by have := ho.2; omega⟩, k⟩
    | rest m =>
      obtain ⟨a, rfl, hs⟩ := dp_2i hv
      walk_at "len+"
      walk_at "str-"
      walk_at "len+"
      walk_at "str-"
      walk_at "len+"
      walk_at "str-"
      walk_at "len+"
      walk_at "str+"
      walk_at "name"
      exact ⟨rfl, _, rfl, _, rfl, _, _, rfl, rfl, (by have := ho.1; show 0 < m; omega), k⟩
    | non =>
      obtain ⟨a, rfl, hs⟩ := dp_1 hv
      walk_at "len-"
      walk_at "len-"
      walk_at "len-"
      walk_at "len-"
      exact ⟨rfl, k⟩
end
end Mh
namespace Mh
open PySem L2
local macro_rules | `(tactic| walk_at "g") => `(tactic| repeat (first
  | refine ⟨_, rfl, ?_⟩
  | refine ⟨_, _, rfl, rfl, ?_⟩
  | refine ⟨rfl, ?_⟩))
theorem row_at {K : PySem.W.Frag} {H : Hp} {vs : List V} {m : Mach} {i : Nat} {x : V} (ha : DpAll K H vs (m.map rowDt)) (hi : vs[i]? = some x) :
    ∃ t a, m[i]? = some (t, a) ∧ ∃ p u z, x = .ref p ∧ SqT K H p [u, z] ∧ Dp K H u t.dt ∧ Dp K H z a.dt := by
  obtain ⟨d, h1, h2⟩ := dps_get ha hi
  rw [List.getElem?_map] at h1
  cases e : m[i]? with
  | none =>
    rw [e] at h1
    cases h1
  | some r =>
    rw [e] at h1
    have e2 : rowDt r = d := Option.some.inj h1
    subst e2
    exact ⟨r.1, r.2, rfl, dp_pair h2⟩
theorem drop_at {α : Type} {m : List α} {i : Nat} {r : α} (h : m[i]? = some r) : m.drop i = r :: m.drop (i + 1) := by
  obtain ⟨h1, h2⟩ := List.getElem?_eq_some_iff.mp h
  rw [List.drop_eq_getElem_cons h1, h2]
section
variable {P : Program} {w : World} {K : PySem.W.Frag} {mg : Str → Option Value} {base : Heap} {A : Adr}
theorem ok_run (T : Txt K mg A) : FnOk P w K mg base CX0 2 A.run A.run_ ["machine", "question", "seed"] (spRun K) := by
  refine T.run.F.ok sc_run (fun vs H Q E h => ?_) (fun cdv Ar outer s H vs Q E hr h => ?_)
  · obtain ⟨v, t, q, z, rfl, _⟩ := h
    rfl
  · obtain ⟨v, m, q, z, rfl, hv, ho, k⟩ := h
    obtain ⟨p, vs, rfl, hs, ha⟩ := dp_tup hv
    refine ⟨_, (pss_cons (ps_for PassesOwn.never rfl (pi_tup (pv 0)) (pg_tup rfl (pgs_cons (pg_name (i := 3) sc_run.nd rfl (Or.inl rfl)) (pgs_cons (pg_name (i := 4) sc_run.nd rfl (Or.inl rfl)) pgs_nil)))
    (pss_one (ps_if (pt_val (pe_call (ok_does_hold T) (hr.mono (by decide)) (by rfl) T.does_hold.n T.does_hold.F.kp T.does_hold.b .nil pass0 (pa_cons (pv 3) (pa_cons (pv 1) (pa_cons (pv 2) pa_nil)))))
    (pss_one (ps_ret (pe_call (ok_outcome T) (hr.mono (by decide)) (by rfl) T.outcome.n T.outcome.F.kp T.outcome.b .nil pass0 (pa_cons (pv 4) (pa_cons (pv 1) pa_nil)))))
    pss_nil)))
    (pss_one (ps_ret pe_non))), ?_⟩
    refine ⟨_, rfl, p, rfl, ⟨vs, hs⟩, for_tup (K := K) (a := p) (xs := vs) (fun i σ H' => H' = H ∧ (∃ x y, σ = [some (.ref p), some (.int q), some (.int z), x, y]) ∧ tell q z m = tell q z (m.drop i)) ⟨rfl, ⟨_, _, rfl⟩, rfl⟩
      (fun i σ H' _ ⟨e, _⟩ => by rw [e]; exact hs) ?_ ?_⟩
    · rintro i x σ H' hi ⟨rfl, ⟨y1, y2, rfl⟩, et⟩
      obtain ⟨t, a, hm, b, u, y, rfl, hb, hu, hy⟩ := row_at ha hi
      obtain ⟨ok1, ok2⟩ := ho.2.2 _ (List.mem_of_getElem? hm)
      rw [drop_at hm] at et
      refine ⟨b, _, rfl, hb, rfl, _, _, rfl, _, _, rfl, rfl, ?_⟩
      refine ⟨_, rfl, _, rfl, _, rfl, u, t, q, z, rfl, hu, ok1, _, rfl, ?_⟩
      refine ite2 (fun e => ?_) (fun e => ?_)
      · refine ⟨_, rfl, _, rfl, y, a, q, rfl, hy, ok2, ?_⟩
        have e2 : tell q z m = a.out q := by
          rw [et]
          show (if t.holds q z = true then a.out q else _) = _
          rw [if_pos e]
        rw [← e2]
        exact k
      · refine ⟨rfl, ⟨_, _, rfl⟩, ?_⟩
        rw [et]
        show (if t.holds q z = true then a.out q else _) = _
        rw [if_neg e]
    · rintro σ H' ⟨rfl, ⟨y1, y2, rfl⟩, et⟩
      have hl : vs.length = m.length := by
        have e := dps_len ha
        rwa [List.length_map] at e
      rw [hl, List.drop_length] at et
      rw [et] at k
      exact k
end
def spKnown (K : PySem.W.Frag) : Sp := fun vs H Q _ => ∃ (a : Addr) (ks : List Int), vs = [.ref a] ∧ SqT K H a (ks.map V.int) ∧ (Tst.known ks).Ok ∧ ∀ H', Same H H' → Q (.bl true) H'
def spTst (K : PySem.W.Frag) : Sp := fun vs H Q _ => ∃ (v : V) (t : Tst), vs = [v] ∧ Dp K H v t.dt ∧ t.Ok ∧ ∀ H', Same H H' → Q (.bl true) H'
def spAsw (K : PySem.W.Frag) : Sp := fun vs H Q _ => ∃ (v : V) (t : Asw), vs = [v] ∧ Dp K H v t.dt ∧ t.Ok ∧ ∀ H', Same H H' → Q (.bl true) H'
def spRow (K : PySem.W.Frag) : Sp := fun vs H Q _ => ∃ (v : V) (r : Tst × Asw), vs = [v] ∧ Dp K H v (rowDt r) ∧ r.1.Ok ∧ r.2.Ok ∧ ∀ H', Same H H' → Q (.bl true) H'
end Mh
namespace Mh
open PySem L2
local macro_rules | `(tactic| walk_at "g") => `(tactic| repeat (first
  | refine ⟨_, rfl, ?_⟩
  | refine ⟨_, _, rfl, rfl, ?_⟩
  | refine ⟨rfl, ?_⟩))
theorem ty_tup {K : PySem.W.Frag} {H : Hp} {a : Addr} {xs : List V} (h : SqT K H a xs) : TyX K H (.ref a) (.type "tuple") := by
  rcases h with h | h
  · rcases h with h | ⟨o, h⟩
    · exact .base (.tup h)
    · exact .fTuple h
  · obtain ⟨o, its, n, h1, h2, _⟩ := h
    exact .kTuple h1 h2
theorem walk_zipT {K : PySem.W.Frag} {a b : Addr} {xs ys : List V} {n : Nat} (hn : n = min xs.length ys.length) : Walk (RZ.ItzT K a b) n (fun H => SqT K H a xs ∧ SqT K H b ys) (YPair (fun i => xs[i]?) (fun i => ys[i]?)) := by
  subst hn
  refine ⟨fun i _ hi q => ?_, fun _ q => ⟨xs, ys, q.1, q.2, by omega⟩, fun i H v H' _ q y => ?_⟩
  · exact ⟨xs, ys, xs[i]'(by omega), ys[i]'(by omega), q.1, q.2, by simp [show i < xs.length by omega], by simp [show i < ys.length by omega]⟩
  · obtain ⟨p, x, z, h1, h2, h3, h4, h5⟩ := y
    exact ⟨p, x, z, h1, h2, h3, h4 xs q.1, h5 ys q.2⟩
theorem yes_ {σ : St} {H : Hp} {Q : Bool → Hp → Prop} (h : Q true H) : tYes σ H Q := h
theorem int_at {ks : List Int} {i : Nat} {x : V} (h : (ks.map V.int)[i]? = some x) : ∃ z, ks[i]? = some z ∧ x = .int z := by
  rw [List.getElem?_map] at h
  cases e : ks[i]? with
  | none =>
    rw [e] at h
    cases h
  | some z =>
    rw [e] at h
    exact ⟨z, rfl, (Option.some.inj h).symm⟩
theorem same_put {H H1 : Hp} {p : Addr} {o : HO} (a : Same H H1) (h : H p = none) : Same H (upd H1 p o) := fun b u e => by
  rw [upd_ne (ne_of_none e h)]
  exact a b u e
section
variable {P : Program} {w : World} {K : PySem.W.Frag} {mg : Str → Option Value} {base : Heap} {A : Adr}
theorem ok_is_known (T : Txt K mg A) : FnOk P w K mg base CX0 3 A.is_known A.is_known_ ["numbers"] (spKnown K) := by
  refine T.is_known.F.ok sc_is_known (fun vs H Q E h => ?_) (fun cdv Ar outer s H vs Q E hr h => ?_)
  · obtain ⟨v, t, rfl, _⟩ := h
    rfl
  · obtain ⟨a, ks, rfl, hs, ⟨l1, l8, pw, hk⟩, k⟩ := h
    refine ⟨_, (pss_cons (ps_if (PW.pt (pw_or (pt_not (pt_val (pe_callB call_isi (by rfl) T.n_isinstance PyProof.Rows.boot_isinstance (pa_cons (pv 0) (pa_cons (pe_bltn (v := .ty "tuple") (by rfl) T.n_tuple PyProof.Rows.boot_tuple rfl) pa_nil))))) (pw_or1 (pt_not (pt_chain op_le op_le pe_int (pe_callB call_len_seq (by rfl) T.n_len PySem.boot_len (pa_cons (pv 0) pa_nil)) (pe_gv (by rfl) T.c_MOST_KNOWN))))))
    (pss_one (ps_ret pe_bl))
    pss_nil)
    (pss_cons (ps_if (pt_not (pt_val (pe_callB (cr_all rfl) (by rfl) T.n_all PyProof.Rows.boot_all (pa_cons (pe_lc (own := [("number", 3)]) (g := gName 3) (tt := tYes) rfl sc_is_known.nd (pi_tup (pv 0)) (blkOk_by (N := N_is_known) (sc := defScope s_is_known) (by decide +kernel)) (fun _ _ _ _ _ => pg_name (i := 3) sc_is_known.nd rfl (Or.inl rfl) (hf := Or.inr rfl)) (fun _ _ _ _ _ => pts_nil) (fun _ _ _ _ _ => (pe_call (ok_is_question T) (hr.mono (by decide)) (by rfl) T.is_question.n T.is_question.F.kp T.is_question.b .nil pass0 (pa_cons (pv 3) pa_nil)))) pa_nil))))
    (pss_one (ps_ret pe_bl))
    pss_nil)
    (pss_one (ps_ret (pe_callB (cr_all rfl) (by rfl) T.n_all PyProof.Rows.boot_all (pa_cons (pe_lc (own := [("one", 1), ("other", 2)]) (g := gTup K 2 (gCons (gName 1) (gCons (gName 2) gNil))) (tt := tYes) rfl sc_is_known.nd (RZ.pi_zipA (by rfl) T.n_zip (pa_cons (pv 0) (pa_cons (pe_slice sl_tup (pv 0) (po_some pe_int) po_none) pa_nil))) (blkOk_by (N := N_is_known) (sc := defScope s_is_known) (by decide +kernel)) (fun _ _ _ _ _ => pg_tup rfl (pgs_cons (pg_name (i := 1) sc_is_known.nd rfl (Or.inl rfl) (hf := Or.inr rfl)) (pgs_cons (pg_name (i := 2) sc_is_known.nd rfl (Or.inl rfl) (hf := Or.inr rfl)) pgs_nil))) (fun _ _ _ _ _ => pts_nil) (fun _ _ _ _ _ => (pe_cmpR op_lt (pv 1) (pv 2) (nomark _)))) pa_nil)))))), ?_⟩
    refine ⟨_, rfl, _, _, .type "tuple", _, true, rfl, .ty _, ty_tup hs, kit_ty (by decide +kernel), _, rfl, ?_⟩
    refine iteF ?_
    refine ⟨_, rfl, a, _, rfl, .inr hs, _, _, rfl, rfl, _, rfl, ?_⟩
    refine ifp (by rw [List.length_map]; exact decide_eq_true (by omega)) ?_
    refine ⟨_, _, rfl, rfl, _, rfl, ?_⟩
    refine ifn (by rw [List.length_map, decide_eq_true (show ((ks.length : Nat) : Int) ≤ 8 by omega)]; simp) ?_
    refine ⟨_, rfl, a, rfl, ⟨_, hs⟩, fun D hD => lc_tup (K := K) (a := a) (xs := ks.map V.int) (fun i H' => Same H H' ∧ H' D = some (.lst ((List.replicate i true).map V.bl))) ⟨(Bt.new (S := []) hD).same, upd_same⟩ (fun i H' _ p => KT.same p.1 _ _ hs) ?_ ?_⟩
    · rintro i x H' hi ⟨sm, hl⟩
      obtain ⟨z, hz, rfl⟩ := int_at hi
      have hz2 := hk z (List.mem_of_getElem? hz)
      have il : i < ks.length := (List.getElem?_eq_some_iff.mp hz).1
      refine ⟨rfl, ?_⟩
      refine yes_ ?_
      refine iteT ?_
      refine ⟨_, rfl, _, rfl, .int z, _, hl, ?_, same_put sm hD, ?_⟩
      · rw [List.length_map, List.length_replicate, sizeLine_eq]
        omega
      · have e : isNum 0 9999 (.int z) = true := by simp [isNum, hz2.1, hz2.2]
        rw [e, upd_same, List.replicate_succ', List.map_append]
        rfl
    · rintro H1 ⟨sm, hl⟩
      refine ⟨D, _, rfl, SqL.of hl, _, rfl, ?_⟩
      refine ifn (by simp) ?_
      have hs1 := KT.same sm _ _ hs
      refine ⟨_, rfl, _, rfl, ⟨_, rfl, a, _, rfl, hs1, ?_, fun p hp => ?_⟩⟩
      · rw [show (some (1 : Int)) = some ((1 : Nat) : Int) from rfl, HT.sIx_nat, List.length_map]
        omega
      have hc : cutV (ks.map V.int) (some 1) none = (ks.drop 1).map V.int := by
        unfold cutV
        rw [show (some (1 : Int)) = some ((1 : Nat) : Int) from rfl, HT.sIx_nat, HT.sIx_none, List.length_map, Nat.min_eq_left l1, List.map_drop]
        exact List.take_of_length_le (by simp)
      rw [hc]
      have sm2 : Same H (upd H1 p (.tup ((ks.drop 1).map V.int))) := same_put sm (sm.free hp)
      refine ⟨a, p, _, _, rfl, .inr ⟨KT.same sm2 _ _ hs, SqT.of upd_same, fun D2 hD2 => ?_⟩⟩
      have hn : ks.length - 1 = min (ks.map V.int).length ((ks.drop 1).map V.int).length := by
        simp only [List.length_map, List.length_drop]
        omega
      refine lc_it (walk_zipT hn) (fun i H' => Same (upd H1 p (.tup ((ks.drop 1).map V.int))) H' ∧ H' D2 = some (.lst ((List.replicate i true).map V.bl))) ⟨(Bt.new (S := []) hD2).same, upd_same⟩
        (fun i H' _ q => ⟨KT.same (sm2.trans q.1) _ _ hs, KT.same q.1 _ _ (SqT.of upd_same)⟩) ?_ ?_
      · rintro i x H2 H3 hi ⟨sm3, hl3⟩ ⟨b, x1, x2, rfl, hb, rfl, hx1, hx2⟩
        obtain ⟨z1, hz1, rfl⟩ := int_at hx1
        obtain ⟨z2, hz2, rfl⟩ := int_at hx2
        have hlt : z1 < z2 := by
          rw [List.getElem?_drop] at hz2
          obtain ⟨g1, e1⟩ := List.getElem?_eq_some_iff.mp hz1
          obtain ⟨g2, e2⟩ := List.getElem?_eq_some_iff.mp hz2
          have q := List.pairwise_iff_getElem.mp pw i (1 + i) g1 g2 (by omega)
          rw [e1, e2] at q
          exact q
        have nb : D2 ≠ b := ne_of_none hl3 hb
        refine ⟨b, _, rfl, SqT.of upd_same, rfl, _, _, rfl, _, _, rfl, rfl, ?_⟩
        refine ⟨rfl, ?_⟩
        refine yes_ ?_
        refine iteT ?_
        refine ⟨_, rfl, _, rfl, _, _, rfl, rfl, _, (upd_ne nb).trans hl3, ?_, same_put (same_put sm3 (sm3.free hb)) hD2, ?_⟩
        · rw [List.length_map, List.length_replicate, sizeLine_eq]
          omega
        · show upd _ D2 (.lst (_ ++ [V.bl (decide (z1 < z2))])) D2 = _
          rw [decide_eq_true hlt, upd_same, List.replicate_succ', List.map_append]
          rfl
      · rintro H2 ⟨sm3, hl3⟩
        refine ⟨D2, _, rfl, SqL.of hl3, ?_⟩
        have e : (List.replicate (ks.length - 1) true).all id = true := by simp
        rw [e]
        exact k _ (sm2.trans sm3)
end
end Mh
namespace Mh
open PySem L2
local macro_rules | `(tactic| walk_at "len-") => `(tactic| (refine ⟨_, _, rfl, (by assumption), ifn (by simp) ?_⟩))
local macro_rules | `(tactic| walk_at "len+") => `(tactic| (refine ⟨_, _, rfl, (by assumption), ifp rfl ?_⟩))
local macro_rules | `(tactic| walk_at "str-") => `(tactic| (refine ⟨_, _, rfl, rfl, ifn (by decide +kernel) ?_⟩))
local macro_rules | `(tactic| walk_at "str+") => `(tactic| (refine ⟨_, _, rfl, rfl, ifp rfl ?_⟩))
local macro_rules | `(tactic| walk_at "name") => `(tactic| (refine ⟨_, _, rfl, ?_⟩))
theorem isNum_t {lo hi i : Int} (h1 : lo ≤ i) (h2 : i ≤ hi) : isNum lo hi (.int i) = true := by simp [isNum, h1, h2]
def spMach (K : PySem.W.Frag) : Sp := fun vs H Q _ => ∃ (v : V) (m : Mach), vs = [v] ∧ Dp K H v (machDt m) ∧ MachOk m ∧ ∀ H', Same H H' → Q .non H'
def spChk (lo hi : Int) : Sp := fun vs H Q _ => ∃ (i : Int), vs = [.int i] ∧ lo ≤ i ∧ i ≤ hi ∧ Q .non H
def spAnswered (K : PySem.W.Frag) : Sp := fun vs H Q _ => ∃ (v : V) (m : Mach) (q s : Int), vs = [v, .int q, .int s] ∧ Dp K H v (machDt m) ∧ MachOk m ∧ 0 ≤ q ∧ q ≤ 9999 ∧ 0 ≤ s ∧ s ≤ 999 ∧ ∀ H', Same H H' → Q (oV (tell q s m)) H'
section
variable {P : Program} {w : World} {K : PySem.W.Frag} {mg : Str → Option Value} {base : Heap} {A : Adr}
theorem ok_is_test (T : Txt K mg A) : FnOk P w K mg base CX0 4 A.is_test A.is_test_ ["test"] (spTst K) := by
  refine T.is_test.F.ok sc_is_test (fun vs H Q E h => ?_) (fun cdv Ar outer s H vs Q E hr h => ?_)
  · obtain ⟨v, t, rfl, _⟩ := h
    rfl
  · obtain ⟨v, t, rfl, hv, ho, k⟩ := h
    have k0 := k H (Same.refl H)
    refine ⟨_, (pss_cons (ps_if (pt_not (pt_val (pe_callB call_isi (by rfl) T.n_isinstance PyProof.Rows.boot_isinstance (pa_cons (pv 0) (pa_cons (pe_bltn (v := .ty "tuple") (by rfl) T.n_tuple PyProof.Rows.boot_tuple rfl) pa_nil)))))
    (pss_one (ps_ret pe_bl))
    pss_nil)
    (pss_one (ps_match (pv 0) (pcs_cons [] sc_is_test.nd own0 (pp_seq (ppq_cons pp_str ppq_nil)) (pss_one (ps_ret pe_bl))
    (pcs_cons [("bound", 1)] sc_is_test.nd (ownC ⟨rfl, Or.inl rfl, Or.inl rfl⟩ own0) (pp_seq (ppq_cons pp_str (ppq_cons pp_name ppq_nil))) (pss_one (ps_ret (pe_call (ok_is_question T) (hr.mono (by decide)) (by rfl) T.is_question.n T.is_question.F.kp T.is_question.b .nil pass0 (pa_cons (pv 1) pa_nil))))
    (pcs_cons [("divisor", 2), ("rest", 3)] sc_is_test.nd (ownC ⟨rfl, Or.inl rfl, Or.inl rfl⟩ (ownC ⟨rfl, Or.inl rfl, Or.inl rfl⟩ own0)) (pp_seq (ppq_cons (pp_or (ppo_cons pp_str (ppo_cons pp_str ppo_nil))) (ppq_cons pp_name (ppq_cons pp_name ppq_nil)))) (pss_one (ps_ret (pe_and (pe_call (ok_is_divisor T) (hr.mono (by decide)) (by rfl) T.is_divisor.n T.is_divisor.F.kp T.is_divisor.b .nil pass0 (pa_cons (pv 2) pa_nil)) (pe_one (pe_call (ok_is_number T) (hr.mono (by decide)) (by rfl) T.is_number.n T.is_number.F.kp T.is_number.b .nil pass0 (pa_cons (pv 3) (pa_cons pe_int (pa_cons (pe_op op_sub (pv 2) pe_int) pa_nil))))))))
    (pcs_cons [("numbers", 4)] sc_is_test.nd (ownC ⟨rfl, Or.inl rfl, Or.inl rfl⟩ own0) (pp_seq (ppq_cons pp_str (ppq_cons pp_name ppq_nil))) (pss_one (ps_ret (pe_call (ok_is_known T) (hr.mono (by decide)) (by rfl) T.is_known.n T.is_known.F.kp T.is_known.b .nil pass0 (pa_cons (pv 4) pa_nil))))
    (pcs_cons [] sc_is_test.nd own0 pp_any (pss_one (ps_ret pe_bl))
    pcs_nil)))))))), ?_⟩
    cases t with
    | any =>
      obtain ⟨a, rfl, hs⟩ := dp_1 hv
      refine ⟨_, rfl, _, _, .type "tuple", _, true, rfl, .ty _, ty_tup hs, kit_ty (by decide +kernel), _, rfl, ?_⟩
      refine iteF ?_
      refine ⟨_, rfl, ?_⟩
      walk_at "len+"
      walk_at "str+"
      exact ⟨rfl, k0⟩
    | below n =>
      obtain ⟨a, rfl, hs⟩ := dp_2i hv
      refine ⟨_, rfl, _, _, .type "tuple", _, true, rfl, .ty _, ty_tup hs, kit_ty (by decide +kernel), _, rfl, ?_⟩
      refine iteF ?_
      refine ⟨_, rfl, ?_⟩
      walk_at "len-"
      walk_at "len+"
      walk_at "str+"
      walk_at "name"
      refine ⟨rfl, _, rfl, _, rfl, .int n, ?_⟩
      rw [isNum_t ho.1 ho.2]
      exact k0
    | rest m r =>
      obtain ⟨h1, h2, h3, h4⟩ := ho
      obtain ⟨a, rfl, hs⟩ := dp_3i hv
      refine ⟨_, rfl, _, _, .type "tuple", _, true, rfl, .ty _, ty_tup hs, kit_ty (by decide +kernel), _, rfl, ?_⟩
      refine iteF ?_
      refine ⟨_, rfl, ?_⟩
      walk_at "len-"
      walk_at "len-"
      walk_at "len+"
      walk_at "str+"
      walk_at "name"
      walk_at "name"
      refine ⟨rfl, _, rfl, _, rfl, .int m, ?_⟩
      rw [isNum_t h1 h2]
      refine ⟨_, rfl, ?_⟩
      refine iteT ?_
      refine ⟨_, rfl, _, rfl, _, _, rfl, rfl, _, _, _, rfl, .int r, ?_⟩
      rw [isNum_t h3 (by omega)]
      exact k0
    | chance m r =>
      obtain ⟨h1, h2, h3, h4⟩ := ho
      obtain ⟨a, rfl, hs⟩ := dp_3i hv
      refine ⟨_, rfl, _, _, .type "tuple", _, true, rfl, .ty _, ty_tup hs, kit_ty (by decide +kernel), _, rfl, ?_⟩
      refine iteF ?_
      refine ⟨_, rfl, ?_⟩
      walk_at "len-"
      walk_at "len-"
      walk_at "len+"
      walk_at "str-"
      refine ⟨rfl, ifp rfl ?_⟩
      walk_at "name"
      walk_at "name"
      refine ⟨rfl, _, rfl, _, rfl, .int m, ?_⟩
      rw [isNum_t h1 h2]
      refine ⟨_, rfl, ?_⟩
      refine iteT ?_
      refine ⟨_, rfl, _, rfl, _, _, rfl, rfl, _, _, _, rfl, .int r, ?_⟩
      rw [isNum_t h3 (by omega)]
      exact k0
    | known ks =>
      obtain ⟨a, u, rfl, hs, hu⟩ := dp_2 hv
      obtain ⟨b, xs, rfl, hb, hx⟩ := dp_tup hu
      have e := dps_ints hx
      subst e
      refine ⟨_, rfl, _, _, .type "tuple", _, true, rfl, .ty _, ty_tup hs, kit_ty (by decide +kernel), _, rfl, ?_⟩
      refine iteF ?_
      refine ⟨_, rfl, ?_⟩
      walk_at "len-"
      walk_at "len+"
      walk_at "str-"
      walk_at "len-"
      walk_at "len+"
      walk_at "str+"
      walk_at "name"
      exact ⟨rfl, _, rfl, b, ks, rfl, hb, ho, k⟩
theorem ok_is_answer (T : Txt K mg A) : FnOk P w K mg base CX0 4 A.is_answer A.is_answer_ ["answer"] (spAsw K) := by
  refine T.is_answer.F.ok sc_is_answer (fun vs H Q E h => ?_) (fun cdv Ar outer s H vs Q E hr h => ?_)
  · obtain ⟨v, t, rfl, _⟩ := h
    rfl
  · obtain ⟨v, t, rfl, hv, ho, k⟩ := h
    have k0 := k H (Same.refl H)
    refine ⟨_, (pss_cons (ps_if (pt_not (pt_val (pe_callB call_isi (by rfl) T.n_isinstance PyProof.Rows.boot_isinstance (pa_cons (pv 0) (pa_cons (pe_bltn (v := .ty "tuple") (by rfl) T.n_tuple PyProof.Rows.boot_tuple rfl) pa_nil)))))
    (pss_one (ps_ret pe_bl))
    pss_nil)
    (pss_one (ps_match (pv 0) (pcs_cons [("number", 1)] sc_is_answer.nd (ownC ⟨rfl, Or.inl rfl, Or.inl rfl⟩ own0) (pp_seq (ppq_cons (pp_or (ppo_cons pp_str (ppo_cons pp_str (ppo_cons pp_str ppo_nil)))) (ppq_cons pp_name ppq_nil))) (pss_one (ps_ret (pe_call (ok_is_number T) (hr.mono (by decide)) (by rfl) T.is_number.n T.is_number.F.kp T.is_number.b .nil pass0 (pa_cons (pv 1) (pa_cons (pe_un un_neg (pe_gv (by rfl) T.c_MOST_IN_ANSWER)) (pa_cons (pe_gv (by rfl) T.c_MOST_IN_ANSWER) pa_nil))))))
    (pcs_cons [("divisor", 2)] sc_is_answer.nd (ownC ⟨rfl, Or.inl rfl, Or.inl rfl⟩ own0) (pp_seq (ppq_cons pp_str (ppq_cons pp_name ppq_nil))) (pss_one (ps_ret (pe_call (ok_is_divisor T) (hr.mono (by decide)) (by rfl) T.is_divisor.n T.is_divisor.F.kp T.is_divisor.b .nil pass0 (pa_cons (pv 2) pa_nil))))
    (pcs_cons [] sc_is_answer.nd own0 (pp_seq (ppq_cons pp_str ppq_nil)) (pss_one (ps_ret pe_bl))
    (pcs_cons [] sc_is_answer.nd own0 pp_any (pss_one (ps_ret pe_bl))
    pcs_nil))))))), ?_⟩
    cases t with
    | num n =>
      obtain ⟨a, rfl, hs⟩ := dp_2i hv
      refine ⟨_, rfl, _, _, .type "tuple", _, true, rfl, .ty _, ty_tup hs, kit_ty (by decide +kernel), _, rfl, ?_⟩
      refine iteF ?_
      refine ⟨_, rfl, ?_⟩
      walk_at "len+"
      walk_at "str+"
      walk_at "name"
      refine ⟨rfl, _, rfl, _, rfl, _, _, _, rfl, .int n, ?_⟩
      rw [isNum_t ho.1 ho.2]
      exact k0
    | plus n =>
      obtain ⟨a, rfl, hs⟩ := dp_2i hv
      refine ⟨_, rfl, _, _, .type "tuple", _, true, rfl, .ty _, ty_tup hs, kit_ty (by decide +kernel), _, rfl, ?_⟩
      refine iteF ?_
      refine ⟨_, rfl, ?_⟩
      walk_at "len+"
      walk_at "str-"
      refine ⟨rfl, ifp rfl ?_⟩
      walk_at "name"
      refine ⟨rfl, _, rfl, _, rfl, _, _, _, rfl, .int n, ?_⟩
      rw [isNum_t ho.1 ho.2]
      exact k0
    | times n =>
      obtain ⟨a, rfl, hs⟩ := dp_2i hv
      refine ⟨_, rfl, _, _, .type "tuple", _, true, rfl, .ty _, ty_tup hs, kit_ty (by decide +kernel), _, rfl, ?_⟩
      refine iteF ?_
      refine ⟨_, rfl, ?_⟩
      walk_at "len+"
      walk_at "str-"
      refine ⟨rfl, ifn (by decide +kernel) ?_⟩
      refine ⟨rfl, ifp rfl ?_⟩
      walk_at "name"
      refine ⟨rfl, _, rfl, _, rfl, _, _, _, rfl, .int n, ?_⟩
      rw [isNum_t ho.1 ho.2]
      exact k0
    | rest m =>
      obtain ⟨a, rfl, hs⟩ := dp_2i hv
      refine ⟨_, rfl, _, _, .type "tuple", _, true, rfl, .ty _, ty_tup hs, kit_ty (by decide +kernel), _, rfl, ?_⟩
      refine iteF ?_
      refine ⟨_, rfl, ?_⟩
      walk_at "len+"
      walk_at "str-"
      refine ⟨rfl, ifn (by decide +kernel) ?_⟩
      refine ⟨rfl, ifn (by decide +kernel) ?_⟩
      walk_at "len+"
      walk_at "str+"
      walk_at "name"
      refine ⟨rfl, _, rfl, _, rfl, .int m, ?_⟩
      rw [isNum_t ho.1 ho.2]
      exact k0
    | non =>
      obtain ⟨a, rfl, hs⟩ := dp_1 hv
      refine ⟨_, rfl, _, _, .type "tuple", _, true, rfl, .ty _, ty_tup hs, kit_ty (by decide +kernel), _, rfl, ?_⟩
      refine iteF ?_
      refine ⟨_, rfl, ?_⟩
      walk_at "len-"
      walk_at "len-"
      walk_at "len+"
      walk_at "str+"
      exact ⟨rfl, k0⟩
theorem ok_is_row (T : Txt K mg A) : FnOk P w K mg base CX0 5 A.is_row A.is_row_ ["row"] (spRow K) := by
  refine T.is_row.F.ok sc_is_row (fun vs H Q E h => ?_) (fun cdv Ar outer s H vs Q E hr h => ?_)
  · obtain ⟨v, t, rfl, _⟩ := h
    rfl
  · obtain ⟨v, ⟨t, a⟩, rfl, hv, ho1, ho2, k⟩ := h
    obtain ⟨b, u, z, rfl, hs, hu, hz⟩ := dp_pair hv
    refine ⟨_, (pss_cons (ps_if (PW.pt (pw_or (pt_not (pt_val (pe_callB call_isi (by rfl) T.n_isinstance PyProof.Rows.boot_isinstance (pa_cons (pv 0) (pa_cons (pe_bltn (v := .ty "tuple") (by rfl) T.n_tuple PyProof.Rows.boot_tuple rfl) pa_nil))))) (pw_or1 (pt_cmpR op_ne (pe_callB call_len_seq (by rfl) T.n_len PySem.boot_len (pa_cons (pv 0) pa_nil)) pe_int (nomark _)))))
    (pss_one (ps_ret pe_bl))
    pss_nil)
    (pss_one (ps_ret (pe_and (pe_call (ok_is_test T) (hr.mono (by decide)) (by rfl) T.is_test.n T.is_test.F.kp T.is_test.b .nil pass0 (pa_cons (pe_ix ix_tup (pv 0) pe_int (fun _ _ => rfl)) pa_nil)) (pe_one (pe_call (ok_is_answer T) (hr.mono (by decide)) (by rfl) T.is_answer.n T.is_answer.F.kp T.is_answer.b .nil pass0 (pa_cons (pe_ix ix_tup (pv 0) pe_int (fun _ _ => rfl)) pa_nil))))))), ?_⟩
    refine ⟨_, rfl, _, _, .type "tuple", _, true, rfl, .ty _, ty_tup hs, kit_ty (by decide +kernel), _, rfl, ?_⟩
    refine iteF ?_
    refine ⟨_, rfl, b, _, rfl, .inr hs, rfl, _, rfl, ?_⟩
    refine iteF ?_
    refine ⟨_, rfl, b, _, _, _, rfl, rfl, hs, at0, u, t, rfl, hu, ho1, fun H1 s1 => ⟨_, rfl, ?_⟩⟩
    refine iteT ?_
    exact ⟨_, rfl, b, _, _, _, rfl, rfl, KT.same s1 _ _ hs, at1, z, a, rfl, dp_keep (KT.same s1) _ _ a.td hz, ho2, fun H2 s2 => k H2 (s1.trans s2)⟩
end
end Mh
namespace Mh
open PySem L2
def spDice (K : PySem.W.Frag) : Sp := fun vs H Q _ => ∃ (a : Addr) (ns : List Int) (k0 : Int), vs = [.ref a, .int k0] ∧ SqL K H a (ns.map V.int) ∧ ns.length ≤ 63 ∧ 0 ≤ k0 ∧ k0 < 2147483647 ∧
  ∀ p H' xs, H p = none → Same H H' → H' p = some (.lst xs) → Dice xs → Q (.ref p) H'
section
variable {P : Program} {w : World} {K : PySem.W.Frag} {mg : Str → Option Value} {base : Heap} {A : Adr}
theorem ok_check_machine (T : Txt K mg A) : FnOk P w K mg base CX0 6 A.check_machine A.check_machine_ ["machine"] (spMach K) := by
  refine T.check_machine.F.ok sc_check_machine (fun vs H Q E h => ?_) (fun cdv Ar outer s H vs Q E hr h => ?_)
  · obtain ⟨v, t, rfl, _⟩ := h
    rfl
  · obtain ⟨v, m, rfl, hv, ⟨l1, l12, ho⟩, k⟩ := h
    obtain ⟨p, vs, rfl, hs, ha⟩ := dp_tup hv
    have hl : vs.length = m.length := by
      have e := dps_len ha
      rwa [List.length_map] at e
    refine ⟨_, (pss_cons (ps_if (PW.pt (pw_or (pt_not (pt_val (pe_callB call_isi (by rfl) T.n_isinstance PyProof.Rows.boot_isinstance (pa_cons (pv 0) (pa_cons (pe_bltn (v := .ty "tuple") (by rfl) T.n_tuple PyProof.Rows.boot_tuple rfl) pa_nil))))) (pw_or1 (pt_cmpR op_eq (pe_callB call_len_seq (by rfl) T.n_len PySem.boot_len (pa_cons (pv 0) pa_nil)) pe_int (nomark _)))))
    (pss_one ps_never)
    pss_nil)
    (pss_one (ps_for PassesOwn.never rfl (pi_enumT (by rfl) T.n_enumerate (pa_cons (pv 0) pa_nil)) (pg_tup rfl (pgs_cons (pg_name (i := 1) sc_check_machine.nd rfl (Or.inl rfl)) (pgs_cons (pg_name (i := 2) sc_check_machine.nd rfl (Or.inl rfl)) pgs_nil)))
    (pss_one (ps_if (PW.pt (pw_or (pt_cmpR op_eq (pv 1) (pe_gv (by rfl) T.c_MOST_ROWS) (nomark _)) (pw_or1 (pt_not (pt_val (pe_call (ok_is_row T) (hr.mono (by decide)) (by rfl) T.is_row.n T.is_row.F.kp T.is_row.b .nil pass0 (pa_cons (pv 2) pa_nil)))))))
    (pss_one ps_never)
    pss_nil))))), ?_⟩
    refine ⟨_, rfl, _, _, .type "tuple", _, true, rfl, .ty _, ty_tup hs, kit_ty (by decide +kernel), _, rfl, ?_⟩
    refine iteF ?_
    refine ⟨_, rfl, p, _, rfl, .inr hs, rfl, _, rfl, ?_⟩
    refine ifn (by rw [dI, decide_eq_false (by omega)]; simp) ?_
    refine ⟨_, rfl, p, _, rfl, hs, for_it (walk_enumT (xs := vs)) (fun i σ H' => Same H H' ∧ ∃ x y, σ = [some (.ref p), x, y]) ⟨Same.refl H, _, _, rfl⟩ (fun i σ H' _ ⟨e, _⟩ => KT.same e _ _ hs) ?_ ?_⟩
    · rintro i x σ H1 H2 hi ⟨sm, y1, y2, rfl⟩ ⟨b, x1, x2, rfl, hb, rfl, hx1, hx2⟩
      have e1 := Option.some.inj hx1
      subst e1
      obtain ⟨t, a, hm, c, u, z, rfl, hc, hu, hz⟩ := row_at ha hx2
      obtain ⟨ok1, ok2⟩ := ho _ (List.mem_of_getElem? hm)
      have sm2 : Same H (upd H1 b (.tup [.int (i : Nat), .ref c])) := same_put sm (sm.free hb)
      have kt := KT.same (K := K) sm2
      refine ⟨b, _, rfl, SqT.of upd_same, rfl, _, _, rfl, _, _, rfl, rfl, ?_⟩
      refine ⟨_, rfl, rfl, _, rfl, ?_⟩
      refine ifn (by rw [dI, decide_eq_false (by omega)]; simp) ?_
      refine ⟨_, rfl, .ref c, (t, a), rfl, .tup (kt _ _ hc) (.cons (dp_keep kt _ _ t.td hu) (.cons (dp_keep kt _ _ a.td hz) .nil)), ok1, ok2, fun H3 s3 => ⟨_, rfl, ?_⟩⟩
      refine iteF ?_
      exact ⟨sm2.trans s3, _, _, rfl⟩
    · rintro σ H1 ⟨sm, _⟩
      exact k H1 sm
theorem ok_check_question (T : Txt K mg A) : FnOk P w K mg base CX0 3 A.check_question A.check_question_ ["question"] (spChk 0 9999) := by
  refine T.check_question.F.ok sc_check_question (fun vs H Q E h => ?_) (fun cdv Ar outer s H vs Q E hr h => ?_)
  · obtain ⟨v, rfl, _⟩ := h
    rfl
  · obtain ⟨v, rfl, h0, h1, k⟩ := h
    refine ⟨_, (pss_one (ps_if (pt_not (pt_val (pe_call (ok_is_question T) (hr.mono (by decide)) (by rfl) T.is_question.n T.is_question.F.kp T.is_question.b .nil pass0 (pa_cons (pv 0) pa_nil))))
    (pss_one ps_never)
    pss_nil)), ?_⟩
    refine ⟨_, rfl, _, rfl, .int v, ?_⟩
    rw [isNum_t h0 h1]
    refine ⟨_, rfl, ?_⟩
    exact iteF k
theorem ok_check_seed (T : Txt K mg A) : FnOk P w K mg base CX0 3 A.check_seed A.check_seed_ ["seed"] (spChk 0 999) := by
  refine T.check_seed.F.ok sc_check_seed (fun vs H Q E h => ?_) (fun cdv Ar outer s H vs Q E hr h => ?_)
  · obtain ⟨v, rfl, _⟩ := h
    rfl
  · obtain ⟨v, rfl, h0, h1, k⟩ := h
    refine ⟨_, (pss_one (ps_if (pt_not (pt_val (pe_call (ok_is_seed T) (hr.mono (by decide)) (by rfl) T.is_seed.n T.is_seed.F.kp T.is_seed.b .nil pass0 (pa_cons (pv 0) pa_nil))))
    (pss_one ps_never)
    pss_nil)), ?_⟩
    refine ⟨_, rfl, _, rfl, .int v, ?_⟩
    rw [isNum_t h0 h1]
    refine ⟨_, rfl, ?_⟩
    exact iteF k
theorem ok_answered (T : Txt K mg A) : FnOk P w K mg base CX0 7 A.answered A.answered_ ["machine", "question", "seed"] (spAnswered K) := by
  refine T.answered.F.ok sc_answered (fun vs H Q E h => ?_) (fun cdv Ar outer s H vs Q E hr h => ?_)
  · obtain ⟨v, m, q, z, rfl, _⟩ := h
    rfl
  · obtain ⟨v, m, q, z, rfl, hv, ho, q0, q1, z0, z1, k⟩ := h
    refine ⟨_, (pss_cons (ps_expr (pe_call (ok_check_machine T) (hr.mono (by decide)) (by rfl) T.check_machine.n T.check_machine.F.kp T.check_machine.b .nil pass0 (pa_cons (pv 0) pa_nil)))
    (pss_cons (ps_expr (pe_call (ok_check_question T) (hr.mono (by decide)) (by rfl) T.check_question.n T.check_question.F.kp T.check_question.b .nil pass0 (pa_cons (pv 1) pa_nil)))
    (pss_cons (ps_expr (pe_call (ok_check_seed T) (hr.mono (by decide)) (by rfl) T.check_seed.n T.check_seed.F.kp T.check_seed.b .nil pass0 (pa_cons (pv 2) pa_nil)))
    (pss_one (ps_ret (pe_call (ok_run T) (hr.mono (by decide)) (by rfl) T.run.n T.run.F.kp T.run.b .nil pass0 (pa_cons (pv 0) (pa_cons (pv 1) (pa_cons (pv 2) pa_nil))))))))), ?_⟩
    refine ⟨_, rfl, v, m, rfl, hv, ho, fun H1 s1 => ⟨_, rfl, q, rfl, q0, q1, _, rfl, z, rfl, z0, z1, ?_⟩⟩
    exact ⟨_, rfl, _, rfl, _, rfl, v, m, q, z, rfl, dp_keep (KT.same s1) _ _ (mach_td m) hv, ho, k H1 s1⟩
theorem ok_dice (T : Txt K mg A) : FnOk P w K mg base CX0 1 A.dice A.dice_ ["_law_script", "_law_k"] (spDice K) := by
  refine T.dice.F.ok sc_dice (fun vs H Q E h => ?_) (fun cdv Ar outer s H vs Q E hr h => ?_)
  · obtain ⟨a, ns, k0, rfl, _⟩ := h
    rfl
  · obtain ⟨a, ns, k0, rfl, hs, hl, h0, h1, k⟩ := h
    refine ⟨_, (pss_cons (ps_set (i := 2) sc_dice.nd rfl (Or.inl rfl) (pv 1))
    (pss_cons (ps_for PassesOwn.never rfl (pi_list (pv 0)) (pg_name (i := 3) sc_dice.nd rfl (Or.inl rfl))
    (pss_one (ps_set (i := 2) sc_dice.nd rfl (Or.inl rfl) (pe_op op_mod (pe_op op_add (pe_op op_mul (pv 2) pe_int) (pe_callB call_abs (by rfl) T.n_abs PyProof.Rows.boot_abs (pa_cons (pv 3) pa_nil))) pe_int))))
    (pss_one (ps_ret (pe_op op_cat (pe_lst (pa_cons (pv 2) (pa_cons pe_int pa_nil))) (pe_lc (own := [("_law_cell", 3)]) (g := gName 3)  rfl sc_dice.nd (pi_list (pv 0)) (blkOk_by (N := N_dice) (sc := defScope s_dice) (by decide +kernel)) (fun _ _ _ _ _ => pg_name (i := 3) sc_dice.nd rfl (Or.inl rfl) (hf := Or.inr rfl)) (fun _ _ _ _ _ => (pts_one (pt_cmpR op_ge (pv 3) (pe_op op_pow pe_int pe_int) (nomark _)))) (fun _ _ _ _ _ => (pv 3)))))))), ?_⟩
    refine ⟨_, rfl, _, rfl, a, rfl, ⟨_, hs⟩, for_list (K := K) (a := a) (xs := ns.map V.int) (fun i σ H' => H' = H ∧ ∃ f y, σ = [some (.ref a), some (.int k0), some (.int f), y] ∧ 0 ≤ f ∧ f < 2147483647) ⟨rfl, _, _, rfl, h0, h1⟩
      (fun i σ H' _ ⟨e, _⟩ => by rw [e]; exact hs) ?_ ?_⟩
    · rintro i x σ H1 hi ⟨rfl, f, y, rfl, f0, f1⟩
      obtain ⟨z, hz, rfl⟩ := int_at hi
      refine ⟨_, rfl, _, _, rfl, rfl, .inl ⟨by omega, by omega⟩, _, rfl, _, rfl, _, _, rfl, rfl, _, _, rfl, rfl, (by show (0 : Int) < 2147483647; decide), ?_⟩
      exact ⟨rfl, _, _, rfl, Int.emod_nonneg _ (by decide), Int.emod_lt_of_pos _ (by decide)⟩
    · rintro σ H1 ⟨rfl, f, y, rfl, f0, f1⟩
      refine ⟨_, rfl, (by show 2 ≤ sizeLine; decide), fun p hp => ?_⟩
      have sm := same_put (Same.refl H1) (o := .lst [.int f, .int 0]) hp
      refine ⟨_, rfl, a, rfl, ⟨_, sm.seq hs⟩, fun D hD => lc_list (K := K) (a := a) (xs := ns.map V.int) (fun i H' => Same (upd H1 p (.lst [.int f, .int 0])) H' ∧ ∃ r : List Int, H' D = some (.lst (r.map V.int)) ∧ r.length ≤ i ∧ ∀ z ∈ r, 0 ≤ z)
        ⟨(Bt.new (S := []) hD).same, [], upd_same, Nat.le_refl _, by simp⟩ (fun i H' _ q => (sm.trans q.1).seq hs) ?_ ?_⟩
      · rintro i x H2 hi ⟨sm2, r, hr2, hr3, hr4⟩
        obtain ⟨z, hz, rfl⟩ := int_at hi
        have il := (List.getElem?_eq_some_iff.mp hz).1
        refine ⟨rfl, _, rfl, _, _, rfl, rfl, ⟨by decide, by decide, by decide⟩, _, _, rfl, rfl, _, rfl, ?_⟩
        refine ite2 (fun e => ?_) (fun e => ?_)
        · refine ⟨_, rfl, _, hr2, ?_, same_put sm2 hD, r ++ [z], ?_, ?_, ?_⟩
          · rw [List.length_map, sizeLine_eq]
            omega
          · rw [upd_same, List.map_append]
            rfl
          · simp
            omega
          · intro y hy
            rcases List.mem_append.mp hy with h | h
            · exact hr4 y h
            · have e2 : y = z := by simpa using h
              have e3 := of_decide_eq_true e
              rw [e2]
              have e4 : (10 : Int) ^ (18 : Int).toNat = 1000000000000000000 := by decide
              rw [e4] at e3
              omega
        · exact ⟨sm2, r, hr2, by omega, hr4⟩
      · rintro H2 ⟨sm2, r, hr2, hr3, hr4⟩
        rw [List.length_map] at hr3
        refine ⟨p, D, _, _, rfl, rfl, sm2 _ _ upd_same, hr2, ?_, fun p2 hp2 => ?_⟩
        · rw [List.length_map, sizeLine_eq]
          simp
          omega
        · have smA := sm.trans sm2
          exact k p2 _ _ (smA.free hp2) (same_put smA (smA.free hp2)) upd_same ⟨f, 0, r, rfl, f0, f1, by decide, by omega, hr4⟩
end
end Mh
namespace Mh
open PySem L2
local macro_rules | `(tactic| walk_at "g") => `(tactic| repeat (first
  | refine ⟨_, rfl, ?_⟩
  | refine ⟨_, _, rfl, rfl, ?_⟩
  | refine ⟨_, _, _, _, rfl, rfl, SqL.of (by assumption), at0, ?_⟩
  | refine ⟨_, _, _, _, rfl, rfl, SqL.of (by assumption), at1, ?_⟩
  | refine ⟨_, _, rfl, .inl (SqL.of (by assumption)), ?_⟩
  | refine ⟨rfl, ?_⟩))
def spOff : Sp := fun vs H Q _ => ∃ (d : Addr) (n : Int) (xs : List V), vs = [.ref d, .int n] ∧ H d = some (.lst xs) ∧ Dice xs ∧ 0 < n ∧ n < 1073741824 ∧
  ∀ (r : Int) (ys : List V), 0 ≤ r → r < n → Dice ys → Q (.int r) (upd H d (.lst ys))
section
variable {P : Program} {w : World} {K : PySem.W.Frag} {mg : Str → Option Value} {base : Heap} {A : Adr}
theorem ok_off (T : Txt K mg A) : FnOk P w K mg base CX0 1 A.off A.off_ ["_law_d", "_law_upto"] spOff := by
  refine T.off.F.ok sc_off (fun vs H Q E h => ?_) (fun cdv Ar outer s H vs Q E hr h => ?_)
  · obtain ⟨d, n, xs, rfl, _⟩ := h
    rfl
  · obtain ⟨d, n, xs, rfl, hd, ⟨a, b, r, rfl, a0, a1, b0, hl, hz⟩, n0, n1, k⟩ := h
    refine ⟨_, (Evl.pss_cut (ps_if (PW.pt (pw_and (pt_cmpR op_eq (pe_ix ix_list (pv 0) pe_int (fun _ _ => rfl)) pe_int (nomark _)) (pw_and1 (pt_cmpR op_gt (pe_callB call_len_seq (by rfl) T.n_len PySem.boot_len (pa_cons (pv 0) pa_nil)) pe_int (nomark _)))))
    (pss_one (ps_asg (pe_bm PySem.F.plainAttrs_list PySem.F.slot_list_pop PySem.F.type_list_pop mt_popAt (pv 0) (pa_cons pe_int pa_nil)) (pg_sub (pv 0) pe_int set_list)))
    pss_nil)
    (pss_cons (ps_if (pt_cmpR op_gt (pe_ix ix_list (pv 0) pe_int (fun _ _ => rfl)) pe_int (nomark _))
    (pss_cons (ps_set (i := 2) sc_off.nd rfl (Or.inl rfl) (pe_op op_mod (pe_ix ix_list (pv 0) pe_int (fun _ _ => rfl)) (pv 1)))
    (pss_cons (ps_asg (pe_op op_fdiv (pe_ix ix_list (pv 0) pe_int (fun _ _ => rfl)) (pv 1)) (pg_sub (pv 0) pe_int set_list))
    (pss_one (ps_ret (pv 2)))))
    pss_nil)
    (pss_cons (ps_asg (pe_op op_mod (pe_op op_add (pe_op op_mul (pe_ix ix_list (pv 0) pe_int (fun _ _ => rfl)) pe_int) pe_int) pe_int) (pg_sub (pv 0) pe_int set_list))
    (pss_one (ps_ret (pe_op op_mod (pe_op op_fdiv (pe_ix ix_list (pv 0) pe_int (fun _ _ => rfl)) pe_int) (pv 1))))))), ?_⟩
    refine ⟨fun σ H1 => σ = [some (.ref d), some (.int n), none] ∧ (∀ ys, upd H1 d (.lst ys) = upd H d (.lst ys)) ∧ ∃ (b1 : Int) (r1 : List Int), H1 d = some (.lst (.int a :: .int b1 :: r1.map V.int)) ∧ 0 ≤ b1 ∧ r1.length ≤ 63 ∧ ∀ z ∈ r1, 0 ≤ z, ?_, ?_⟩
    · have here : (∀ ys, upd H d (.lst ys) = upd H d (.lst ys)) ∧ ∃ (b1 : Int) (r1 : List Int), H d = some (.lst (.int a :: .int b1 :: r1.map V.int)) ∧ 0 ≤ b1 ∧ r1.length ≤ 63 ∧ ∀ z ∈ r1, 0 ≤ z := ⟨fun _ => rfl, b, r, hd, b0, hl, hz⟩
      walk_at "g"
      refine ite2 (fun e => ?_) (fun e => ?_)
      · walk_at "g"
        refine ite2 (fun e2 => ?_) (fun e2 => ?_)
        · have l2 := of_decide_eq_true e2
          cases r with
          | nil => simp at l2
          | cons z r =>
            refine ⟨_, rfl, .inl ⟨rfl, _, SqL.of hd⟩, ?_⟩
            refine ⟨d, _, 2, 2, .int z, rfl, rfl, hd, by decide, by decide, by simp [seqIndex?]; omega, rfl, ?_⟩
            refine ⟨_, rfl, d, _, 1, 1, rfl, rfl, upd_same, by simp [ixN]; omega, ?_⟩
            refine ⟨rfl, fun ys => ?_, z, r, ?_, hz z (by simp), by simp at hl; omega, fun y hy => hz y (by simp [hy])⟩
            · rw [upd_upd, upd_upd]
            · rw [upd_same]
              rfl
        · exact ⟨rfl, here⟩
      · exact ⟨rfl, here⟩
    · rintro σ H1 ⟨rfl, hu1, b1, r1, h1, b10, hl1, hz1⟩
      walk_at "g"
      refine ite2 (fun e => ?_) (fun e => ?_)
      · walk_at "g"
        refine ⟨n0, ?_⟩
        walk_at "g"
        refine ⟨⟨n0, n1⟩, ?_⟩
        refine ⟨_, rfl, d, _, 1, 1, rfl, rfl, h1, by simp [ixN]; omega, ?_⟩
        walk_at "g"
        rw [hu1]
        exact k _ _ (Int.emod_nonneg _ (by omega)) (Int.emod_lt_of_pos _ n0) ⟨a, b1 / n, r1, rfl, a0, a1, Int.ediv_nonneg b10 (by omega), hl1, hz1⟩
      · walk_at "g"
        refine ⟨.inr (by decide), ?_⟩
        walk_at "g"
        refine ⟨by show (0 : Int) < 2147483647; decide, ?_⟩
        refine ⟨_, rfl, d, _, 0, 0, rfl, rfl, h1, by simp [ixN]; omega, ?_⟩
        have h2 : upd H1 d (.lst ((V.int a :: V.int b1 :: r1.map V.int).set 0 (V.int ((a * 48271 + 11) % 2147483647)))) d = some (.lst (.int ((a * 48271 + 11) % 2147483647) :: .int b1 :: r1.map V.int)) := upd_same
        walk_at "g"
        refine ⟨⟨by decide, by decide⟩, ?_⟩
        walk_at "g"
        refine ⟨n0, ?_⟩
        rw [hu1]
        exact k _ _ (Int.emod_nonneg _ (by omega)) (Int.emod_lt_of_pos _ n0) ⟨(a * 48271 + 11) % 2147483647, b1, r1, rfl, Int.emod_nonneg _ (by decide), Int.emod_lt_of_pos _ (by decide), b10, hl1, hz1⟩
end

/-! ### draws, as readings -/
/-- the dice stand at d -/
def DS (d : Addr) (H : Hp) : Prop := ∃ ys, H d = some (.lst ys) ∧ Dice ys
section
variable {K : PySem.W.Frag} {σ : St} {H : Hp} {Q : VK} {d : Addr} {i : Nat}
theorem DS.kt {H' : Hp} (h : DS d H) (b : Bt [d] H H') : KT K H H' := by
  obtain ⟨ys, h1, _⟩ := h
  exact b.kt1 h1
theorem DS.ne {p : Addr} (h : DS d H) (hp : H p = none) : d ≠ p := by
  obtain ⟨ys, h1, _⟩ := h
  exact ne_of_none h1 hp
theorem DS.new {p : Addr} {o : HO} (h : DS d H) (hp : H p = none) : DS d (upd H p o) := by
  have n := h.ne hp
  obtain ⟨ys, h1, h2⟩ := h
  exact ⟨ys, (upd_ne n).trans h1, h2⟩
abbrev tOffE (i : Nat) (t : TE) : TE := tCall spOff [] E0 (tCons (tVar i) (tCons t tNil))
theorem nil_ {σ : St} {H : Hp} {Q : List V → Hp → Prop} (h : Q [] H) : tNil σ H Q := h
theorem rd_offV {x : V} {n : Int} (hx : x = .int n) (hd : DS d H) (h0 : 0 < n) (h1 : n < 1073741824) (k : ∀ (r : Int) (H' : Hp), 0 ≤ r → r < n → Bt [d] H H' → DS d H' → Q (.int r) H') :
    spOff ([.ref d, x] ++ []) H Q E0 := by
  obtain ⟨ys, h2, h3⟩ := hd
  subst hx
  exact ⟨d, n, ys, rfl, h2, h3, h0, h1, fun r zs r0 r1 dz => k r _ r0 r1 (Bt.refl.set (by simp)) ⟨zs, upd_same, dz⟩⟩
theorem rd_off {n : Int} (hσ : σ[i]? = some (some (.ref d))) (hd : DS d H) (h0 : 0 < n) (h1 : n < 1073741824) (k : ∀ (r : Int) (H' : Hp), 0 ≤ r → r < n → Bt [d] H H' → DS d H' → Q (.int r) H') :
    tOffE i (tC (.int n)) σ H Q := ⟨_, hσ, rd_offV rfl hd h0 h1 k⟩
theorem at_two {x y : V} {r : Int} (r0 : 0 ≤ r) (r1 : r < 2) : ∃ z, atI [x, y] r = some z ∧ (z = x ∨ z = y) := by
  have h : r = 0 ∨ r = 1 := by omega
  rcases h with h | h
  · subst h
    exact ⟨x, at0, .inl rfl⟩
  · subst h
    exact ⟨y, at1, .inr rfl⟩
theorem at_three {x y u : V} {r : Int} (r0 : 0 ≤ r) (r1 : r < 3) : ∃ z, atI [x, y, u] r = some z ∧ (z = x ∨ z = y ∨ z = u) := by
  have h : r = 0 ∨ r = 1 ∨ r = 2 := by omega
  rcases h with h | h | h
  · subst h
    exact ⟨x, at0, .inl rfl⟩
  · subst h
    exact ⟨y, at1, .inr (.inl rfl)⟩
  · subst h
    exact ⟨u, at2, .inr (.inr rfl)⟩
/-- [off(a), off(b)][off(2)] -/
theorem rd_pick {a b : Int} (hσ : σ[i]? = some (some (.ref d))) (hd : DS d H) (a0 : 0 < a) (a1 : a < 1073741824) (b0 : 0 < b) (b1 : b < 1073741824)
    (k : ∀ (r : Int) (H' : Hp), 0 ≤ r → (r < a ∨ r < b) → Bt [d] H H' → DS d H' → Q (.int r) H') :
    tOp (rIxL K) (tLst (tCons (tOffE i (tC (.int a))) (tCons (tOffE i (tC (.int b))) tNil))) (tOffE i (tC (.int 2))) σ H Q := by
  refine rd_off hσ hd a0 a1 fun r1 H1 r10 r11 b1' d1 => ?_
  refine rd_off hσ d1 b0 b1 fun r2 H2 r20 r21 b2' d2 => ?_
  refine ⟨by show 2 ≤ sizeLine; decide, fun l hl => ?_⟩
  refine rd_off hσ (d2.new hl) (by decide) (by decide) fun r3 H3 r30 r31 b3' d3 => ?_
  obtain ⟨z, hz, hc⟩ := at_two (x := .int r1) (y := .int r2) r30 r31
  have nl : l ∉ [d] := by
    simp only [List.mem_singleton]
    exact (d2.ne hl).symm
  refine ⟨l, _, r3, z, rfl, rfl, SqL.of (b3' _ _ nl upd_same), hz, ?_⟩
  have bt : Bt [d] H H3 := ((b1'.trans b2').trans (Bt.new hl)).trans b3'
  rcases hc with rfl | rfl
  · exact k r1 H3 r10 (.inl r11) bt d3
  · exact k r2 H3 r20 (.inr r21) bt d3
/-- [x, y][off(2)], x and y written -/
theorem rd_two {x y : V} (hσ : σ[i]? = some (some (.ref d))) (hd : DS d H)
    (k : ∀ (z : V) (H' : Hp), (z = x ∨ z = y) → Bt [d] H H' → DS d H' → Q z H') :
    tOp (rIxL K) (tLst (tCons (tC x) (tCons (tC y) tNil))) (tOffE i (tC (.int 2))) σ H Q := by
  refine ⟨by show 2 ≤ sizeLine; decide, fun l hl => ?_⟩
  refine rd_off hσ (hd.new hl) (by decide) (by decide) fun r3 H3 r30 r31 b3' d3 => ?_
  obtain ⟨z, hz, hc⟩ := at_two (x := x) (y := y) r30 r31
  have nl : l ∉ [d] := by
    simp only [List.mem_singleton]
    exact (hd.ne hl).symm
  exact ⟨l, _, r3, z, rfl, rfl, SqL.of (b3' _ _ nl upd_same), hz, k z H3 hc ((Bt.new hl).trans b3') d3⟩
end
/-- what is drawn: a value that tells some datum that can be -/
def spGen (K : PySem.W.Frag) {α : Type} (dt : α → PyData) (ok : α → Prop) : Sp := fun vs H Q _ => ∃ (d : Addr), vs = [.ref d] ∧ DS d H ∧
  ∀ (v : V) (t : α) (H' : Hp), Bt [d] H H' → DS d H' → Dp K H' v (dt t) → ok t → Q v H'
end Mh
namespace Mh
open PySem L2
section
variable {P : Program} {w : World} {K : PySem.W.Frag} {mg : Str → Option Value} {base : Heap} {A : Adr}
theorem ok_test (T : Txt K mg A) : FnOk P w K mg base CX0 2 A.test A.test_ ["_law_d"] (spGen K Tst.dt Tst.Ok) := by
  refine T.test.F.ok sc_test (fun vs H Q E h => ?_) (fun cdv Ar outer s H vs Q E hr h => ?_)
  · obtain ⟨d, rfl, _⟩ := h
    rfl
  · obtain ⟨d, rfl, hd, k⟩ := h
    refine ⟨_, (pss_cons (ps_set (i := 1) sc_test.nd rfl (Or.inl rfl) (pe_call (ok_off T) (hr.mono (by decide)) (by rfl) T.off.n T.off.F.kp T.off.b .nil pass0 (pa_cons (pv 0) (pa_cons pe_int pa_nil))))
    (pss_cons (ps_if (pt_cmpR op_eq (pv 1) pe_int (nomark _))
    (pss_one (ps_ret (pe_tup (pa_cons pe_str (pa_cons (pe_ix ix_list (pe_lst (pa_cons (pe_call (ok_off T) (hr.mono (by decide)) (by rfl) T.off.n T.off.F.kp T.off.b .nil pass0 (pa_cons (pv 0) (pa_cons pe_int pa_nil))) (pa_cons (pe_call (ok_off T) (hr.mono (by decide)) (by rfl) T.off.n T.off.F.kp T.off.b .nil pass0 (pa_cons (pv 0) (pa_cons pe_int pa_nil))) pa_nil))) (pe_call (ok_off T) (hr.mono (by decide)) (by rfl) T.off.n T.off.F.kp T.off.b .nil pass0 (pa_cons (pv 0) (pa_cons pe_int pa_nil))) (fun _ _ => rfl)) pa_nil)))))
    pss_nil)
    (pss_cons (ps_if (pt_cmpR op_lt (pv 1) pe_int (nomark _))
    (pss_cons (ps_set (i := 2) sc_test.nd rfl (Or.inl rfl) (pe_op op_add pe_int (pe_call (ok_off T) (hr.mono (by decide)) (by rfl) T.off.n T.off.F.kp T.off.b .nil pass0 (pa_cons (pv 0) (pa_cons (pe_ix ix_list (pe_lst (pa_cons pe_int (pa_cons pe_int pa_nil))) (pe_call (ok_off T) (hr.mono (by decide)) (by rfl) T.off.n T.off.F.kp T.off.b .nil pass0 (pa_cons (pv 0) (pa_cons pe_int pa_nil))) (fun _ _ => rfl)) pa_nil)))))
    (pss_one (ps_ret (pe_tup (pa_cons (pe_ix ix_list (pe_lst (pa_cons pe_str (pa_cons pe_str pa_nil))) (pe_op op_sub (pv 1) pe_int) (fun _ _ => rfl)) (pa_cons (pv 2) (pa_cons (pe_call (ok_off T) (hr.mono (by decide)) (by rfl) T.off.n T.off.F.kp T.off.b .nil pass0 (pa_cons (pv 0) (pa_cons (pv 2) pa_nil))) pa_nil)))))))
    pss_nil)
    (pss_cons (ps_if (pt_cmpR op_eq (pv 1) pe_int (nomark _))
    (pss_one (ps_ret (pe_tup (pa_cons pe_str (pa_cons (pe_callTy call_tuple_of (by rfl) T.n_tuple PyProof.Rows.boot_tuple (pa_cons (pe_callB (cr_sortedSet rfl) (by rfl) T.n_sorted PyProof.Rows.boot_sorted (pa_cons (pe_callTy (cr_setL rfl) (by rfl) T.n_set PyProof.Rows.boot_set (pa_cons (pe_lc (own := [("_law_k", 3)]) (g := gName 3) (tt := tYes) rfl sc_test.nd (pi_range1 (by rfl) T.n_range (pa_cons (pe_op op_add pe_int (pe_call (ok_off T) (hr.mono (by decide)) (by rfl) T.off.n T.off.F.kp T.off.b .nil pass0 (pa_cons (pv 0) (pa_cons pe_int pa_nil)))) pa_nil)) (blkOk_by (N := N_test) (sc := defScope s_test) (by decide +kernel)) (fun _ _ _ _ _ => pg_name (i := 3) sc_test.nd rfl (Or.inl rfl) (hf := Or.inr rfl)) (fun _ _ _ _ _ => pts_nil) (fun _ _ _ _ _ => (pe_call (ok_off T) (hr.mono (by decide)) (by rfl) T.off.n T.off.F.kp T.off.b .nil pass0 (pa_cons (pv 0) (pa_cons pe_int pa_nil))))) pa_nil)) pa_nil)) pa_nil)) pa_nil)))))
    pss_nil)
    (pss_one (ps_ret (pe_ix ix_list (pe_lst (pa_cons (pe_tup (pa_cons pe_str pa_nil)) (pa_cons (pe_tup (pa_cons pe_str (pa_cons pe_int (pa_cons (pe_call (ok_off T) (hr.mono (by decide)) (by rfl) T.off.n T.off.F.kp T.off.b .nil pass0 (pa_cons (pv 0) (pa_cons pe_int pa_nil))) pa_nil)))) pa_nil))) (pe_op op_sub (pv 1) pe_int) (fun _ _ => rfl)))))))), ?_⟩
    refine rd_off rfl hd (by decide) (by decide) fun r H1 r0 r1 b1 d1 => ?_
    refine ⟨_, rfl, rfl, _, rfl, ite2 (fun e => ?_) (fun e => ?_)⟩
    · refine rd_pick (K := K) rfl d1 (by decide) (by decide) (by decide) (by decide) fun z H2 z0 z1 b2 d2 => ?_
      refine ⟨by show 2 ≤ sizeLine; decide, fun p hp => ?_⟩
      exact k (.ref p) (.below z) _ ((b1.trans b2).trans (Bt.new hp)) (d2.new hp) (.tup (SqT.of upd_same) (.cons (.str _) (.cons (.int _) .nil))) ⟨z0, by omega⟩
    · have r2 : r ≠ 0 := fun q => e (by rw [q]; decide)
      refine ⟨_, rfl, _, _, rfl, rfl, _, rfl, ite2 (fun e => ?_) (fun e => ?_)⟩
      · have e3 := of_decide_eq_true e
        refine ⟨_, rfl, rd_two (K := K) rfl d1 fun z H2 hz b2 d2 => ?_⟩
        have hz2 : ∃ n, z = .int n ∧ 0 < n ∧ n ≤ 98 := by
          rcases hz with rfl | rfl
          · exact ⟨3, rfl, by decide, by decide⟩
          · exact ⟨98, rfl, by decide, by decide⟩
        obtain ⟨n, en, n0, n1⟩ := hz2
        refine nil_ (rd_offV en d2 n0 (by omega) fun m H3 m0 m1 b3 d3 => ?_)
        refine ⟨_, _, rfl, rfl, ?_⟩
        refine ⟨by show 2 ≤ sizeLine; decide, fun l hl => ?_⟩
        obtain ⟨y, hy, hc⟩ := at_two (x := .str "rest") (y := .str "chance") (r := r - 1) (by omega) (by omega)
        refine ⟨_, rfl, _, _, rfl, rfl, l, _, _, y, rfl, rfl, SqL.of upd_same, hy, ?_⟩
        refine ⟨_, rfl, _, rfl, _, rfl, nil_ (rd_offV rfl (d3.new hl) (by omega) (by omega) fun x H4 x0 x1 b4 d4 => ?_)⟩
        refine ⟨by show 3 ≤ sizeLine; decide, fun p hp => ?_⟩
        have bt := ((((b1.trans b2).trans b3).trans (Bt.new hl)).trans b4).trans (Bt.new (o := .tup [y, .int (2 + m), .int x]) hp)
        rcases hc with rfl | rfl
        · exact k (.ref p) (.rest (2 + m) x) _ bt (d4.new hp) (.tup (SqT.of upd_same) (.cons (.str _) (.cons (.int _) (.cons (.int _) .nil)))) ⟨by omega, by omega, x0, x1⟩
        · exact k (.ref p) (.chance (2 + m) x) _ bt (d4.new hp) (.tup (SqT.of upd_same) (.cons (.str _) (.cons (.int _) (.cons (.int _) .nil)))) ⟨by omega, by omega, x0, x1⟩
      · have e3 := of_decide_eq_false (Bool.eq_false_iff.mpr e)
        refine ⟨_, rfl, rfl, _, rfl, ite2 (fun e => ?_) (fun e => ?_)⟩
        · refine rd_off rfl d1 (by decide) (by decide) fun n H2 n0 n1 b2 d2 => ?_
          refine ⟨_, _, rfl, rfl, _, rfl, by omega, by omega, fun D hD => ?_⟩
          have nD := d2.ne hD
          refine lc_range (lo := 0) (n := (1 + n).toNat) (fun i H' => Bt [d] H2 H' ∧ DS d H' ∧ ∃ ns : List Int, H' D = some (.lst (ns.map V.int)) ∧ ns.length = i ∧ ∀ z ∈ ns, 0 ≤ z ∧ z < 12)
            ⟨Bt.new hD, d2.new hD, [], upd_same, rfl, by simp⟩ ?_ ?_
          · rintro i H3 hi ⟨b3, d3, ns, h3, l3, z3⟩
            refine ⟨rfl, ?_⟩
            refine yes_ ?_
            refine iteT ?_
            refine rd_off rfl d3 (by decide) (by decide) fun x H4 x0 x1 b4 d4 => ?_
            have nD2 : D ∉ [d] := by
              simp only [List.mem_singleton]
              exact nD.symm
            refine ⟨_, b4 _ _ nD2 h3, ?_, (b3.trans b4).put hD, ?_, ns ++ [x], ?_, by simp [l3], ?_⟩
            · rw [List.length_map, sizeLine_eq]
              omega
            · obtain ⟨ys, g1, g2⟩ := d4
              exact ⟨ys, (upd_ne nD).trans g1, g2⟩
            · rw [upd_same, List.map_append]
              rfl
            · intro y hy
              rcases List.mem_append.mp hy with h | h
              · exact z3 y h
              · have e2 : y = x := by simpa using h
                rw [e2]
                exact ⟨x0, x1⟩
          · rintro H3 ⟨b3, d3, ns, h3, l3, z3⟩
            refine ⟨D, ns, rfl, SqL.of h3, by omega, fun p c hp hc => ?_⟩
            refine ⟨p, _, _, rfl, upd_same, by omega, fun ks p2 pw mem lk hp2 => ?_⟩
            refine ⟨p2, _, rfl, .inl ⟨SqL.of upd_same, fun p3 hp3 => ?_⟩⟩
            refine ⟨by show 2 ≤ sizeLine; decide, fun p4 hp4 => ?_⟩
            have h34 : p3 ≠ p4 := fun q => by rw [← q, upd_same] at hp4; cases hp4
            refine k (.ref p4) (.known ks) _ ((((((b1.trans b2).trans b3).trans (Bt.new hp)).trans (Bt.new hp2)).trans (Bt.new hp3)).trans (Bt.new hp4)) ((((d3.new hp).new hp2).new hp3).new hp4)
              (.tup (SqT.of upd_same) (.cons (.str _) (.cons (.tup (SqT.of ((upd_ne h34).trans upd_same)) (dps_of_ints ks)) .nil))) ⟨?_, by omega, pw, ?_⟩
            · cases ns with
              | nil => simp at l3; omega
              | cons z ns =>
                have q := (mem z).2 (by simp)
                cases ks with
                | nil => simp at q
                | cons _ _ => simp
            · intro y hy
              have q := (mem y).1 hy
              have q2 := z3 y (of_decide_eq_true q)
              omega
        · have r4 : r ≠ 3 := fun q => e (by rw [q]; decide)
          refine ⟨by show 1 ≤ sizeLine; decide, fun p1 hp1 => ?_⟩
          refine rd_off rfl (d1.new hp1) (by decide) (by decide) fun x H2 x0 x1 b2 d2 => ?_
          refine ⟨by show 3 ≤ sizeLine; decide, fun p2 hp2 => ?_⟩
          refine ⟨by show 2 ≤ sizeLine; decide, fun l hl => ?_⟩
          obtain ⟨y, hy, hc⟩ := at_two (x := .ref p1) (y := .ref p2) (r := r - 4) (by omega) (by omega)
          refine ⟨_, rfl, _, _, rfl, rfl, l, _, _, y, rfl, rfl, SqL.of upd_same, hy, ?_⟩
          have bt := (((b1.trans (Bt.new hp1)).trans b2).trans (Bt.new (o := .tup [.str "chance", .int 2, .int x]) hp2)).trans (Bt.new (o := .lst [.ref p1, .ref p2]) hl)
          have n1 : p1 ∉ [d] := by
            simp only [List.mem_singleton]
            exact (d1.ne hp1).symm
          rcases hc with rfl | rfl
          · have g : H2 p1 = some (.tup [.str "any"]) := b2 _ _ n1 upd_same
            refine k (.ref p1) .any _ bt ((d2.new hp2).new hl) (.tup (SqT.of ?_) (.cons (.str _) .nil)) True.intro
            have q2 : p1 ≠ p2 := ne_of_none g hp2
            have g2 := (upd_ne (o := .tup [.str "chance", .int 2, .int x]) q2).trans g
            exact (upd_ne (ne_of_none g2 hl)).trans g2
          · refine k (.ref p2) (.chance 2 x) _ bt ((d2.new hp2).new hl) (.tup (SqT.of ?_) (.cons (.str _) (.cons (.int _) (.cons (.int _) .nil)))) ⟨by decide, by decide, x0, x1⟩
            exact (upd_ne (ne_of_none upd_same hl)).trans upd_same
end
end Mh
namespace Mh
open PySem L2
section
variable {P : Program} {w : World} {K : PySem.W.Frag} {mg : Str → Option Value} {base : Heap} {A : Adr}
theorem ok_answer (T : Txt K mg A) : FnOk P w K mg base CX0 2 A.answer A.answer_ ["_law_d"] (spGen K Asw.dt Asw.Ok) := by
  refine T.answer.F.ok sc_answer (fun vs H Q E h => ?_) (fun cdv Ar outer s H vs Q E hr h => ?_)
  · obtain ⟨d, rfl, _⟩ := h
    rfl
  · obtain ⟨d, rfl, hd, k⟩ := h
    refine ⟨_, (pss_cons (ps_set (i := 1) sc_answer.nd rfl (Or.inl rfl) (pe_call (ok_off T) (hr.mono (by decide)) (by rfl) T.off.n T.off.F.kp T.off.b .nil pass0 (pa_cons (pv 0) (pa_cons pe_int pa_nil))))
    (pss_cons (ps_set (i := 2) sc_answer.nd rfl (Or.inl rfl) (pe_ix ix_list (pe_lst (pa_cons (pe_op op_sub (pe_call (ok_off T) (hr.mono (by decide)) (by rfl) T.off.n T.off.F.kp T.off.b .nil pass0 (pa_cons (pv 0) (pa_cons pe_int pa_nil))) pe_int) (pa_cons (pe_op op_sub (pe_call (ok_off T) (hr.mono (by decide)) (by rfl) T.off.n T.off.F.kp T.off.b .nil pass0 (pa_cons (pv 0) (pa_cons pe_int pa_nil))) pe_int) pa_nil))) (pe_callTy call_int1 (by rfl) T.n_int (by decide +kernel) (pa_cons (pe_cmpR op_eq (pe_call (ok_off T) (hr.mono (by decide)) (by rfl) T.off.n T.off.F.kp T.off.b .nil pass0 (pa_cons (pv 0) (pa_cons pe_int pa_nil))) pe_int (nomark _)) pa_nil)) (fun _ _ => rfl)))
    (pss_cons (ps_if (pt_cmpR op_eq (pv 1) pe_int (nomark _))
    (pss_one (ps_ret (pe_tup (pa_cons pe_str (pa_cons (pe_op op_add pe_int (pe_call (ok_off T) (hr.mono (by decide)) (by rfl) T.off.n T.off.F.kp T.off.b .nil pass0 (pa_cons (pv 0) (pa_cons pe_int pa_nil)))) pa_nil)))))
    pss_nil)
    (pss_one (ps_ret (pe_ifExp (pt_cmpR op_eq (pv 1) pe_int (nomark _)) (pe_tup (pa_cons pe_str pa_nil)) (pe_tup (pa_cons (pe_ix ix_list (pe_lst (pa_cons pe_str (pa_cons pe_str (pa_cons pe_str pa_nil)))) (pv 1) (fun _ _ => rfl)) (pa_cons (pv 2) pa_nil))))))))), ?_⟩
    refine rd_off rfl hd (by decide) (by decide) fun r H1 r0 r1 b1 d1 => ?_
    refine rd_off rfl d1 (by decide) (by decide) fun x H2 x0 x1 b2 d2 => ?_
    refine ⟨_, _, rfl, rfl, ?_⟩
    refine rd_off rfl d2 (by decide) (by decide) fun y H3 y0 y1 b3 d3 => ?_
    refine ⟨_, _, rfl, rfl, ?_⟩
    refine ⟨by show 2 ≤ sizeLine; decide, fun l hl => ?_⟩
    refine rd_off rfl (d3.new hl) (by decide) (by decide) fun z H4 z0 z1 b4 d4 => ?_
    refine ⟨rfl, .inr ⟨_, rfl, ?_⟩⟩
    obtain ⟨n, hn, hc⟩ := at_two (x := .int (x - 2)) (y := .int (y - 9999)) (r := if decide (V.int z = V.int 0) = true then 1 else 0) (by split <;> decide) (by split <;> decide)
    have nl : l ∉ [d] := by
      simp only [List.mem_singleton]
      exact (d3.ne hl).symm
    refine ⟨l, _, _, n, rfl, rfl, SqL.of (b4 _ _ nl upd_same), hn, ?_⟩
    have bt : Bt [d] H H4 := (((b1.trans b2).trans b3).trans (Bt.new hl)).trans b4
    have hn2 : ∃ m, n = .int m ∧ -9999 ≤ m ∧ m ≤ 9999 := by
      rcases hc with rfl | rfl
      · exact ⟨_, rfl, by omega, by omega⟩
      · exact ⟨_, rfl, by omega, by omega⟩
    obtain ⟨m, rfl, m0, m1⟩ := hn2
    refine ⟨_, rfl, rfl, _, rfl, ite2 (fun e => ?_) (fun e => ?_)⟩
    · refine rd_off rfl d4 (by decide) (by decide) fun u H5 u0 u1 b5 d5 => ?_
      refine ⟨_, _, rfl, rfl, by show 2 ≤ sizeLine; decide, fun p hp => ?_⟩
      exact k (.ref p) (.rest (2 + u)) _ ((bt.trans b5).trans (Bt.new hp)) (d5.new hp) (.tup (SqT.of upd_same) (.cons (.str _) (.cons (.int _) .nil))) ⟨by omega, by omega⟩
    · have r3 : r ≠ 3 := fun q => e (by rw [q]; decide)
      refine ⟨_, rfl, rfl, _, rfl, ite2 (fun e => ?_) (fun e => ?_)⟩
      · refine ⟨by show 1 ≤ sizeLine; decide, fun p hp => ?_⟩
        exact k (.ref p) .non _ (bt.trans (Bt.new hp)) (d4.new hp) (.tup (SqT.of upd_same) (.cons (.str _) .nil)) True.intro
      · have r4 : r ≠ 4 := fun q => e (by rw [q]; decide)
        refine ⟨by show 3 ≤ sizeLine; decide, fun l2 hl2 => ?_⟩
        obtain ⟨c, hc2, hc3⟩ := at_three (x := .str "num") (y := .str "plus") (u := .str "times") (r := r) r0 (by omega)
        refine ⟨_, rfl, l2, _, _, c, rfl, rfl, SqL.of upd_same, hc2, _, rfl, by show 2 ≤ sizeLine; decide, fun p hp => ?_⟩
        have bt2 := (bt.trans (Bt.new (o := .lst [.str "num", .str "plus", .str "times"]) hl2)).trans (Bt.new (o := .tup [c, .int m]) hp)
        rcases hc3 with rfl | rfl | rfl
        · exact k (.ref p) (.num m) _ bt2 ((d4.new hl2).new hp) (.tup (SqT.of upd_same) (.cons (.str _) (.cons (.int _) .nil))) ⟨m0, m1⟩
        · exact k (.ref p) (.plus m) _ bt2 ((d4.new hl2).new hp) (.tup (SqT.of upd_same) (.cons (.str _) (.cons (.int _) .nil))) ⟨m0, m1⟩
        · exact k (.ref p) (.times m) _ bt2 ((d4.new hl2).new hp) (.tup (SqT.of upd_same) (.cons (.str _) (.cons (.int _) .nil))) ⟨m0, m1⟩
theorem ok_machine (T : Txt K mg A) : FnOk P w K mg base CX0 3 A.machine A.machine_ ["_law_d"] (spGen K machDt MachOk) := by
  refine T.machine.F.ok sc_machine (fun vs H Q E h => ?_) (fun cdv Ar outer s H vs Q E hr h => ?_)
  · obtain ⟨d, rfl, _⟩ := h
    rfl
  · obtain ⟨d, rfl, hd, k⟩ := h
    refine ⟨_, (pss_one (ps_ret (pe_callTy call_tuple_of (by rfl) T.n_tuple PyProof.Rows.boot_tuple (pa_cons (pe_lc (own := [("_law_k", 1)]) (g := gName 1) (tt := tYes) rfl sc_machine.nd (pi_range1 (by rfl) T.n_range (pa_cons (pe_op op_add pe_int (pe_call (ok_off T) (hr.mono (by decide)) (by rfl) T.off.n T.off.F.kp T.off.b .nil pass0 (pa_cons (pv 0) (pa_cons (pe_ix ix_list (pe_lst (pa_cons pe_int (pa_cons pe_int pa_nil))) (pe_call (ok_off T) (hr.mono (by decide)) (by rfl) T.off.n T.off.F.kp T.off.b .nil pass0 (pa_cons (pv 0) (pa_cons pe_int pa_nil))) (fun _ _ => rfl)) pa_nil)))) pa_nil)) (blkOk_by (N := N_machine) (sc := defScope s_machine) (by decide +kernel)) (fun _ _ _ _ _ => pg_name (i := 1) sc_machine.nd rfl (Or.inl rfl) (hf := Or.inr rfl)) (fun _ _ _ _ _ => pts_nil) (fun _ _ _ _ _ => (pe_tup (pa_cons (pe_call (ok_test T) (hr.mono (by decide)) (by rfl) T.test.n T.test.F.kp T.test.b .nil pass0 (pa_cons (pv 0) pa_nil)) (pa_cons (pe_call (ok_answer T) (hr.mono (by decide)) (by rfl) T.answer.n T.answer.F.kp T.answer.b .nil pass0 (pa_cons (pv 0) pa_nil)) pa_nil))))) pa_nil)))), ?_⟩
    refine ⟨_, rfl, rd_two (K := K) rfl hd fun z H1 hz b1 d1 => ?_⟩
    have hz2 : ∃ n, z = .int n ∧ 0 < n ∧ n ≤ 12 := by
      rcases hz with rfl | rfl
      · exact ⟨3, rfl, by decide, by decide⟩
      · exact ⟨12, rfl, by decide, by decide⟩
    obtain ⟨n, en, n0, n1⟩ := hz2
    refine nil_ (rd_offV en d1 n0 (by omega) fun m H2 m0 m1 b2 d2 => ?_)
    refine ⟨_, _, rfl, rfl, _, rfl, by omega, by omega, fun D hD => ?_⟩
    have nD := d2.ne hD
    have nD2 : D ∉ [d] := by
      simp only [List.mem_singleton]
      exact nD.symm
    refine lc_range (lo := 0) (n := (1 + m).toNat) (fun i H' => Bt [d] H2 H' ∧ DS d H' ∧ ∃ (vs : List V) (ms : Mach), H' D = some (.lst vs) ∧ DpAll K H' vs (ms.map rowDt) ∧ ms.length = i ∧ ∀ r ∈ ms, r.1.Ok ∧ r.2.Ok)
      ⟨Bt.new hD, d2.new hD, [], [], upd_same, .nil, rfl, by simp⟩ ?_ ?_
    · rintro i H3 hi ⟨b3, d3, vs, ms, h3, a3, l3, z3⟩
      refine ⟨rfl, ?_⟩
      refine yes_ ?_
      refine iteT ?_
      refine ⟨_, rfl, d, rfl, d3, fun v1 t H4 b4 d4 p4 o4 => ?_⟩
      refine ⟨_, rfl, d, rfl, d4, fun v2 a H5 b5 d5 p5 o5 => ?_⟩
      refine ⟨by show 2 ≤ sizeLine; decide, fun p hp => ?_⟩
      have h5 : H5 D = some (.lst vs) := b5 _ _ nD2 (b4 _ _ nD2 h3)
      have nDp : D ≠ p := ne_of_none h5 hp
      have vl : vs.length = i := by
        rw [← l3]
        have e := dps_len a3
        rwa [List.length_map] at e
      have kt1 : KT K H5 (upd H5 p (.tup [v1, v2])) := KT.new hp
      have kt2 : KT K H3 H5 := (d3.kt b4).trans (d4.kt b5)
      have td : TDs (ms.map rowDt) = true := tds_mem.mpr fun x hx => by
        obtain ⟨r, _, rfl⟩ := List.mem_map.mp hx
        exact row_td r
      refine ⟨vs, (upd_ne nDp).trans h5, by rw [sizeLine_eq]; omega, ?_⟩
      have b6 : Bt [d] H2 (upd (upd H5 p (.tup [v1, v2])) D (.lst (vs ++ [.ref p]))) := (((b3.trans b4).trans b5).trans (Bt.new hp)).put hD
      have kt3 : KT K (upd H5 p (.tup [v1, v2])) (upd (upd H5 p (.tup [v1, v2])) D (.lst (vs ++ [.ref p]))) :=
        (Bt.refl.set (S := [D]) (by simp)).kt1 ((upd_ne nDp).trans h5)
      refine ⟨b6, ?_, vs ++ [.ref p], ms ++ [(t, a)], upd_same, ?_, by simp [l3], ?_⟩
      · obtain ⟨ys, g1, g2⟩ := d5.new (o := .tup [v1, v2]) hp
        exact ⟨ys, (upd_ne nD).trans g1, g2⟩
      · rw [List.map_append]
        refine dps_snoc (dps_keep (kt2.trans (kt1.trans kt3)) _ _ td a3) ?_
        exact .tup (kt3 _ _ (SqT.of upd_same)) (.cons (dp_keep ((d4.kt b5).trans (kt1.trans kt3)) _ _ t.td p4) (.cons (dp_keep (kt1.trans kt3) _ _ a.td p5) .nil))
      · intro r hr2
        rcases List.mem_append.mp hr2 with h | h
        · exact z3 r h
        · have e2 : r = (t, a) := by simpa using h
          rw [e2]
          exact ⟨o4, o5⟩
    · rintro H3 ⟨b3, d3, vs, ms, h3, a3, l3, z3⟩
      refine ⟨D, vs, rfl, .inl ⟨SqL.of h3, fun p hp => ?_⟩⟩
      have td : TDs (ms.map rowDt) = true := tds_mem.mpr fun x hx => by
        obtain ⟨r, _, rfl⟩ := List.mem_map.mp hx
        exact row_td r
      exact k (.ref p) ms _ (((b1.trans b2).trans b3).trans (Bt.new hp)) (d3.new hp) (.tup (SqT.of upd_same) (dps_keep (KT.new hp) _ _ td a3)) ⟨by omega, by omega, z3⟩
end
end Mh
namespace Mh
open PySem L2
theorem putK_len {κ : Type} [DecidableEq κ] (kvs : List (κ × V)) (k : κ) (v : V) : (putK kvs k v).length ≤ kvs.length + 1 := by
  unfold putK
  split
  · simp
  · simp
theorem at_neg1 {x y : V} : atI [x, y] (-1) = some y := by simp [atI, ixN]
theorem at_neg1' {x : V} : atI [x] (-1) = some x := by simp [atI, ixN]
def spTold (K : PySem.W.Frag) : Sp := fun vs H Q _ => ∃ (v : V) (m : Mach) (q s : Int), vs = [v, .int q, .int s] ∧ Dp K H v (machDt m) ∧ MachOk m ∧ ∀ H', Same H H' → Q (oV (tell q s m)) H'
section
variable {P : Program} {w : World} {K : PySem.W.Frag} {mg : Str → Option Value} {base : Heap} {A : Adr}
/-- the dict of an answer's outcomes, behind its making -/
abbrev kNum : Key := Sum.inr "num"
abbrev kNone : Key := Sum.inr "none"
abbrev kPlus : Key := Sum.inr "plus"
abbrev kTimes : Key := Sum.inr "times"
abbrev kRest : Key := Sum.inr "rest"
def toldD (x : V) : List (Key × V) := mergeK [] [(kNum, x), (kNone, .non)]
theorem toldD_len (x : V) : (toldD x).length ≤ 2 := by
  have h1 := putK_len (putK [] kNum x) kNone V.non
  have h2 := putK_len ([] : List (Key × V)) kNum x
  have h3 : (toldD x).length = (putK (putK [] kNum x) kNone V.non).length := rfl
  rw [h3]
  simp at h2
  omega
theorem toldD_at (x : V) (k : Key) : valV (toldD x) k = if k = kNone then some .non else if k = kNum then some x else none := by
  show valV (putK (putK [] kNum x) kNone V.non) k = _
  rw [valV_put, valV_put]
  rfl
theorem ok_told (T : Txt K mg A) : FnOk P w K mg base CX0 1 A.told A.told_ ["_law_machine_here", "_law_question", "_law_grain"] (spTold K) := by
  refine T.told.F.ok sc_told (fun vs H Q E h => ?_) (fun cdv Ar outer s H vs Q E hr h => ?_)
  · obtain ⟨v, m, q, z, rfl, _⟩ := h
    rfl
  · obtain ⟨v, m, q, z, rfl, hv, ⟨l1, l12, ho⟩, k⟩ := h
    obtain ⟨p, vs, rfl, hs, ha⟩ := dp_tup hv
    refine ⟨_, (pss_cons (ps_for PassesOwn.never rfl (pi_tup (pv 0)) (pg_tup rfl (pgs_cons (pg_name (i := 3) sc_told.nd rfl (Or.inl rfl)) (pgs_cons (pg_name (i := 4) sc_told.nd rfl (Or.inl rfl)) pgs_nil)))
    (pss_at 4 (pss_cons (ps_set (i := 5) sc_told.nd rfl (Or.inl rfl) (pe_ix ix_tup (pv 3) pe_int (fun _ _ => rfl)))
    (pss_cons (ps_set (i := 6) sc_told.nd rfl (Or.inl rfl) (pe_or (pe_cmpR op_eq (pv 5) pe_str (nomark _)) (pe_one (pe_and (pe_cmpR op_eq (pv 5) pe_str (nomark _)) (pe_one (pe_cmpR op_in_seq (pv 1) (pe_ix ix_tup (pv 3) pe_int (fun _ _ => rfl)) (by rfl)))))))
    (pss_cons (ps_if (pt_cmpR op_eq (pv 5) pe_str (nomark _))
    (pss_one (ps_set (i := 6) sc_told.nd rfl (Or.inl rfl) (pe_cmpR op_lt (pv 1) (pe_ix ix_tup (pv 3) pe_int (fun _ _ => rfl)) (nomark _))))
    pss_nil)
    (pss_one (ps_if (pt_cmpR op_in_seq (pv 5) (pe_tup (pa_cons pe_str (pa_cons pe_str pa_nil))) (by rfl))
    (pss_cons (ps_set (i := 7) sc_told.nd rfl (Or.inl rfl) (pe_ifExp (pt_cmpR op_eq (pv 5) pe_str (nomark _)) (pv 1) (pe_op op_add (pe_op op_mul pe_int (pv 1)) (pe_op op_mul pe_int (pv 2)))))
    (pss_one (ps_set (i := 6) sc_told.nd rfl (Or.inl rfl) (pe_cmpR op_eq (pe_op op_sub (pv 7) (pe_op op_mul (pe_op op_fdiv (pv 7) (pe_ix ix_tup (pv 3) pe_int (fun _ _ => rfl))) (pe_ix ix_tup (pv 3) pe_int (fun _ _ => rfl)))) (pe_ix ix_tup (pv 3) pe_int (fun _ _ => rfl)) (nomark _)))))
    pss_nil)))))
    (pss_one (ps_if (pt_val (pv 6))
    (pss_cons (ps_set (i := 8) sc_told.nd rfl (Or.inl rfl) (pe_disp (pps_cons pe_str (pe_ix ix_tup (pv 4) (pe_un un_neg pe_int) (fun _ _ => rfl)) (pps_cons pe_str pe_non pps_nil)) (by rfl) (by rfl) (fun z => by cases z) (by decide)))
    (pss_cons (ps_if (pt_cmp (pc_dnotin (hu_of hr) (pe_ix ix_tup (pv 4) pe_int (fun _ _ => rfl)) (pv 8)))
    (pss_cons (ps_dput (hu_of hr) (pv 8) pe_str (pe_op op_add (pv 1) (pe_ix ix_tup (pv 4) pe_int (fun _ _ => rfl))) rfl)
    (pss_cons (ps_dput (hu_of hr) (pv 8) pe_str (pe_op op_mul (pv 1) (pe_ix ix_tup (pv 4) pe_int (fun _ _ => rfl))) rfl)
    (pss_one (ps_dput (hu_of hr) (pv 8) pe_str (pe_op op_sub (pv 1) (pe_op op_mul (pe_op op_fdiv (pv 1) (pe_callB (call_max2 rfl) (by rfl) T.n_max (by decide +kernel) (pa_cons pe_int (pa_cons (pe_ix ix_tup (pv 4) pe_int (fun _ _ => rfl)) pa_nil)))) (pe_ix ix_tup (pv 4) pe_int (fun _ _ => rfl)))) rfl))))
    pss_nil)
    (pss_one (ps_ret (pe_dget (hu_of hr) (pv 8) (pe_ix ix_tup (pv 4) pe_int (fun _ _ => rfl)) (fun _ _ => rfl))))))
    pss_nil))))
    (pss_one (ps_ret pe_non))), ?_⟩
    refine ⟨_, rfl, p, rfl, ⟨vs, hs⟩, for_tup (K := K) (a := p) (xs := vs) (fun i σ H' => Same H H' ∧ (∃ x3 x4 x5 x6 x7 x8, σ = [some (.ref p), some (.int q), some (.int z), x3, x4, x5, x6, x7, x8]) ∧ tell q z m = tell q z (m.drop i)) ⟨Same.refl H, ⟨_, _, _, _, _, _, rfl⟩, rfl⟩
      (fun i σ H' _ ⟨e, _⟩ => KT.same e _ _ hs) ?_ ?_⟩
    · rintro i x σ H1 hi ⟨sm, ⟨x3, x4, x5, x6, x7, x8, rfl⟩, et⟩
      obtain ⟨t, a, hm, b, u, y, rfl, hb, hu, hy⟩ := row_at ha hi
      obtain ⟨ok1, ok2⟩ := ho _ (List.mem_of_getElem? hm)
      rw [drop_at hm] at et
      have kt := KT.same (K := K) sm
      have hu1 := dp_keep kt _ _ t.td hu
      have hy1 := dp_keep kt _ _ a.td hy
      refine ⟨b, _, rfl, kt _ _ hb, rfl, _, _, rfl, _, _, rfl, rfl, ?_⟩
      have hw : ∃ wd ar, t.dt = .tuple (.str wd :: ar) := by cases t <;> exact ⟨_, _, rfl⟩
      have tb : ∃ b1 xs, u = .ref b1 ∧ SqT K H1 b1 xs := by
        obtain ⟨wd, ar, e⟩ := hw
        rw [e] at hu1
        obtain ⟨b1, xs, e1, e2, _⟩ := dp_tup hu1
        exact ⟨b1, xs, e1, e2⟩
      refine ⟨fun σ' H' => Same H H' ∧ ∃ x5 x7 x8, σ' = [some (.ref p), some (.int q), some (.int z), some u, some y, x5, some (.bl (t.holds q z)), x7, x8], ?_, ?_⟩
      · clear hm et ok2 hy hy1
        cases t with
        | any =>
          obtain ⟨b1, rfl, hb1⟩ := dp_1 hu1
          refine ⟨_, rfl, b1, _, _, _, rfl, rfl, hb1, at0, ?_⟩
          refine ⟨_, rfl, rfl, _, rfl, ifp (by decide +kernel) ?_⟩
          refine ⟨_, rfl, rfl, _, rfl, ifn (by decide +kernel) ?_⟩
          refine ⟨_, rfl, by show 2 ≤ sizeLine; decide, fun tp htp => ⟨tp, _, rfl, .inr (SqT.of upd_same), rfl, rfl, _, rfl, ifn (by decide +kernel) ?_⟩⟩
          exact ⟨same_put sm (sm.free htp), _, _, _, rfl⟩
        | below n =>
          obtain ⟨b1, rfl, hb1⟩ := dp_2i hu1
          refine ⟨_, rfl, b1, _, _, _, rfl, rfl, hb1, at0, ?_⟩
          refine ⟨_, rfl, rfl, _, rfl, ifn (by decide +kernel) ?_⟩
          refine ⟨_, rfl, rfl, _, rfl, ifn (by decide +kernel) ?_⟩
          refine ⟨_, rfl, rfl, _, rfl, ifp (by decide +kernel) ?_⟩
          refine ⟨_, rfl, _, rfl, b1, _, _, _, rfl, rfl, hb1, at1, _, _, rfl, rfl, ?_⟩
          refine ⟨_, rfl, by show 2 ≤ sizeLine; decide, fun tp htp => ⟨tp, _, rfl, .inr (SqT.of upd_same), rfl, rfl, _, rfl, ifn (by decide +kernel) ?_⟩⟩
          exact ⟨same_put sm (sm.free htp), _, _, _, rfl⟩
        | rest m r =>
          obtain ⟨h1, h2, h3, h4⟩ := ok1
          obtain ⟨b1, rfl, hb1⟩ := dp_3i hu1
          refine ⟨_, rfl, b1, _, _, _, rfl, rfl, hb1, at0, ?_⟩
          refine ⟨_, rfl, rfl, _, rfl, ifn (by decide +kernel) ?_⟩
          refine ⟨_, rfl, rfl, _, rfl, ifn (by decide +kernel) ?_⟩
          refine ⟨_, rfl, rfl, _, rfl, ifn (by decide +kernel) ?_⟩
          refine ⟨_, rfl, by show 2 ≤ sizeLine; decide, fun tp htp => ⟨tp, _, rfl, .inr (SqT.of upd_same), rfl, rfl, _, rfl, ifp (by decide +kernel) ?_⟩⟩
          have hb2 := KT.new (K := K) (o := .tup [.str "rest", .str "chance"]) htp _ _ hb1
          refine ⟨_, rfl, rfl, _, rfl, ifp (by decide +kernel) ?_⟩
          refine ⟨_, rfl, ?_⟩
          refine ⟨_, rfl, _, rfl, _, rfl, b1, _, _, _, rfl, rfl, hb2, at1, _, _, rfl, rfl, ⟨by omega, by omega⟩, _, rfl, b1, _, _, _, rfl, rfl, hb2, at1, _, _, rfl, rfl, .inr ⟨by omega, by omega⟩, _, _, rfl, rfl, ?_⟩
          refine ⟨_, rfl, b1, _, _, _, rfl, rfl, hb2, at2, rfl, ?_⟩
          refine ⟨same_put sm (sm.free htp), ?_⟩
          have e : decide (V.int (q - q / m * m) = V.int r) = Tst.holds q z (.rest m r) := by
            rw [dI]
            show _ = decide (q % m = r)
            rw [Int.emod_def, Int.mul_comm m]
          rw [← e]
          exact ⟨_, _, _, rfl⟩
        | chance m r =>
          obtain ⟨h1, h2, h3, h4⟩ := ok1
          obtain ⟨b1, rfl, hb1⟩ := dp_3i hu1
          refine ⟨_, rfl, b1, _, _, _, rfl, rfl, hb1, at0, ?_⟩
          refine ⟨_, rfl, rfl, _, rfl, ifn (by decide +kernel) ?_⟩
          refine ⟨_, rfl, rfl, _, rfl, ifn (by decide +kernel) ?_⟩
          refine ⟨_, rfl, rfl, _, rfl, ifn (by decide +kernel) ?_⟩
          refine ⟨_, rfl, by show 2 ≤ sizeLine; decide, fun tp htp => ⟨tp, _, rfl, .inr (SqT.of upd_same), rfl, rfl, _, rfl, ifp (by decide +kernel) ?_⟩⟩
          have hb2 := KT.new (K := K) (o := .tup [.str "rest", .str "chance"]) htp _ _ hb1
          refine ⟨_, rfl, rfl, _, rfl, ifn (by decide +kernel) ?_⟩
          refine ⟨_, rfl, _, _, rfl, rfl, .inl (by decide), _, rfl, _, _, rfl, rfl, .inl (by decide), _, _, rfl, rfl, ?_⟩
          refine ⟨_, rfl, _, rfl, _, rfl, b1, _, _, _, rfl, rfl, hb2, at1, _, _, rfl, rfl, ⟨by omega, by omega⟩, _, rfl, b1, _, _, _, rfl, rfl, hb2, at1, _, _, rfl, rfl, .inr ⟨by omega, by omega⟩, _, _, rfl, rfl, ?_⟩
          refine ⟨_, rfl, b1, _, _, _, rfl, rfl, hb2, at2, rfl, ?_⟩
          refine ⟨same_put sm (sm.free htp), ?_⟩
          have e : decide (V.int ((7 * q + 13 * z) - (7 * q + 13 * z) / m * m) = V.int r) = Tst.holds q z (.chance m r) := by
            rw [dI]
            show _ = decide ((7 * q + 13 * z) % m = r)
            rw [Int.emod_def, Int.mul_comm m]
          rw [← e]
          exact ⟨_, _, _, rfl⟩
        | known ks =>
          obtain ⟨b1, u2, rfl, hb1, hu2⟩ := dp_2 hu1
          obtain ⟨b2, xs, rfl, hb2, hx⟩ := dp_tup hu2
          have e := dps_ints hx
          subst e
          refine ⟨_, rfl, b1, _, _, _, rfl, rfl, hb1, at0, ?_⟩
          refine ⟨_, rfl, rfl, _, rfl, ifn (by decide +kernel) ?_⟩
          refine ⟨_, rfl, rfl, _, rfl, ifp (by decide +kernel) ?_⟩
          refine ⟨_, rfl, _, rfl, b1, _, _, _, rfl, rfl, hb1, at1, b2, _, rfl, .inr hb2, rfl, flat_ints, ?_⟩
          refine ⟨_, rfl, rfl, _, rfl, ifn (by decide +kernel) ?_⟩
          refine ⟨_, rfl, by show 2 ≤ sizeLine; decide, fun tp htp => ⟨tp, _, rfl, .inr (SqT.of upd_same), rfl, rfl, _, rfl, ifn (by decide +kernel) ?_⟩⟩
          refine ⟨same_put sm (sm.free htp), ?_⟩
          have e : (if false = true then !inV (.int q) (ks.map V.int) else inV (.int q) (ks.map V.int)) = Tst.holds q z (.known ks) := by
            rw [if_neg Bool.false_ne_true, inV_ints]
            rfl
          rw [← e]
          exact ⟨_, _, _, rfl⟩
      · rintro σ2 H2 ⟨sm2, x5', x7', x8', rfl⟩
        clear hw tb hu1
        have hy2 := dp_keep (KT.same (K := K) sm2) _ _ a.td hy
        refine ⟨_, rfl, _, rfl, ite2 (fun e => ?_) (fun e => ?_)⟩
        · have et2 : tell q z m = a.out q := by
            rw [et]
            show (if t.holds q z = true then a.out q else _) = _
            rw [if_pos e]
          rw [et2] at k
          have cases3 : (∃ c x, y = .ref c ∧ (∃ r, SqT K H2 c (.str "num" :: r) ∧ atI (V.str "num" :: r) (-1) = some x) ∧ oV (a.out q) = x) ∨ (∃ c, y = .ref c ∧ SqT K H2 c [.str "none"] ∧ oV (a.out q) = .non) ∨
              ∃ c wd n, y = .ref c ∧ SqT K H2 c [.str wd, .int n] ∧ -9999 ≤ n ∧ n ≤ 9999 ∧ ((wd = "plus" ∧ oV (a.out q) = .int (q + n)) ∨ (wd = "times" ∧ oV (a.out q) = .int (q * n)) ∨ (wd = "rest" ∧ oV (a.out q) = .int (q - q / (if n > 1 then n else 1) * n))) := by
            cases a with
            | num n =>
              obtain ⟨c, rfl, hc⟩ := dp_2i hy2
              exact .inl ⟨c, .int n, rfl, ⟨_, hc, at_neg1⟩, rfl⟩
            | plus n =>
              obtain ⟨c, rfl, hc⟩ := dp_2i hy2
              exact .inr (.inr ⟨c, _, n, rfl, hc, ok2.1, ok2.2, .inl ⟨rfl, rfl⟩⟩)
            | times n =>
              obtain ⟨c, rfl, hc⟩ := dp_2i hy2
              exact .inr (.inr ⟨c, _, n, rfl, hc, ok2.1, ok2.2, .inr (.inl ⟨rfl, rfl⟩)⟩)
            | rest n =>
              obtain ⟨c, rfl, hc⟩ := dp_2i hy2
              have h2 := ok2.1
              have h3 := ok2.2
              refine .inr (.inr ⟨c, _, n, rfl, hc, by omega, by omega, .inr (.inr ⟨rfl, ?_⟩)⟩)
              rw [if_pos (by omega)]
              show V.int (q % n) = _
              rw [Int.emod_def, Int.mul_comm n]
            | non =>
              obtain ⟨c, rfl, hc⟩ := dp_1 hy2
              exact .inr (.inl ⟨c, rfl, hc, rfl⟩)
          clear hy2 hy et et2
          rcases cases3 with ⟨c, x, rfl, ⟨r, hc, hx⟩, ev⟩ | ⟨c, rfl, hc, ev⟩ | ⟨c, wd, n, rfl, hc, n0, n1, ev⟩
          · rw [ev] at k
            refine fun p2 hp2 => ⟨_, rfl, _, rfl, c, _, _, _, rfl, rfl, KT.new hp2 _ _ hc, hx, upd_same, [(kNum, x), (kNone, .non)], rfl, by show 2 ≤ 15; decide, ?_⟩
            have s3 : Same H2 (upd (upd H2 p2 (.dK [])) p2 (.dK (toldD x))) := same_put (same_put (Same.refl H2) hp2) hp2
            have hd : upd (upd H2 p2 (.dK [])) p2 (.dK (toldD x)) p2 = some (.dK (toldD x)) := upd_same
            have hc3 := KT.same (K := K) s3 _ _ hc
            have ex : valV (toldD x) kNum = some x := by rw [toldD_at, if_neg (by decide +kernel), if_pos rfl]
            have gd : DGet (upd (upd H2 p2 (.dK [])) p2 (.dK (toldD x))) p2 (.str "num") (some x) := by
              have g := DGet.k (k := kNum) hd
              rwa [ex] at g
            refine ⟨_, rfl, c, _, _, _, rfl, rfl, hc3, at0, _, rfl, p2, _, rfl, gd, _, rfl, ?_⟩
            refine ifn (by simp) ?_
            exact ⟨_, rfl, _, rfl, c, _, _, _, rfl, rfl, hc3, at0, p2, x, rfl, gd, k _ (sm2.trans s3)⟩
          · rw [ev] at k
            refine fun p2 hp2 => ⟨_, rfl, _, rfl, c, _, _, _, rfl, rfl, KT.new hp2 _ _ hc, at_neg1', upd_same, [(kNum, .str "none"), (kNone, .non)], rfl, by show 2 ≤ 15; decide, ?_⟩
            have s3 : Same H2 (upd (upd H2 p2 (.dK [])) p2 (.dK (toldD (.str "none")))) := same_put (same_put (Same.refl H2) hp2) hp2
            have hd : upd (upd H2 p2 (.dK [])) p2 (.dK (toldD (.str "none"))) p2 = some (.dK (toldD (.str "none"))) := upd_same
            have hc3 := KT.same (K := K) s3 _ _ hc
            have ex : valV (toldD (.str "none")) kNone = some .non := by rw [toldD_at, if_pos rfl]
            have gd : DGet (upd (upd H2 p2 (.dK [])) p2 (.dK (toldD (.str "none")))) p2 (.str "none") (some .non) := by
              have g := DGet.k (k := kNone) hd
              rwa [ex] at g
            refine ⟨_, rfl, c, _, _, _, rfl, rfl, hc3, at0, _, rfl, p2, _, rfl, gd, _, rfl, ?_⟩
            refine ifn (by simp) ?_
            exact ⟨_, rfl, _, rfl, c, _, _, _, rfl, rfl, hc3, at0, p2, .non, rfl, gd, k _ (sm2.trans s3)⟩
          · refine fun p2 hp2 => ⟨_, rfl, _, rfl, c, _, _, _, rfl, rfl, KT.new hp2 _ _ hc, at_neg1, upd_same, [(kNum, .int n), (kNone, .non)], rfl, by show 2 ≤ 15; decide, ?_⟩
            have s3 : Same H2 (upd (upd H2 p2 (.dK [])) p2 (.dK (toldD (.int n)))) := same_put (same_put (Same.refl H2) hp2) hp2
            have hd : upd (upd H2 p2 (.dK [])) p2 (.dK (toldD (.int n))) p2 = some (.dK (toldD (.int n))) := upd_same
            have hc3 := KT.same (K := K) s3 _ _ hc
            have ex : valV (toldD (.int n)) (Sum.inr wd) = none := by
              rw [toldD_at]
              rcases ev with ⟨rfl, _⟩ | ⟨rfl, _⟩ | ⟨rfl, _⟩
              · rw [if_neg (by decide +kernel), if_neg (by decide +kernel)]
              · rw [if_neg (by decide +kernel), if_neg (by decide +kernel)]
              · rw [if_neg (by decide +kernel), if_neg (by decide +kernel)]
            have gd : DGet (upd (upd H2 p2 (.dK [])) p2 (.dK (toldD (.int n)))) p2 (.str wd) none := by
              have g := DGet.k (k := Sum.inr wd) hd
              rwa [ex] at g
            refine ⟨_, rfl, c, _, _, _, rfl, rfl, hc3, at0, _, rfl, p2, _, rfl, gd, _, rfl, ?_⟩
            refine ifp rfl ?_
            have L0 := toldD_len (.int n)
            have L1 := putK_len (toldD (.int n)) kPlus (.int (q + n))
            have L2 := putK_len (putK (toldD (.int n)) kPlus (.int (q + n))) kTimes (.int (q * n))
            have hL : sizeLine = 16777216 := sizeLine_eq
            have B1 : (putK (toldD (.int n)) kPlus (.int (q + n))).length < sizeLine := by omega
            have B2 : (putK (putK (toldD (.int n)) kPlus (.int (q + n))) kTimes (.int (q * n))).length < sizeLine := by omega
            refine ⟨_, rfl, _, rfl, c, _, _, _, rfl, rfl, hc3, at1, _, _, rfl, rfl, _, rfl, p2, _, rfl, DPut.k (k := kPlus) hd (by omega), ?_⟩
            have s4 := same_put (Same.trans (Same.refl H2) s3) (o := .dK (putK (toldD (.int n)) kPlus (.int (q + n)))) hp2
            have hc4 := KT.same (K := K) s4 _ _ hc
            refine ⟨_, rfl, _, rfl, c, _, _, _, rfl, rfl, hc4, at1, _, _, rfl, rfl, .inr ⟨by omega, by omega⟩, _, rfl, p2, _, rfl, DPut.k (k := kTimes) upd_same B1, ?_⟩
            have s5 := same_put s4 (o := .dK (putK (putK (toldD (.int n)) kPlus (.int (q + n))) kTimes (.int (q * n)))) hp2
            have hc5 := KT.same (K := K) s5 _ _ hc
            refine ⟨_, rfl, _, rfl, _, rfl, c, _, _, _, rfl, rfl, hc5, at1, _, _, rfl, _, _, rfl, rfl, ⟨by split <;> omega, by split <;> omega⟩, _, rfl, c, _, _, _, rfl, rfl, hc5, at1, _, _, rfl, rfl, .inr ⟨by omega, by omega⟩, _, _, rfl, rfl, _, rfl, p2, _, rfl,
              DPut.k (k := kRest) upd_same B2, ?_⟩
            have s6 := same_put s5 (o := .dK (putK (putK (putK (toldD (.int n)) kPlus (.int (q + n))) kTimes (.int (q * n))) kRest (.int (q - q / (if n > 1 then n else 1) * n)))) hp2
            have hc6 := KT.same (K := K) s6 _ _ hc
            have ex6 : valV (putK (putK (putK (toldD (.int n)) kPlus (.int (q + n))) kTimes (.int (q * n))) kRest (.int (q - q / (if n > 1 then n else 1) * n))) (Sum.inr wd) = some (oV (a.out q)) := by
              rw [valV_put, valV_put, valV_put]
              rcases ev with ⟨rfl, ev⟩ | ⟨rfl, ev⟩ | ⟨rfl, ev⟩
              · rw [if_neg (by decide +kernel), if_neg (by decide +kernel), if_pos rfl, ev]
              · rw [if_neg (by decide +kernel), if_pos rfl, ev]
              · rw [if_pos rfl, ev]
            have g : ∀ H9 : Hp, DGet (upd H9 p2 (.dK (putK (putK (putK (toldD (.int n)) kPlus (.int (q + n))) kTimes (.int (q * n))) kRest (.int (q - q / (if n > 1 then n else 1) * n))))) p2 (.str wd) (some (oV (a.out q))) := fun H9 => by
              have g0 := DGet.k (k := Sum.inr wd) (upd_same (H := H9) (a := p2) (o := .dK (putK (putK (putK (toldD (.int n)) kPlus (.int (q + n))) kTimes (.int (q * n))) kRest (.int (q - q / (if n > 1 then n else 1) * n)))))
              rwa [ex6] at g0
            exact ⟨_, rfl, _, rfl, c, _, _, _, rfl, rfl, hc6, at0, p2, _, rfl, g _, k _ (sm2.trans s6)⟩
        · refine ⟨sm2, ⟨_, _, _, _, _, _, rfl⟩, ?_⟩
          rw [et]
          show (if t.holds q z = true then a.out q else _) = _
          rw [if_neg e]
    · rintro σ H1 ⟨sm, _, et⟩
      have hl : vs.length = m.length := by
        have e := dps_len ha
        rwa [List.length_map] at e
      rw [hl, List.drop_length] at et
      have e := k H1 sm
      rw [et] at e
      exact e
end
end Mh
namespace Mh
open PySem L2
def spAlike (K : PySem.W.Frag) (n : Nat) : Sp := fun vs H Q _ => ∃ (x y : V) (dd : PyData), vs = [x, y] ∧ Dp K H x dd ∧ Dp K H y dd ∧ deep n dd = true ∧ ∀ H', Same H H' → Q (.bl true) H'
section
variable {P : Program} {w : World} {K : PySem.W.Frag} {mg : Str → Option Value} {base : Heap} {A : Adr}
end
end Mh
namespace Mh
open PySem L2
theorem seqIx {i : Int} {n : Nat} (h0 : 0 ≤ i) (h1 : i < n) : seqIndex? i n = some i.toNat := by
  unfold seqIndex?
  have e : (if i < 0 then i + (n : Int) else i) = i := if_neg (by omega)
  simp only [e]
  rw [if_pos (by simp [h0, h1])]
/-- what may be mixed -/
def Mixable (K : PySem.W.Frag) (H : Hp) (zs : List (V × PyData)) : Prop := ∀ z ∈ zs, Dp K H z.1 z.2 ∧ TD z.2 = true ∧ Sh 20 z.2
theorem Mixable.kt {K : PySem.W.Frag} {H H' : Hp} {zs : List (V × PyData)} (h : Mixable K H zs) (kt : KT K H H') : Mixable K H' zs := fun z hz =>
  ⟨dp_keep kt _ _ (h z hz).2.1 (h z hz).1, (h z hz).2⟩
theorem Mixable.perm {K : PySem.W.Frag} {H : Hp} {zs ys : List (V × PyData)} (h : Mixable K H zs) (p : ys.Perm zs) : Mixable K H ys := fun z hz => h z (p.mem_iff.mp hz)
def spMixed (K : PySem.W.Frag) : Sp := fun vs H Q _ => ∃ (d a : Addr) (zs : List (V × PyData)), vs = [.ref d, .ref a] ∧ DS d H ∧ SqL K H a (zs.map (·.1)) ∧ zs.length ≤ 1000 ∧ Mixable K H zs ∧
  ∀ (p : Addr) (ys : List (V × PyData)) (H' : Hp), H p = none → Bt [d] H H' → DS d H' → H' p = some (.lst (ys.map (·.1))) → ys.Perm zs → Mixable K H' ys → Q (.ref p) H'
section
variable {P : Program} {w : World} {K : PySem.W.Frag} {mg : Str → Option Value} {base : Heap} {A : Adr}
theorem ok_mixed (T : Txt K mg A) : FnOk P w K mg base CX0 2 A.mixed A.mixed_ ["_law_d", "_law_row"] (spMixed K) := by
  refine T.mixed.F.ok sc_mixed (fun vs H Q E h => ?_) (fun cdv Ar outer s H vs Q E hr h => ?_)
  · obtain ⟨d, a, zs, rfl, _⟩ := h
    rfl
  · obtain ⟨d, a, zs, rfl, hd, hs, hz, mx, k⟩ := h
    refine ⟨_, (pss_cons (ps_set (i := 2) sc_mixed.nd rfl (Or.inl rfl) (pe_callTy call_list_of (by rfl) T.n_list (by decide +kernel) (pa_cons (pv 1) pa_nil)))
    (pss_cons (ps_set (i := 3) sc_mixed.nd rfl (Or.inl rfl) (pe_lst pa_nil))
    (pss_cons (ps_while PassesOwn.never (pt_cmpR (op_neD hr.units) (pv 2) (pe_lst pa_nil) (nomark _))
    (pss_one (ps_expr (pe_bm PySem.F.plainAttrs_list PySem.F.slot_list_append PySem.F.type_list_append mt_append (pv 3) (pa_cons (pe_bm PySem.F.plainAttrs_list PySem.F.slot_list_pop PySem.F.type_list_pop mt_popAt (pv 2) (pa_cons (pe_call (ok_off T) (hr.mono (by decide)) (by rfl) T.off.n T.off.F.kp T.off.b .nil pass0 (pa_cons (pv 0) (pa_cons (pe_callB call_len_seq (by rfl) T.n_len PySem.boot_len (pa_cons (pv 2) pa_nil)) pa_nil))) pa_nil)) pa_nil)))))
    (pss_one (ps_ret (pv 3)))))), ?_⟩
    refine ⟨_, rfl, a, _, rfl, .inl hs, fun l hl => ?_⟩
    refine ⟨Nat.zero_le _, fun f hf => ?_⟩
    have ndl := hd.ne hl
    have hd1 := hd.new (o := .lst (zs.map (·.1))) hl
    have ndf := hd1.ne hf
    have nlf : l ≠ f := ne_of_none upd_same hf
    have hf0 : H f = none := (Bt.new (S := []) hl).free (by simp) hf
    refine ⟨fun m σ H' => ∃ zs1 zs2 : List (V × PyData), m = zs1.length ∧ σ = [some (.ref d), some (.ref a), some (.ref l), some (.ref f)] ∧ H' l = some (.lst (zs1.map (·.1))) ∧ H' f = some (.lst (zs2.map (·.1))) ∧ (zs2 ++ zs1).Perm zs ∧ DS d H' ∧ Bt [d] H H' ∧ Mixable K H' (zs2 ++ zs1),
      ⟨_, zs, [], rfl, rfl, (upd_ne nlf).trans upd_same, upd_same, List.Perm.refl _, hd1.new hf, (Bt.new hl).trans (Bt.new hf), mx.kt ((KT.new hl).trans (KT.new hf))⟩, ?_⟩
    rintro m σ H1 ⟨zs1, zs2, rfl, rfl, h1, h2, pm, d1, b1, mx1⟩
    have len2 : zs2.length + zs1.length ≤ 1000 := by
      have e := pm.length_eq
      rw [List.length_append] at e
      omega
    refine ⟨_, rfl, Nat.zero_le _, fun e he => ?_⟩
    have mxe := (mx1.kt (KT.new (o := .lst []) he))
    refine ⟨.list (zs1.map fun z : V × PyData => z.2), .list [], .lst (SqL.of ((upd_ne (ne_of_none h1 he)).trans h1)) (dps_zip fun z hz => (mxe z (List.mem_append_right _ hz)).1), .lst (SqL.of upd_same) .nil,
      (sh_list (n := 20) fun x hx => by
        obtain ⟨z, hz, rfl⟩ := List.mem_map.mp hx
        exact (mx1 z (List.mem_append_right _ hz)).2.2).shaped (by decide), (sh_list (n := 20) (ds := []) (by simp)).shaped (by decide), _, rfl, ?_⟩
    rw [eqv_nil]
    have h1' := (upd_ne (o := .lst []) (ne_of_none h1 he)).trans h1
    have h2' := (upd_ne (o := .lst []) (ne_of_none h2 he)).trans h2
    cases zs1 with
    | nil =>
      refine ifn (by simp) ?_
      have d1e := d1.new (o := .lst []) he
      refine ⟨_, rfl, k f zs2 _ hf0 (b1.trans (Bt.new he)) d1e h2' (by simpa using pm) (by simpa using mxe)⟩
    | cons z0 zr =>
      refine ifp (by simp) ?_
      refine ⟨fun σ H' => ∃ zs1 zs2 : List (V × PyData), zr.length = zs1.length ∧ σ = [some (.ref d), some (.ref a), some (.ref l), some (.ref f)] ∧ H' l = some (.lst (zs1.map (·.1))) ∧ H' f = some (.lst (zs2.map (·.1))) ∧ (zs2 ++ zs1).Perm zs ∧ DS d H' ∧ Bt [d] H H' ∧ Mixable K H' (zs2 ++ zs1),
        fun σ' H' w' => ⟨zr.length, by simp, w'⟩, ?_⟩
      refine ⟨_, rfl, .inl ⟨rfl, _, SqL.of h2'⟩, ?_⟩
      refine ⟨_, rfl, .inl ⟨rfl, _, SqL.of h1'⟩, ?_⟩
      simp only [List.length_cons] at len2
      refine ⟨_, rfl, _, rfl, l, _, rfl, .inl (SqL.of h1'), nil_ (rd_offV rfl (d1.new he) (by show (0 : Int) < (((z0 :: zr).map (·.1)).length : Nat); simp only [List.length_map, List.length_cons]; omega) (by simp only [List.length_map, List.length_cons]; omega) fun r H2 r0 r1 b2 d2 => ?_)⟩
      simp only [List.length_map, List.length_cons] at r1
      have nl : l ∉ [d] := by
        simp only [List.mem_singleton]
        exact ndl.symm
      have nf : f ∉ [d] := by
        simp only [List.mem_singleton]
        exact ndf.symm
      have g1 := b2 _ _ nl h1'
      have g2 := b2 _ _ nf h2'
      have hlt : r.toNat < (z0 :: zr).length := by simp only [List.length_cons]; omega
      refine ⟨l, _, r, r.toNat, ((z0 :: zr)[r.toNat]).1, rfl, rfl, g1, by omega, by omega, ?_, ?_, ?_⟩
      · exact seqIx r0 (by simp only [List.length_map, List.length_cons]; omega)
      · rw [List.getElem?_map, List.getElem?_eq_getElem hlt]
        rfl
      have g2' : upd H2 l (.lst (((z0 :: zr).map (·.1)).eraseIdx r.toNat)) f = some (.lst (zs2.map (·.1))) := (upd_ne nlf.symm).trans g2
      refine ⟨f, _, _, rfl, rfl, g2', by rw [List.length_map, sizeLine_eq]; omega, ?_⟩
      have pm2 : ((zs2 ++ [(z0 :: zr)[r.toNat]]) ++ (z0 :: zr).eraseIdx r.toNat).Perm (zs2 ++ z0 :: zr) := by
        rw [List.append_assoc]
        exact List.Perm.append_left zs2 (perm_erase (List.getElem?_eq_getElem hlt))
      have hl0 : H l = none := hl
      have btAll : Bt [d] H (upd (upd H2 l (.lst (((z0 :: zr).map (·.1)).eraseIdx r.toNat))) f (.lst (zs2.map (·.1) ++ [((z0 :: zr)[r.toNat]).1]))) :=
        (((b1.trans (Bt.new he)).trans b2).put hl0).put hf0
      have kt2 : KT K H2 (upd (upd H2 l (.lst (((z0 :: zr).map (·.1)).eraseIdx r.toNat))) f (.lst (zs2.map (·.1) ++ [((z0 :: zr)[r.toNat]).1]))) :=
        ((Bt.refl.set (S := [l]) (by simp)).kt1 g1).trans ((Bt.refl.set (S := [f]) (by simp)).kt1 g2')
      refine ⟨(z0 :: zr).eraseIdx r.toNat, zs2 ++ [(z0 :: zr)[r.toNat]], ?_, rfl, ?_, ?_, pm2.trans pm, ?_, btAll, ?_⟩
      · rw [List.length_eraseIdx_of_lt hlt]
        simp
      · rw [upd_ne nlf, upd_same, eraseIdx_map]
      · rw [upd_same, List.map_append]
        rfl
      · obtain ⟨ys, q1, q2⟩ := d2
        exact ⟨ys, by rw [upd_ne ndf, upd_ne ndl]; exact q1, q2⟩
      · exact ((mxe.kt ((d1.new he).kt b2)).kt kt2).perm pm2
end
end Mh
namespace Mh
open PySem L2
theorem DS.same {d : Addr} {H H' : Hp} (h : DS d H) (e : Same H H') : DS d H' := by
  obtain ⟨ys, h1, h2⟩ := h
  exact ⟨ys, e _ _ h1, h2⟩
theorem cut_take {xs : List V} {v : Int} (h : 0 ≤ v) : cutV xs none (some v) = xs.take v.toNat := by
  obtain ⟨k, rfl⟩ : ∃ k : Nat, v = (k : Int) := ⟨v.toNat, by omega⟩
  unfold cutV
  rw [HT.sIx_none, HT.sIx_nat, List.drop_zero, Int.toNat_natCast, Nat.sub_zero, List.take_eq_take_iff]
  omega
/-- what stands while a task's rows are drawn -/
def TaskHF (K : PySem.W.Frag) (d l rw : Addr) (nums : List Int) (v : V) (m : Mach) (H H' : Hp) (rs : List Qn) : Prop :=
  DS d H' ∧ Bt [d] H H' ∧ H' l = some (.lst (nums.map V.int)) ∧ Dp K H' v (machDt m) ∧ ∃ vs, H' rw = some (.lst vs) ∧ DpAll K H' vs (rs.map Qn.dt)
theorem TaskHF.step {K : PySem.W.Frag} {d l rw : Addr} {nums : List Int} {v : V} {m : Mach} {H H1 H2 : Hp} {rs : List Qn} (h : TaskHF K d l rw nums v m H H1 rs) (nl : l ∉ [d]) (nr : rw ∉ [d]) (b : Bt [d] H1 H2) (d2 : DS d H2) :
    TaskHF K d l rw nums v m H H2 rs := by
  obtain ⟨h1, h2, h3, h4, vs, h5, h6⟩ := h
  exact ⟨d2, h2.trans b, b _ _ nl h3, dp_keep (h1.kt b) _ _ (mach_td m) h4, vs, b _ _ nr h5, dps_keep (h1.kt b) _ _ (tds_map qn_td rs) h6⟩
section
variable {K : PySem.W.Frag} {σ : St} {H : Hp} {d : Addr} {i j : Nat}
theorem rd_orN {x : V} {n c : Int} {Q : Bool → Hp → Prop} (hj : σ[j]? = some (some x)) (hσ : σ[i]? = some (some (.ref d))) (hd : DS d H) (n0 : 0 < n) (n1 : n < 1073741824)
    (k : ∀ (b : Bool) (H' : Hp), (b = false → x ≠ .non) → Bt [d] H H' → DS d H' → Q b H') :
    tOr (tTest (tOp (fun x y H Q => y = V.non ∧ Q (.bl (decide (x = .non))) H) (tVar j) (tC .non))) (tTest (tOp rEq (tOffE i (tC (.int n))) (tC (.int c)))) σ H Q := by
  refine ⟨_, hj, rfl, _, rfl, ?_⟩
  refine ite2 (fun e => ?_) (fun e => ?_)
  · exact k true H (fun z => by cases z) Bt.refl hd
  · refine rd_off hσ hd n0 n1 fun r H1 r0 r1 b1 d1 => ⟨rfl, _, rfl, ?_⟩
    exact k _ H1 (fun _ z => e (decide_eq_true z)) b1 d1
theorem rd_orE {x : V} {n c c1 : Int} {Q : Bool → Hp → Prop} (hj : σ[j]? = some (some x)) (hx : ∃ y, x = .int y) (hσ : σ[i]? = some (some (.ref d))) (hd : DS d H) (n0 : 0 < n) (n1 : n < 1073741824)
    (k : ∀ (b : Bool) (H' : Hp), Bt [d] H H' → DS d H' → Q b H') :
    tOr (tTest (tOp rEq (tVar j) (tC (.int c1)))) (tTest (tOp rEq (tOffE i (tC (.int n))) (tC (.int c)))) σ H Q := by
  obtain ⟨y, rfl⟩ := hx
  refine ⟨_, hj, rfl, _, rfl, ?_⟩
  refine ite2 (fun e => ?_) (fun e => ?_)
  · exact k true H Bt.refl hd
  · exact rd_off hσ hd n0 n1 fun r H1 r0 r1 b1 d1 => ⟨rfl, _, rfl, k _ H1 b1 d1⟩
end
/-- a task drawn for a machine -/
def spGenTask (K : PySem.W.Frag) : Sp := fun vs H Q _ => ∃ (d : Addr) (v : V) (m : Mach), vs = [.ref d, v] ∧ DS d H ∧ Dp K H v (machDt m) ∧ MachOk m ∧
  ∀ (u : V) (t : Task) (H' : Hp), Bt [d] H H' → DS d H' → Dp K H' u t.dt → t.Ok → Q u H'
def n16 : List (V × PyData) := (List.range 16).map fun i => (V.int (0 + (i : Nat)), PyData.int (0 + (i : Nat)))
def vI : V × PyData → Int := fun z => match z.1 with
  | .int i => i
  | _ => 0
section
variable {P : Program} {w : World} {K : PySem.W.Frag} {mg : Str → Option Value} {base : Heap} {A : Adr}
theorem ok_task (T : Txt K mg A) : FnOk P w K mg base CX0 3 A.task A.task_ ["_law_d", "_law_machine_here"] (spGenTask K) := by
  refine T.task.F.ok sc_task (fun vs H Q E h => ?_) (fun cdv Ar outer s H vs Q E hr h => ?_)
  · obtain ⟨d, v, m, rfl, _⟩ := h
    rfl
  · obtain ⟨d, v, m, rfl, hd, hv, ho, k⟩ := h
    refine ⟨_, (pss_cons (ps_set (i := 2) sc_task.nd rfl (Or.inl rfl) (pe_slice sl_list (pe_call (ok_mixed T) (hr.mono (by decide)) (by rfl) T.mixed.n T.mixed.F.kp T.mixed.b .nil pass0 (pa_cons (pv 0) (pa_cons (pe_listRg rfl (by rfl) T.n_list (prg_1 (by rfl) T.n_range pe_int)) pa_nil))) po_none (po_some (pe_op op_add pe_int (pe_call (ok_off T) (hr.mono (by decide)) (by rfl) T.off.n T.off.F.kp T.off.b .nil pass0 (pa_cons (pv 0) (pa_cons (pe_ix ix_list (pe_lst (pa_cons pe_int (pa_cons pe_int pa_nil))) (pe_call (ok_off T) (hr.mono (by decide)) (by rfl) T.off.n T.off.F.kp T.off.b .nil pass0 (pa_cons (pv 0) (pa_cons pe_int pa_nil))) (fun _ _ => rfl)) pa_nil)))))))
    (pss_cons (ps_set (i := 3) sc_task.nd rfl (Or.inl rfl) (pe_call (ok_off T) (hr.mono (by decide)) (by rfl) T.off.n T.off.F.kp T.off.b .nil pass0 (pa_cons (pv 0) (pa_cons pe_int pa_nil))))
    (pss_cons (ps_set (i := 4) sc_task.nd rfl (Or.inl rfl) (pe_lst pa_nil))
    (pss_cons (ps_for PassesOwn.never rfl (pi_list (pv 2)) (pg_name (i := 5) sc_task.nd rfl (Or.inl rfl))
    (pss_cons (ps_set (i := 6) sc_task.nd rfl (Or.inl rfl) (pe_call (ok_told T) (hr.mono (by decide)) (by rfl) T.told.n T.told.F.kp T.told.b .nil pass0 (pa_cons (pv 1) (pa_cons (pv 5) (pa_cons (pe_call (ok_off T) (hr.mono (by decide)) (by rfl) T.off.n T.off.F.kp T.off.b .nil pass0 (pa_cons (pv 0) (pa_cons pe_int pa_nil))) pa_nil)))))
    (Evl.pss_cut (ps_if (PW.pt (pw_or (pt_cmpR op_isN (pv 6) pe_non (nomark _)) (pw_or1 (pt_cmpR op_eq (pe_call (ok_off T) (hr.mono (by decide)) (by rfl) T.off.n T.off.F.kp T.off.b .nil pass0 (pa_cons (pv 0) (pa_cons pe_int pa_nil))) pe_int (nomark _)))))
    (pss_one (ps_set (i := 6) sc_task.nd rfl (Or.inl rfl) (pe_op op_sub (pe_call (ok_off T) (hr.mono (by decide)) (by rfl) T.off.n T.off.F.kp T.off.b .nil pass0 (pa_cons (pv 0) (pa_cons pe_int pa_nil))) pe_int)))
    pss_nil)
    (pss_cons (ps_set (i := 7) sc_task.nd rfl (Or.inl rfl) pe_non)
    (Evl.pss_cut (ps_if (PW.pt (pw_or (pt_cmpR op_eq (pv 3) pe_int (nomark _)) (pw_or1 (pt_cmpR op_eq (pe_call (ok_off T) (hr.mono (by decide)) (by rfl) T.off.n T.off.F.kp T.off.b .nil pass0 (pa_cons (pv 0) (pa_cons pe_int pa_nil))) pe_int (nomark _)))))
    (pss_cons (ps_set (i := 8) sc_task.nd rfl (Or.inl rfl) (pe_ix ix_list (pe_lst (pa_cons (pv 5) (pa_cons (pe_call (ok_off T) (hr.mono (by decide)) (by rfl) T.off.n T.off.F.kp T.off.b .nil pass0 (pa_cons (pv 0) (pa_cons pe_int pa_nil))) pa_nil))) (pe_call (ok_off T) (hr.mono (by decide)) (by rfl) T.off.n T.off.F.kp T.off.b .nil pass0 (pa_cons (pv 0) (pa_cons pe_int pa_nil))) (fun _ _ => rfl)))
    (pss_one (ps_set (i := 7) sc_task.nd rfl (Or.inl rfl) (pe_tup (pa_cons (pv 8) (pa_cons (pe_ix ix_list (pe_lst (pa_cons (pe_call (ok_off T) (hr.mono (by decide)) (by rfl) T.off.n T.off.F.kp T.off.b .nil pass0 (pa_cons (pv 0) (pa_cons pe_int pa_nil))) (pa_cons (pv 5) pa_nil))) (pe_call (ok_off T) (hr.mono (by decide)) (by rfl) T.off.n T.off.F.kp T.off.b .nil pass0 (pa_cons (pv 0) (pa_cons pe_int pa_nil))) (fun _ _ => rfl)) pa_nil))))))
    pss_nil)
    (pss_one (ps_expr (pe_bm PySem.F.plainAttrs_list PySem.F.slot_list_append PySem.F.type_list_append mt_append (pv 4) (pa_cons (pe_tup (pa_cons (pv 5) (pa_cons (pv 6) (pa_cons (pv 7) pa_nil)))) pa_nil)))))))))
    (pss_one (ps_ret (pe_tup (pa_cons (pe_callTy call_tuple_of (by rfl) T.n_tuple PyProof.Rows.boot_tuple (pa_cons (pv 4) pa_nil)) (pa_cons (pe_op op_add pe_int (pe_call (ok_off T) (hr.mono (by decide)) (by rfl) T.off.n T.off.F.kp T.off.b .nil pass0 (pa_cons (pv 0) (pa_cons pe_int pa_nil)))) pa_nil))))))))), ?_⟩
    refine ⟨_, rfl, 16, rfl, RgOk.of_le (by decide) (by decide) (by decide) (by decide), fun q hq => nil_ ?_⟩
    have eq16 : n16.map (·.1) = rgV 0 16 := by
      unfold n16 rgV
      rw [List.map_map]
      rfl
    have mx16 : Mixable K (upd H q (.lst (rgV 0 16))) n16 := fun z hz => by
      obtain ⟨i, _, rfl⟩ := List.mem_map.mp hz
      exact ⟨.int _, rfl, sh_int _⟩
    refine ⟨d, q, n16, rfl, hd.new hq, SqL.of (by rw [eq16]; exact upd_same), by simp [n16], mx16, fun l0 ys H1 hl0 b1 d1 h1 pm mx1 => ?_⟩
    have nl0 : l0 ∉ [d] := by
      simp only [List.mem_singleton]
      exact ((hd.new (o := .lst (rgV 0 16)) hq).ne hl0).symm
    -- the numbers
    have ev : ∀ z ∈ n16, z.1 = .int (vI z) ∧ 0 ≤ vI z ∧ vI z ≤ 15 := fun z hz => by
      obtain ⟨i, hi, rfl⟩ := List.mem_map.mp hz
      have hi2 := List.mem_range.mp hi
      refine ⟨rfl, ?_, ?_⟩
      · show (0 : Int) ≤ 0 + (i : Nat)
        omega
      · show (0 : Int) + (i : Nat) ≤ 15
        omega
    have en : ys.map (·.1) = (ys.map vI).map V.int := by
      rw [List.map_map]
      exact List.map_congr_left fun z hz => (ev z (pm.mem_iff.mp hz)).1
    have nd : (ys.map vI).Nodup := by
      refine (pm.map vI).nodup_iff.mpr ?_
      have e : n16.map vI = (List.range 16).map fun i : Nat => (0 : Int) + (i : Int) := by
        unfold n16
        rw [List.map_map]
        rfl
      rw [e]
      decide
    have bd : ∀ x ∈ ys.map vI, 0 ≤ x ∧ x ≤ 15 := fun x hx => by
      obtain ⟨z, hz, rfl⟩ := List.mem_map.mp hx
      exact (ev z (pm.mem_iff.mp hz)).2
    have len16 : (ys.map vI).length = 16 := by
      rw [List.length_map, pm.length_eq]
      rfl
    rw [en] at h1
    generalize ys.map vI = ns at h1 nd bd len16
    refine ⟨_, rfl, rd_two (K := K) rfl d1 fun z H2 hz b2 d2 => ?_⟩
    have hz2 : ∃ n, z = .int n ∧ 0 < n ∧ n ≤ 16 := by
      rcases hz with rfl | rfl
      · exact ⟨4, rfl, by decide, by decide⟩
      · exact ⟨16, rfl, by decide, by decide⟩
    obtain ⟨n, en2, n0, n1⟩ := hz2
    refine nil_ (rd_offV en2 d2 n0 (by omega) fun c H3 c0 c1 b3 d3 => ?_)
    refine ⟨_, _, rfl, rfl, _, rfl, l0, _, rfl, SqL.of (b3 _ _ nl0 (b2 _ _ nl0 h1)), fun l hl => ?_⟩
    rw [cut_take (by omega), ← List.map_take]
    have ndl : l ∉ [d] := by
      simp only [List.mem_singleton]
      exact (d3.ne hl).symm
    refine rd_off rfl (d3.new hl) (by decide) (by decide) fun often H4 o0 o1 b4 d4 => ?_
    refine ⟨Nat.zero_le _, fun rw hrw => ?_⟩
    have ndr : rw ∉ [d] := by
      simp only [List.mem_singleton]
      exact (d4.ne hrw).symm
    have h4l := b4 _ _ ndl (upd_same (H := H3) (a := l) (o := .lst ((ns.take (1 + c).toNat).map V.int)))
    have nlr : l ≠ rw := ne_of_none h4l hrw
    have btA : Bt [d] H H4 := ((((Bt.new hq).trans b1).trans b2).trans b3).trans ((Bt.new hl).trans b4)
    have hv4 : Dp K H4 v (machDt m) := dp_keep (hd.kt btA) _ _ (mach_td m) hv
    have hrw0 : H rw = none := btA.free ndr hrw
    have nums0 : ∀ x ∈ ns.take (1 + c).toNat, 0 ≤ x ∧ x ≤ 15 := fun x hx => bd x (List.mem_of_mem_take hx)
    have numsL : (ns.take (1 + c).toNat).length ≤ 16 := by
      rw [List.length_take]
      omega
    have numsL1 : 1 ≤ (ns.take (1 + c).toNat).length := by
      rw [List.length_take]
      omega
    have numsN : (ns.take (1 + c).toNat).Nodup := nd.sublist (List.take_sublist _ _)
    generalize ns.take (1 + c).toNat = nums at h4l nums0 numsL numsL1 numsN
    refine ⟨_, rfl, l, rfl, ⟨_, SqL.of ((upd_ne nlr).trans h4l)⟩, for_list (K := K) (a := l) (xs := nums.map V.int)
      (fun i σ H' => (∃ x5 x6 x7 x8, σ = [some (.ref d), some v, some (.ref l), some (.int often), some (.ref rw), x5, x6, x7, x8]) ∧ ∃ rs : List Qn, TaskHF K d l rw nums v m H H' rs ∧ rs.map Qn.q = nums.take i ∧ ∀ r ∈ rs, r.Ok)
      ⟨⟨_, _, _, _, rfl⟩, [], ⟨d4.new hrw, btA.trans (Bt.new hrw), (upd_ne nlr).trans h4l, dp_keep (KT.new hrw) _ _ (mach_td m) hv4, [], upd_same, .nil⟩, by simp, by simp⟩
      (fun i σ H' _ ⟨_, rs, hf, _⟩ => SqL.of hf.2.2.1) ?_ ?_⟩
    · rintro i xv σ H5 hi ⟨⟨x5, x6, x7, x8, rfl⟩, rs, hf, hq1, hok⟩
      obtain ⟨x, hx, rfl⟩ := int_at hi
      have xb := nums0 x (List.mem_of_getElem? hx)
      refine ⟨_, rfl, _, rfl, rd_off rfl hf.1 (by decide) (by decide) fun sd H6 s0 s1 b6 d6 => nil_ ?_⟩
      have hf6 := hf.step ndl ndr b6 d6
      refine ⟨v, m, x, sd, rfl, hf6.2.2.2.1, ho, fun H7 sm7 => ?_⟩
      have hf7 := hf6.step ndl ndr (Bt.of_same sm7) (d6.same sm7)
      refine ⟨fun σ' H' => TaskHF K d l rw nums v m H H' rs ∧ ∃ due, dueOk due ∧ σ' = [some (.ref d), some v, some (.ref l), some (.int often), some (.ref rw), some (.int x), some (.int due), x7, x8], ?_, ?_⟩
      · refine rd_orN (j := 6) (i := 0) (d := d) rfl rfl hf7.1 (by decide) (by decide) fun b H8 hb b8 d8 => ?_
        have hf8 := hf7.step ndl ndr b8 d8
        refine ite2 (fun e => ?_) (fun e => ?_)
        · refine rd_off rfl d8 (by decide) (by decide) fun y H9 y0 y1 b9 d9 => ?_
          refine ⟨_, _, rfl, rfl, hf8.step ndl ndr b9 d9, y - 2, ⟨by omega, by omega⟩, rfl⟩
        · have hn := hb (by simpa using e)
          cases et : tell x sd m with
          | none =>
            rw [et] at hn
            exact absurd rfl hn
          | some y =>
            exact ⟨hf8, y, tell_bound ho.2.2 xb.1 (by omega) et, rfl⟩
      rintro σ8 H8 ⟨hf8, due, hdue, rfl⟩
      refine ⟨fun σ' H' => TaskHF K d l rw nums v m H H' rs ∧ ∃ (tv : V) (tw : Option (Int × Int)) (y8 : Option V), Dp K H' tv (twinDt tw) ∧ (∀ y e, tw = some (y, e) → 0 ≤ y ∧ y ≤ 9999 ∧ dueOk e) ∧ σ' = [some (.ref d), some v, some (.ref l), some (.int often), some (.ref rw), some (.int x), some (.int due), some tv, y8], ?_, ?_⟩
      · refine rd_orE (j := 3) (i := 0) (d := d) rfl ⟨_, rfl⟩ rfl hf8.1 (by decide) (by decide) fun b H9 b9 d9 => ?_
        have hf9 := hf8.step ndl ndr b9 d9
        refine ite2 (fun e => ?_) (fun e => ?_)
        · refine ⟨_, rfl, rd_off rfl d9 (by decide) (by decide) fun y1 H10 y10 y11 b10 d10 => ?_⟩
          refine ⟨by show 2 ≤ sizeLine; decide, fun l2 hl2 => ?_⟩
          refine rd_off rfl (d10.new hl2) (by decide) (by decide) fun r1 H11 r10 r11 b11 d11 => ?_
          obtain ⟨z1, hz1, hc1⟩ := at_two (x := .int x) (y := .int y1) r10 r11
          have nl2 : l2 ∉ [d] := by
            simp only [List.mem_singleton]
            exact (d10.ne hl2).symm
          refine ⟨l2, _, _, z1, rfl, rfl, SqL.of (b11 _ _ nl2 upd_same), hz1, ?_⟩
          have hz1' : ∃ a, z1 = .int a ∧ 0 ≤ a ∧ a ≤ 9999 := by
            rcases hc1 with rfl | rfl
            · exact ⟨x, rfl, xb.1, by omega⟩
            · exact ⟨y1, rfl, y10, by omega⟩
          obtain ⟨a, rfl, a0, a1⟩ := hz1'
          refine ⟨_, rfl, rd_off rfl d11 (by decide) (by decide) fun y2 H12 y20 y21 b12 d12 => ?_⟩
          refine ⟨_, rfl, by show 2 ≤ sizeLine; decide, fun l3 hl3 => ?_⟩
          refine rd_off rfl (d12.new hl3) (by decide) (by decide) fun r2 H13 r20 r21 b13 d13 => ?_
          obtain ⟨z2, hz2, hc2⟩ := at_two (x := .int y2) (y := .int x) r20 r21
          have nl3 : l3 ∉ [d] := by
            simp only [List.mem_singleton]
            exact (d12.ne hl3).symm
          refine ⟨l3, _, _, z2, rfl, rfl, SqL.of (b13 _ _ nl3 upd_same), hz2, by show 2 ≤ sizeLine; decide, fun p hp => ?_⟩
          have hz2' : ∃ e, z2 = .int e ∧ 0 ≤ e ∧ e ≤ 9999 := by
            rcases hc2 with rfl | rfl
            · exact ⟨y2, rfl, y20, by omega⟩
            · exact ⟨x, rfl, xb.1, by omega⟩
          obtain ⟨e2, rfl, e0, e1⟩ := hz2'
          have bt : Bt [d] H9 (upd H13 p (.tup [.int a, .int e2])) := (((((b10.trans (Bt.new hl2)).trans b11).trans b12).trans (Bt.new hl3)).trans b13).trans (Bt.new hp)
          refine ⟨hf9.step ndl ndr bt (d13.new hp), .ref p, some (a, e2), _, .tup (SqT.of upd_same) (.cons (.int _) (.cons (.int _) .nil)), ?_, rfl⟩
          intro y e h
          have h := Option.some.inj h
          injection h with h1 h2
          subst h1 h2
          exact ⟨a0, a1, ⟨by omega, by omega⟩⟩
        · refine ⟨hf9, .non, none, _, .non, ?_, rfl⟩; intro _ _ h; cases h
      rintro σ9 H9 ⟨hf9, tv, tw, y8, htv, htw, rfl⟩
      obtain ⟨d9, b9, g1, g2, vs9, g3, g4⟩ := id hf9
      refine ⟨_, rfl, .inl ⟨rfl, _, SqL.of g3⟩, _, rfl, _, rfl, _, rfl, by show 3 ≤ sizeLine; decide, fun p hp => ?_⟩
      have npr : rw ≠ p := ne_of_none g3 hp
      have lenr : rs.length ≤ 16 := by
        have e := congrArg List.length hq1
        rw [List.length_map, List.length_take] at e
        omega
      have lenv : vs9.length = rs.length := by
        have e := dps_len g4
        rwa [List.length_map] at e
      refine ⟨rw, vs9, _, rfl, rfl, (upd_ne npr).trans g3, by rw [sizeLine_eq]; omega, ?_⟩
      have hf10 := hf9.step ndl ndr (Bt.new (o := .tup [.int x, .int due, tv]) hp) (d9.new hp)
      obtain ⟨d10, b10, q1, q2, vs10, q3, q4⟩ := hf10
      have evs : vs10 = vs9 := by
        have e := q3.symm.trans ((upd_ne npr).trans g3)
        injection e with e
        injection e
      subst evs
      have kt : KT K (upd H9 p (.tup [.int x, .int due, tv])) (upd (upd H9 p (.tup [.int x, .int due, tv])) rw (.lst (vs10 ++ [.ref p]))) := (Bt.refl.set (S := [rw]) (by simp)).kt1 q3
      refine ⟨⟨_, _, _, _, rfl⟩, rs ++ [⟨x, due, tw⟩], ⟨?_, b10.put hrw0, (upd_ne nlr).trans q1, dp_keep kt _ _ (mach_td m) q2, _, upd_same, ?_⟩, ?_, ?_⟩
      · obtain ⟨ys, e1, e2⟩ := d10
        exact ⟨ys, (upd_ne (fun z => ndr (by rw [z]; simp))).trans e1, e2⟩
      · rw [List.map_append]
        refine dps_snoc (dps_keep kt _ _ (tds_map qn_td rs) q4) ?_
        exact .tup (kt _ _ (SqT.of upd_same)) (.cons (.int _) (.cons (.int _) (.cons (dp_keep ((KT.new hp).trans kt) _ _ (twin_td tw) htv) .nil)))
      · rw [List.map_append, hq1, List.take_add_one, hx]
        rfl
      · intro r hr2
        rcases List.mem_append.mp hr2 with h | h
        · exact hok r h
        · have e2 : r = ⟨x, due, tw⟩ := by simpa using h
          rw [e2]
          exact ⟨xb.1, by show x ≤ 9999; omega, hdue, htw⟩
    · rintro σ H5 ⟨⟨x5, x6, x7, x8, rfl⟩, rs, ⟨d5, b5, g1, g2, vs5, g3, g4⟩, hq1, hok⟩
      rw [List.length_map, List.take_length] at hq1
      refine ⟨_, rfl, rw, vs5, rfl, .inl ⟨SqL.of g3, fun p hp => ?_⟩⟩
      refine rd_off rfl (d5.new hp) (by decide) (by decide) fun wt H6 w0 w1 b6 d6 => ?_
      refine ⟨_, _, rfl, rfl, by show 2 ≤ sizeLine; decide, fun p2 hp2 => ?_⟩
      have lenr : rs.length = nums.length := by
        rw [← hq1, List.length_map]
      have ndp : p ∉ [d] := by
        simp only [List.mem_singleton]
        exact (d5.ne hp).symm
      have t6 := b6 _ _ ndp (upd_same (H := H5) (a := p) (o := .tup vs5))
      have npp : p ≠ p2 := ne_of_none t6 hp2
      have kt6 : KT K (upd H5 p (.tup vs5)) H6 := (d5.new hp).kt b6
      refine k (.ref p2) ⟨rs, 1 + wt⟩ _ (((b5.trans (Bt.new hp)).trans b6).trans (Bt.new hp2)) (d6.new hp2) ?_ ⟨by show 1 ≤ rs.length; omega, by show rs.length ≤ 16; omega, hok, by show (rs.map Qn.q).Nodup; rw [hq1]; exact numsN, by show 1 ≤ 1 + wt; omega, by show 1 + wt ≤ 9; omega⟩
      exact .tup (SqT.of upd_same) (.cons (.tup (SqT.of ((upd_ne npp).trans t6)) (dps_keep (((KT.new hp).trans kt6).trans (KT.new hp2)) _ _ (tds_map qn_td rs) g4)) (.cons (.int _) .nil))
end
end Mh
namespace Mh
open PySem L2
/-- the numbers of the questions among the first n that a machine does -/
def rightN (m : Mach) (s : Int) (qs : List Qn) (n : Nat) : List Int := ((List.range n).filter fun k => (qs[k]?.any (Qn.good m s))).map fun k : Nat => ((k : Nat) : Int)
def rightL (m : Mach) (s : Int) (qs : List Qn) : List Int := rightN m s qs qs.length
/-- law: the numbers of the right ones -/
def spRightL (K : PySem.W.Frag) : Sp := fun vs H Q _ => ∃ (v t : V) (m : Mach) (tk : Task) (s : Int), vs = [v, t, .int s] ∧ Dp K H v (machDt m) ∧ Dp K H t tk.dt ∧ MachOk m ∧ tk.Ok ∧
  ∀ p H', H p = none → Same H H' → H' p = some (.lst ((rightL m s tk.qs).map V.int)) → Q (.ref p) H'
/-- program: the numbers of the right ones, and how many -/
def spRight (K : PySem.W.Frag) : Sp := fun vs H Q _ => ∃ (v t : V) (m : Mach) (tk : Task) (s : Int), vs = [v, t, .int s] ∧ Dp K H v (machDt m) ∧ Dp K H t tk.dt ∧ MachOk m ∧ tk.Ok ∧ 0 ≤ s ∧ s ≤ 999 ∧
  ∀ u H', Same H H' → Dp K H' u (.tuple ((rightL m s tk.qs).map PyData.int)) → Q u H'
def spScore (K : PySem.W.Frag) : Sp := fun vs H Q _ => ∃ (v t : V) (m : Mach) (tk : Task) (s : Int), vs = [v, t, .int s] ∧ Dp K H v (machDt m) ∧ Dp K H t tk.dt ∧ MachOk m ∧ tk.Ok ∧ 0 ≤ s ∧ s ≤ 999 ∧
  ∀ H', Same H H' → Q (.int (rightL m s tk.qs).length) H'
theorem same_none {H H' : Hp} {p : Addr} (s : Same H H') (h : H' p = none) : H p = none := by
  cases e : H p with
  | none => rfl
  | some o => rw [s _ _ e] at h; cases h
theorem rightL_len (m : Mach) (s : Int) (qs : List Qn) : (rightL m s qs).length ≤ qs.length := by
  unfold rightL rightN
  rw [List.length_map]
  have := List.length_filter_le (fun k => (qs[k]?.any (Qn.good m s))) (List.range qs.length)
  rwa [List.length_range] at this
theorem deep_ints {n : Nat} {ns : List Int} (h : ns.length ≤ 1000) : deep (n + 1) (.tuple (ns.map PyData.int)) = true := by
  have e : (ns.map PyData.int).all (deep n) = true := List.all_eq_true.mpr fun d hd => by
    obtain ⟨i, _, rfl⟩ := List.mem_map.mp hd
    cases n <;> rfl
  show (decide ((ns.map PyData.int).length ≤ 1000) && (ns.map PyData.int).all (deep n)) = true
  rw [e, List.length_map, decide_eq_true h]
  rfl
section
variable {P : Program} {w : World} {K : PySem.W.Frag} {mg : Str → Option Value} {base : Heap} {A : Adr}
end
end Mh
namespace Mh
open PySem L2
/-- what a machine tells, as data -/
def oDt : Option Int → PyData
  | none => .none
  | some i => .int i
theorem dp_oV {K : PySem.W.Frag} {H : Hp} (o : Option Int) : Dp K H (oV o) (oDt o) := by
  cases o with
  | none => exact .non
  | some i => exact .int i
theorem deep_oDt {n : Nat} (o : Option Int) : deep n (oDt o) = true := by cases o <;> cases n <;> rfl
theorem sh_oDt {n : Nat} (o : Option Int) : Sh n (oDt o) := by
  cases o with
  | none => exact sh_non
  | some i => exact sh_int i
end Mh
namespace Mh
open PySem L2
theorem tIf_two {tT : TT} {ta tb : TE} {σ : St} {H : Hp} {Q : VK} (R : V → Hp → Prop) (rest : ∀ v H', R v H' → Q v H') (h : (∀ v H', R v H' → Q v H') → tIf tT ta tb σ H Q) : tIf tT ta tb σ H Q := h rest
theorem dps_ints_eq {K : PySem.W.Frag} {H : Hp} : ∀ {ns : List Int} {vs : List V}, DpAll K H vs (ns.map PyData.int) → vs = ns.map V.int
  | [], _, h => by cases h; rfl
  | n :: ns, _, h => by
    cases h with
    | cons h1 h2 =>
      cases h1
      rw [dps_ints_eq h2]
      rfl
theorem binom_zero (n : Nat) : binom n 0 = 1 := by cases n <;> rfl
theorem binom_over : ∀ {n k : Nat}, n < k → binom n k = 0
  | _, 0, h => by omega
  | 0, k + 1, _ => rfl
  | n + 1, k + 1, h => by
    show binom n k + binom n (k + 1) = 0
    rw [binom_over (n := n) (k := k) (by omega), binom_over (n := n) (k := k + 1) (by omega)]
theorem binom_le (n : Nat) : ∀ k, binom n k ≤ 2 ^ n := by
  induction n with
  | zero =>
    intro k
    cases k <;> simp [binom]
  | succ n IH =>
    intro k
    cases k with
    | zero =>
      rw [binom_zero]
      exact Nat.one_le_two_pow
    | succ k =>
      show binom n k + binom n (k + 1) ≤ 2 ^ (n + 1)
      have h1 := IH k
      have h2 := IH (k + 1)
      rw [Nat.pow_succ]
      omega
def rowL (n : Nat) : List Int := (List.range (n + 1)).map fun k => ((binom n k : Nat) : Int)
theorem rowL_at {n k : Nat} (h : k ≤ n) : (rowL n)[k]? = some ((binom n k : Nat) : Int) := by
  unfold rowL
  rw [List.getElem?_map, List.getElem?_range (by omega)]
  rfl
theorem rowL_len (n : Nat) : (rowL n).length = n + 1 := by simp [rowL]
theorem rowL_snoc (n j : Nat) (h : j ≤ n) : (rowL n).take (j + 1) = (rowL n).take j ++ [((binom n j : Nat) : Int)] := by
  rw [List.take_add_one, rowL_at h]
  rfl
theorem row_zip {i j : Nat} (h : j ≤ i + 1) : ∃ a b : Int, (V.int 0 :: (rowL i).map V.int)[j]? = some (.int a) ∧ ((rowL i).map V.int ++ [V.int 0])[j]? = some (.int b) ∧ a + b = ((binom (i + 1) j : Nat) : Int) := by
  have hb : ((rowL i).map V.int ++ [V.int 0])[j]? = some (.int ((binom i j : Nat) : Int)) := by
    by_cases e : j ≤ i
    · rw [List.getElem?_append_left (by rw [List.length_map, rowL_len]; omega), List.getElem?_map, rowL_at e]
      rfl
    · have e2 : j = i + 1 := by omega
      subst e2
      rw [List.getElem?_append_right (by rw [List.length_map, rowL_len]; omega), List.length_map, rowL_len, Nat.sub_self, binom_over (by omega)]
      rfl
  cases j with
  | zero =>
    refine ⟨0, _, rfl, hb, ?_⟩
    rw [binom_zero, binom_zero]
    rfl
  | succ j =>
    refine ⟨((binom i j : Nat) : Int), _, ?_, hb, ?_⟩
    · rw [List.getElem?_cons_succ, List.getElem?_map, rowL_at (by omega)]
      rfl
    · show _ = ((binom i j + binom i (j + 1) : Nat) : Int)
      omega
/-! what a machine knows by heart -/
def Qn.twinGood (m : Mach) (s : Int) (r : Qn) : Bool := match r.twin with
  | some (y, e) => decide (tell y s m = some e)
  | none => false
def twinned (qs : List Qn) : List Qn := qs.filter fun r => r.twin.isSome
def hereN (m : Mach) (s : Int) (qs : List Qn) : Nat := ((twinned qs).filter (Qn.good m s)).length
def thereN (m : Mach) (s : Int) (qs : List Qn) : Nat := ((twinned qs).filter (Qn.twinGood m s)).length
/-- the ways for k right ones on questions, a + b in all, n questions -/
def wayK (n a b k : Nat) : Nat := if k ≤ a + b ∧ a + b - k ≤ n then binom n k * binom n (a + b - k) else 0
def waysI (n a b i : Nat) : Nat := ((List.range i).map fun j => wayK n a b (a + j)).sum
def waysN (n a b : Nat) : Nat := waysI n a b (n + 1 - a)
def heartDt (m : Mach) (s : Int) (qs : List Qn) : PyData :=
  let n := (twinned qs).length
  let a := hereN m s qs
  let b := thereN m s qs
  .tuple [.int n, .int a, .int b, .int (waysN n a b : Nat), .int (binom (2 * n) (a + b) : Nat)]
theorem sh_ints {n : Nat} (ns : List Int) : Sh (n + 1) (.tuple (ns.map PyData.int)) := sh_tuple fun d hd => by
  obtain ⟨i, _, rfl⟩ := List.mem_map.mp hd
  exact sh_int i
theorem sh_heart {n : Nat} (m : Mach) (s : Int) (qs : List Qn) : Sh (n + 1) (heartDt m s qs) := sh_ints [_, _, _, _, _]
/-- two that are the same data aren't told apart -/
theorem neD_same {K : PySem.W.Frag} {H : Hp} {x y : V} {d : PyData} {Q : V → Hp → Prop} (hx : Dp K H x d) (hy : Dp K H y d) (h : Sh 20 d) (q : Q (.bl false) H) : rNeD K x y H Q := by
  refine ⟨d, d, hx, hy, h.shaped (by decide), h.shaped (by decide), ?_⟩
  rw [PySem.SeqAt.eqv_refl d h.1]
  exact q
theorem eqD_same {K : PySem.W.Frag} {H : Hp} {x y : V} {d : PyData} {Q : V → Hp → Prop} (hx : Dp K H x d) (hy : Dp K H y d) (h : Sh 20 d) (q : Q (.bl true) H) : rEqD K x y H Q := by
  refine ⟨d, d, hx, hy, h.shaped (by decide), h.shaped (by decide), ?_⟩
  rw [PySem.SeqAt.eqv_refl d h.1]
  exact q
def spHeart (K : PySem.W.Frag) : Sp := fun vs H Q _ => ∃ (v t : V) (m : Mach) (tk : Task) (s : Int), vs = [v, t, .int s] ∧ Dp K H v (machDt m) ∧ Dp K H t tk.dt ∧ MachOk m ∧ tk.Ok ∧ 0 ≤ s ∧ s ≤ 999 ∧
  ∀ u H', Same H H' → Dp K H' u (heartDt m s tk.qs) → Q u H'
/-- law: the rows of ways -/
def spWays : Sp := fun vs H Q _ => ∃ (n : Nat), vs = [.int n] ∧ n ≤ 64 ∧ ∀ p H', H p = none → Same H H' → H' p = some (.lst ((rowL n).map V.int)) → Q (.ref p) H'
section
variable {P : Program} {w : World} {K : PySem.W.Frag} {mg : Str → Option Value} {base : Heap} {A : Adr}
end
end Mh
namespace Mh
open PySem L2
def spTwin (K : PySem.W.Frag) : Sp := fun vs H Q _ => ∃ (v : V) (o : Option (Int × Int)), vs = [v] ∧ Dp K H v (twinDt o) ∧ (∀ y e, o = some (y, e) → 0 ≤ y ∧ y ≤ 9999 ∧ dueOk e) ∧ Q (.bl true) H
def spQn (K : PySem.W.Frag) : Sp := fun vs H Q _ => ∃ (v : V) (r : Qn), vs = [v] ∧ Dp K H v r.dt ∧ r.Ok ∧ Q (.bl true) H
def spTk (K : PySem.W.Frag) : Sp := fun vs H Q _ => ∃ (v : V) (t : Task), vs = [v] ∧ Dp K H v t.dt ∧ t.Ok ∧ Q (.bl true) H
def spTask (K : PySem.W.Frag) : Sp := fun vs H Q _ => ∃ (v : V) (t : Task), vs = [v] ∧ Dp K H v t.dt ∧ t.Ok ∧ ∀ H', Same H H' → Q .non H'
/-- what a question stands as -/
theorem dp_qn {K : PySem.W.Frag} {H : Hp} {v : V} {r : Qn} (h : Dp K H v r.dt) : ∃ a u, v = .ref a ∧ SqT K H a [.int r.q, .int r.due, u] ∧ Dp K H u (twinDt r.twin) := by
  obtain ⟨a, xs, rfl, hs, ha⟩ := dp_tup h
  obtain ⟨u1, xs, rfl, h1, ha⟩ := dps_cons ha
  obtain ⟨u2, xs, rfl, h2, ha⟩ := dps_cons ha
  obtain ⟨u3, xs, rfl, h3, ha⟩ := dps_cons ha
  have e := dps_nil ha
  subst e
  rw [dp_int h1, dp_int h2] at hs
  exact ⟨a, u3, rfl, hs, h3⟩
theorem dp_tk {K : PySem.W.Frag} {H : Hp} {v : V} {t : Task} (h : Dp K H v t.dt) : ∃ a b us, v = .ref a ∧ SqT K H a [.ref b, .int t.wt] ∧ SqT K H b us ∧ DpAll K H us (t.qs.map Qn.dt) ∧ us.length = t.qs.length := by
  obtain ⟨a, xs, rfl, hs, ha⟩ := dp_tup h
  obtain ⟨u1, xs, rfl, h1, ha⟩ := dps_cons ha
  obtain ⟨u2, xs, rfl, h2, ha⟩ := dps_cons ha
  have e := dps_nil ha
  subst e
  obtain ⟨b, us, rfl, hb, hu⟩ := dp_tup h1
  rw [dp_int h2] at hs
  refine ⟨a, b, us, rfl, hs, hb, hu, ?_⟩
  have e := dps_len hu
  rwa [List.length_map] at e
theorem at2' {x y z : V} {r : List V} : atI (x :: y :: z :: r) 2 = some z := atI_nat (j := 2) rfl
section
variable {P : Program} {w : World} {K : PySem.W.Frag} {mg : Str → Option Value} {base : Heap} {A : Adr}
theorem ok_is_due (T : Txt K mg A) : FnOk P w K mg base CX0 2 A.is_due A.is_due_ ["value"] (spIs K (-99999999) 99999999) := by
  refine T.is_due.F.ok sc_is_due (fun vs H Q E h => ?_) (fun cdv Ar outer s H vs Q E hr h => ?_)
  · obtain ⟨v, rfl, _⟩ := h
    rfl
  · obtain ⟨v, rfl, od, k⟩ := h
    refine ⟨_, (pss_one (ps_ret (pe_call (ok_is_number T) (hr.mono (by decide)) (by rfl) T.is_number.n T.is_number.F.kp T.is_number.b .nil pass0 (pa_cons (pv 0) (pa_cons (pe_un un_neg (pe_gv (by rfl) T.c_MOST_DUE)) (pa_cons (pe_gv (by rfl) T.c_MOST_DUE) pa_nil)))))), ?_⟩
    exact ⟨_, rfl, _, rfl, v, _, _, rfl, od, k⟩
theorem ok_is_twin (T : Txt K mg A) : FnOk P w K mg base CX0 3 A.is_twin A.is_twin_ ["twin"] (spTwin K) := by
  refine T.is_twin.F.ok sc_is_twin (fun vs H Q E h => ?_) (fun cdv Ar outer s H vs Q E hr h => ?_)
  · obtain ⟨v, o, rfl, _⟩ := h
    rfl
  · obtain ⟨v, o, rfl, hv, ok, k⟩ := h
    refine ⟨_, (pss_cons (ps_if (pt_cmpR op_isN (pv 0) pe_non (nomark _))
    (pss_one (ps_ret pe_bl))
    pss_nil)
    (pss_cons (ps_if (PW.pt (pw_or (pt_not (pt_val (pe_callB call_isi (by rfl) T.n_isinstance PyProof.Rows.boot_isinstance (pa_cons (pv 0) (pa_cons (pe_bltn (v := .ty "tuple") (by rfl) T.n_tuple PyProof.Rows.boot_tuple rfl) pa_nil))))) (pw_or1 (pt_cmpR op_ne (pe_callB call_len_seq (by rfl) T.n_len PySem.boot_len (pa_cons (pv 0) pa_nil)) pe_int (nomark _)))))
    (pss_one (ps_ret pe_bl))
    pss_nil)
    (pss_one (ps_ret (pe_and (pe_call (ok_is_question T) (hr.mono (by decide)) (by rfl) T.is_question.n T.is_question.F.kp T.is_question.b .nil pass0 (pa_cons (pe_ix ix_tup (pv 0) pe_int (fun _ _ => rfl)) pa_nil)) (pe_one (pe_call (ok_is_due T) (hr.mono (by decide)) (by rfl) T.is_due.n T.is_due.F.kp T.is_due.b .nil pass0 (pa_cons (pe_ix ix_tup (pv 0) pe_int (fun _ _ => rfl)) pa_nil)))))))), ?_⟩
    cases o with
    | none =>
      cases hv
      exact ⟨_, rfl, rfl, _, rfl, k⟩
    | some p =>
      obtain ⟨y, e⟩ := p
      obtain ⟨y0, y1, e0, e1⟩ := ok y e rfl
      obtain ⟨a, u, z, rfl, hs, hu, hz⟩ := dp_pair hv
      have eu := dp_int hu
      have ez := dp_int hz
      subst eu ez
      refine ⟨_, rfl, rfl, _, rfl, ?_⟩
      refine iteF ?_
      refine ⟨_, rfl, _, _, .type "tuple", _, true, rfl, .ty _, ty_tupD hs, kit_ty (by decide +kernel), _, rfl, ?_⟩
      refine iteF ?_
      refine ⟨_, rfl, a, _, rfl, .inr hs, rfl, _, rfl, ?_⟩
      refine iteF ?_
      refine ⟨_, rfl, a, _, _, _, rfl, rfl, hs, at0, _, rfl, .int y, _, rfl, ?_⟩
      refine ifp (isNum_t y0 y1) ?_
      refine ⟨_, rfl, a, _, _, _, rfl, rfl, hs, at1, _, rfl, .int e, ?_⟩
      rw [isNum_t e0 e1]
      exact k
theorem ok_is_asked (T : Txt K mg A) : FnOk P w K mg base CX0 4 A.is_asked A.is_asked_ ["asked"] (spQn K) := by
  refine T.is_asked.F.ok sc_is_asked (fun vs H Q E h => ?_) (fun cdv Ar outer s H vs Q E hr h => ?_)
  · obtain ⟨v, o, rfl, _⟩ := h
    rfl
  · obtain ⟨v, r, rfl, hv, ⟨q0, q1, d, tw⟩, k⟩ := h
    obtain ⟨a, u, rfl, hs, hu⟩ := dp_qn hv
    refine ⟨_, (pss_cons (ps_if (PW.pt (pw_or (pt_not (pt_val (pe_callB call_isi (by rfl) T.n_isinstance PyProof.Rows.boot_isinstance (pa_cons (pv 0) (pa_cons (pe_bltn (v := .ty "tuple") (by rfl) T.n_tuple PyProof.Rows.boot_tuple rfl) pa_nil))))) (pw_or1 (pt_cmpR op_ne (pe_callB call_len_seq (by rfl) T.n_len PySem.boot_len (pa_cons (pv 0) pa_nil)) pe_int (nomark _)))))
    (pss_one (ps_ret pe_bl))
    pss_nil)
    (pss_one (ps_ret (pe_and (pe_call (ok_is_question T) (hr.mono (by decide)) (by rfl) T.is_question.n T.is_question.F.kp T.is_question.b .nil pass0 (pa_cons (pe_ix ix_tup (pv 0) pe_int (fun _ _ => rfl)) pa_nil)) (pe_and (pe_call (ok_is_due T) (hr.mono (by decide)) (by rfl) T.is_due.n T.is_due.F.kp T.is_due.b .nil pass0 (pa_cons (pe_ix ix_tup (pv 0) pe_int (fun _ _ => rfl)) pa_nil)) (pe_one (pe_call (ok_is_twin T) (hr.mono (by decide)) (by rfl) T.is_twin.n T.is_twin.F.kp T.is_twin.b .nil pass0 (pa_cons (pe_ix ix_tup (pv 0) pe_int (fun _ _ => rfl)) pa_nil)))))))), ?_⟩
    refine ⟨_, rfl, _, _, .type "tuple", _, true, rfl, .ty _, ty_tupD hs, kit_ty (by decide +kernel), _, rfl, ?_⟩
    refine iteF ?_
    refine ⟨_, rfl, a, _, rfl, .inr hs, rfl, _, rfl, ?_⟩
    refine iteF ?_
    refine ⟨_, rfl, a, _, _, _, rfl, rfl, hs, at0, _, rfl, .int _, _, rfl, ?_⟩
    refine ifp (isNum_t q0 q1) ?_
    refine ⟨_, rfl, a, _, _, _, rfl, rfl, hs, at1, _, rfl, .int _, _, rfl, ?_⟩
    refine ifp (isNum_t d.1 d.2) ?_
    exact ⟨_, rfl, a, _, _, _, rfl, rfl, hs, at2, u, r.twin, rfl, hu, tw, k⟩
theorem ok_is_framed (T : Txt K mg A) : FnOk P w K mg base CX0 2 A.is_framed A.is_framed_ ["task"] (spTk K) := by
  refine T.is_framed.F.ok sc_is_framed (fun vs H Q E h => ?_) (fun cdv Ar outer s H vs Q E hr h => ?_)
  · obtain ⟨v, o, rfl, _⟩ := h
    rfl
  · obtain ⟨v, t, rfl, hv, ok, k⟩ := h
    obtain ⟨a, b, us, rfl, hs, hb, hu, hl⟩ := dp_tk hv
    refine ⟨_, (pss_cons (ps_if (PW.pt (pw_or (pt_not (pt_val (pe_callB call_isi (by rfl) T.n_isinstance PyProof.Rows.boot_isinstance (pa_cons (pv 0) (pa_cons (pe_bltn (v := .ty "tuple") (by rfl) T.n_tuple PyProof.Rows.boot_tuple rfl) pa_nil))))) (pw_or1 (pt_cmpR op_ne (pe_callB call_len_seq (by rfl) T.n_len PySem.boot_len (pa_cons (pv 0) pa_nil)) pe_int (nomark _)))))
    (pss_one (ps_ret pe_bl))
    pss_nil)
    (pss_cons (ps_asg (pv 0) (pg_tup rfl (pgs_cons (pg_name (i := 1) sc_is_framed.nd rfl (Or.inl rfl)) (pgs_cons (pg_name (i := 2) sc_is_framed.nd rfl (Or.inl rfl)) pgs_nil))))
    (pss_cons (ps_if (PW.pt (pw_or (pt_not (pt_val (pe_callB call_isi (by rfl) T.n_isinstance PyProof.Rows.boot_isinstance (pa_cons (pv 1) (pa_cons (pe_bltn (v := .ty "tuple") (by rfl) T.n_tuple PyProof.Rows.boot_tuple rfl) pa_nil))))) (pw_or1 (pt_cmpR op_eq (pe_callB call_len_seq (by rfl) T.n_len PySem.boot_len (pa_cons (pv 1) pa_nil)) pe_int (nomark _)))))
    (pss_one (ps_ret pe_bl))
    pss_nil)
    (pss_one (ps_ret (pe_call (ok_is_number T) (hr.mono (by decide)) (by rfl) T.is_number.n T.is_number.F.kp T.is_number.b .nil pass0 (pa_cons (pv 2) (pa_cons pe_int (pa_cons (pe_gv (by rfl) T.c_MOST_WEIGHT) pa_nil))))))))), ?_⟩
    refine ⟨_, rfl, _, _, .type "tuple", _, true, rfl, .ty _, ty_tupD hs, kit_ty (by decide +kernel), _, rfl, ?_⟩
    refine iteF ?_
    refine ⟨_, rfl, a, _, rfl, .inr hs, rfl, _, rfl, ?_⟩
    refine iteF ?_
    refine ⟨_, rfl, a, _, rfl, hs, rfl, ?_⟩
    refine ⟨_, _, rfl, _, _, rfl, rfl, ?_⟩
    refine ⟨_, rfl, _, _, .type "tuple", _, true, rfl, .ty _, ty_tupD hb, kit_ty (by decide +kernel), _, rfl, ?_⟩
    refine iteF ?_
    have h1 := ok.1
    refine ⟨_, rfl, b, _, rfl, .inr hb, rfl, _, rfl, ?_⟩
    refine ifn (by rw [dI, decide_eq_false (by omega)]; simp) ?_
    refine ⟨_, rfl, _, _, _, rfl, .int _, ?_⟩
    rw [isNum_t ok.2.2.2.2.1 ok.2.2.2.2.2]
    exact k
theorem ok_check_task (T : Txt K mg A) : FnOk P w K mg base CX0 5 A.check_task A.check_task_ ["task"] (spTask K) := by
  refine T.check_task.F.ok sc_check_task (fun vs H Q E h => ?_) (fun cdv Ar outer s H vs Q E hr h => ?_)
  · obtain ⟨v, o, rfl, _⟩ := h
    rfl
  · obtain ⟨v, t, rfl, hv, ok, k⟩ := h
    obtain ⟨a, b, us, rfl, hs, hb, hu, hl⟩ := dp_tk hv
    have hb0 := hb
    refine ⟨_, (pss_cons (ps_if (pt_not (pt_val (pe_call (ok_is_framed T) (hr.mono (by decide)) (by rfl) T.is_framed.n T.is_framed.F.kp T.is_framed.b .nil pass0 (pa_cons (pv 0) pa_nil))))
    (pss_one ps_never)
    pss_nil)
    (pss_cons (ps_set (i := 1) sc_check_task.nd rfl (Or.inl rfl) (pe_callTy0 cr_set0 (by rfl) T.n_set PyProof.Rows.boot_set))
    (pss_one (ps_for PassesOwn.never rfl (pi_enumT (by rfl) T.n_enumerate (pa_cons (pe_ix ix_tup (pv 0) pe_int (fun _ _ => rfl)) pa_nil)) (pg_tup rfl (pgs_cons (pg_name (i := 2) sc_check_task.nd rfl (Or.inl rfl)) (pgs_cons (pg_name (i := 3) sc_check_task.nd rfl (Or.inl rfl)) pgs_nil)))
    (pss_cons (ps_if (PW.pt (pw_or (pt_cmpR op_eq (pv 2) (pe_gv (by rfl) T.c_MOST_QUESTIONS) (nomark _)) (pw_or (pt_not (pt_val (pe_call (ok_is_asked T) (hr.mono (by decide)) (by rfl) T.is_asked.n T.is_asked.F.kp T.is_asked.b .nil pass0 (pa_cons (pv 3) pa_nil)))) (pw_or1 (pt_cmpR or_sin (pe_ix ix_tup (pv 3) pe_int (fun _ _ => rfl)) (pv 1) (by rfl))))))
    (pss_one ps_never)
    pss_nil)
    (pss_one (ps_expr (pe_sadd (pv 1) (pa_cons (pe_ix ix_tup (pv 3) pe_int (fun _ _ => rfl)) pa_nil))))))))), ?_⟩
    refine ⟨_, rfl, _, t, rfl, hv, ok, _, rfl, ?_⟩
    refine iteF ?_
    refine ⟨rfl, fun p hp => ?_⟩
    have sm := same_put (Same.refl H) (o := SetO w p (fun _ => false) 0) hp
    refine ⟨_, rfl, a, _, _, _, rfl, rfl, KT.same sm _ _ hs, at0, b, _, rfl, KT.same sm _ _ hb, for_it (walk_enumT (xs := us)) (fun i σ H' => Same H H' ∧ (∃ n, n ≤ i ∧ H' p = some (SetO w p (fun z => decide (z ∈ (t.qs.take i).map Qn.q)) n)) ∧ ∃ x y, σ = [some (.ref a), some (.ref p), x, y])
      ⟨sm, ⟨0, Nat.le_refl _, ?_⟩, _, _, rfl⟩ (fun i σ H' _ ⟨e, _⟩ => KT.same e _ _ hb) ?_ ?_⟩
    · rw [upd_same]
      simp
      rfl
    · rintro i x σ H1 H2 hi ⟨s1, ⟨n, hn, h1⟩, y1, y2, rfl⟩ ⟨c, x1, x2, rfl, hc, rfl, hx1, hx2⟩
      have e1 := Option.some.inj hx1
      subst e1
      have i16 := ok.2.1
      obtain ⟨r, hr2⟩ : ∃ r, t.qs[i]? = some r := ⟨_, List.getElem?_eq_getElem (by omega)⟩
      obtain ⟨d, hd, hx⟩ := dps_get hu hx2
      rw [List.getElem?_map, hr2] at hd
      have hd := Option.some.inj hd
      subst hd
      have ro := ok.2.2.1 _ (List.mem_of_getElem? hr2)
      have s2 : Same H (upd H1 c (.tup [.int (i : Nat), x2])) := same_put s1 (s1.free hc)
      have hx' := dp_same s2 _ _ hx
      obtain ⟨ra, ru, rfl, hrs, hru⟩ := dp_qn hx'
      have h2 : upd H1 c (.tup [.int (i : Nat), .ref ra]) p = some (SetO w p (fun z => decide (z ∈ (t.qs.take i).map Qn.q)) n) := by
        rw [upd_ne (ne_of_none h1 hc)]
        exact h1
      refine ⟨c, _, rfl, SqT.of upd_same, rfl, _, _, rfl, _, _, rfl, rfl, ?_⟩
      refine ⟨_, rfl, rfl, _, rfl, ?_⟩
      refine ifn (by rw [dI, decide_eq_false (by omega)]; simp) ?_
      refine ⟨_, rfl, _, r, rfl, hx', ro, _, rfl, ?_⟩
      refine iteF ?_
      have fresh : r.q ∉ (t.qs.take i).map Qn.q := by
        have nd := ok.2.2.2.1
        rw [← List.take_append_drop i t.qs, List.map_append, List.nodup_append] at nd
        intro z
        refine nd.2.2 _ z r.q ?_ rfl
        rw [drop_at hr2]
        exact List.mem_cons_self
      refine ⟨_, rfl, ra, _, _, _, rfl, rfl, hrs, at0, _, rfl, r.q, p, _, n, rfl, rfl, h2, _, rfl, ?_⟩
      refine ifn (by rw [decide_eq_false fresh]; simp) ?_
      refine ⟨_, rfl, ⟨p, _, n, rfl, h2⟩, _, rfl, ra, _, _, _, rfl, rfl, hrs, at0, p, r.q, _, n, rfl, rfl, h2, by unfold scanBound; omega, ?_⟩
      refine ⟨fun q o e => ?_, ⟨n + 1, by omega, ?_⟩, _, _, rfl⟩
      · rw [upd_ne (ne_of_none e hp)]
        exact s2 q o e
      · rw [upd_same, decide_eq_false fresh]
        simp only [List.take_add_one, hr2, List.map_append, Bool.false_eq_true, if_false]
        congr 3
        funext z
        simp
    · rintro σ H1 ⟨s1, _⟩
      exact k H1 s1
end
end Mh
namespace Mh
open PySem L2
theorem rightN_step (m : Mach) (s : Int) {qs : List Qn} {i : Nat} {r : Qn} (h : qs[i]? = some r) : rightN m s qs (i + 1) = rightN m s qs i ++ if r.good m s = true then [((i : Nat) : Int)] else [] := by
  unfold rightN
  rw [List.range_succ, List.filter_append, List.map_append]
  congr 1
  by_cases e : r.good m s = true
  · rw [if_pos e]
    simp [h, e]
  · rw [if_neg e]
    simp [h, e]
theorem rightN_le (m : Mach) (s : Int) (qs : List Qn) (i : Nat) : (rightN m s qs i).length ≤ i := by
  unfold rightN
  rw [List.length_map]
  have := List.length_filter_le (fun k => (qs[k]?.any (Qn.good m s))) (List.range i)
  rwa [List.length_range] at this
/-- what a machine tells, compared with a number -/
theorem eq_tell {o : Option Int} {i : Int} {H : Hp} {Q : V → Hp → Prop} (h : Q (.bl (decide (o = some i))) H) : rEq (oV o) (.int i) H Q := by
  cases o with
  | none =>
    refine ⟨rfl, ?_⟩
    have e : decide (oV none = V.int i) = decide ((none : Option Int) = some i) := rfl
    show Q (.bl (decide (oV none = V.int i))) H
    rw [e]
    exact h
  | some j =>
    refine ⟨rfl, ?_⟩
    have e : decide (V.int j = V.int i) = decide (some j = some i) := by
      rw [decide_eq_decide]
      exact ⟨fun z => by injection z with z; rw [z], fun z => by injection z with z; rw [z]⟩
    show Q (.bl (decide (V.int j = V.int i))) H
    rw [e]
    exact h
def spRun3 (K : PySem.W.Frag) : Sp := fun vs H Q _ => ∃ (v t : V) (m : Mach) (tk : Task) (s : Int), vs = [v, t, .int s] ∧ Dp K H v (machDt m) ∧ Dp K H t tk.dt ∧ MachOk m ∧ tk.Ok ∧ 0 ≤ s ∧ s ≤ 999 ∧ ∀ H', Same H H' → Q .non H'
def spCount (K : PySem.W.Frag) : Sp := fun vs H Q _ => ∃ (v t : V) (m : Mach) (tk : Task) (s : Int), vs = [v, t, .int s] ∧ Dp K H v (machDt m) ∧ Dp K H t tk.dt ∧ MachOk m ∧ tk.Ok ∧
  ∀ H', Same H H' → Q (.int (rightL m s tk.qs).length) H'
section
variable {P : Program} {w : World} {K : PySem.W.Frag} {mg : Str → Option Value} {base : Heap} {A : Adr}
theorem ok_right_ones (T : Txt K mg A) : FnOk P w K mg base CX0 3 A.right_ones A.right_ones_ ["machine", "task", "seed"] (spRightL K) := by
  refine T.right_ones.F.ok sc_right_ones (fun vs H Q E h => ?_) (fun cdv Ar outer s H vs Q E hr h => ?_)
  · obtain ⟨v, t, m, tk, s, rfl, _⟩ := h
    rfl
  · obtain ⟨v, t, m, tk, s, rfl, hv, ht, ho, to, k⟩ := h
    obtain ⟨a, b, us, rfl, hs, hb, hu, hl⟩ := dp_tk ht
    have hL := sizeLine_eq
    have l16 := to.2.1
    refine ⟨_, (pss_one (ps_ret (pe_lc (own := [("at", 3), ("question", 4), ("due", 5), ("_", 6)]) (g := gTup K 2 (gCons (gName 3) (gCons (gTup K 3 (gCons (gName 4) (gCons (gName 5) (gCons (gName 6) gNil)))) gNil)))  rfl sc_right_ones.nd (pi_enumT (by rfl) T.n_enumerate (pa_cons (pe_ix ix_tup (pv 1) pe_int (fun _ _ => rfl)) pa_nil)) (blkOk_by (N := N_right_ones) (sc := defScope s_right_ones) (by decide +kernel)) (fun _ _ _ _ _ => pg_tup rfl (pgs_cons (pg_name (i := 3) sc_right_ones.nd rfl (Or.inl rfl) (hf := Or.inr rfl)) (pgs_cons (pg_tup rfl (pgs_cons (pg_name (i := 4) sc_right_ones.nd rfl (Or.inl rfl) (hf := Or.inr rfl)) (pgs_cons (pg_name (i := 5) sc_right_ones.nd rfl (Or.inl rfl) (hf := Or.inr rfl)) (pgs_cons (pg_name (i := 6) sc_right_ones.nd rfl (Or.inl rfl) (hf := Or.inr rfl)) pgs_nil)))) pgs_nil))) (fun _ _ _ _ _ => (pts_one (pt_cmpR op_eq (pe_call (ok_run T) (hr.mono (by decide)) (by rfl) T.run.n T.run.F.kp T.run.b .nil pass0 (pa_cons (pv 0) (pa_cons (pv 4) (pa_cons (pv 2) pa_nil)))) (pv 5) (nomark _)))) (fun _ _ _ _ _ => (pv 3))))), ?_⟩
    refine ⟨_, rfl, a, _, _, _, rfl, rfl, hs, at0, b, us, rfl, hb, fun D hD => lc_it (walk_enumT (xs := us)) (fun i H' => Same H H' ∧ H' D = some (.lst ((rightN m s tk.qs i).map V.int)))
      ⟨same_put (Same.refl H) hD, upd_same⟩ (fun i H' _ z => KT.same z.1 _ _ hb) ?_ ?_⟩
    · rintro i x H1 H2 hi ⟨s1, h1⟩ ⟨c, x1, x2, rfl, hc, rfl, hx1, hx2⟩
      have e1 := Option.some.inj hx1
      subst e1
      obtain ⟨r, hr2⟩ : ∃ r, tk.qs[i]? = some r := ⟨_, List.getElem?_eq_getElem (by omega)⟩
      obtain ⟨d, hd, hx⟩ := dps_get hu hx2
      rw [List.getElem?_map, hr2] at hd
      have hd := Option.some.inj hd
      subst hd
      have s2 : Same H (upd H1 c (.tup [.int (i : Nat), x2])) := same_put s1 (s1.free hc)
      have hx' := dp_same s2 _ _ hx
      obtain ⟨ra, ru, rfl, hrs, hru⟩ := dp_qn hx'
      have ne := ne_of_none h1 hc
      have le := rightN_le m s tk.qs i
      refine ⟨c, _, rfl, SqT.of upd_same, rfl, _, _, rfl, _, _, rfl, ra, _, rfl, hrs, rfl, _, _, rfl, _, _, rfl, _, _, rfl, rfl, rfl, rfl, ?_⟩
      refine ⟨_, rfl, _, rfl, _, rfl, v, m, r.q, s, rfl, dp_same s2 _ _ hv, ho, _, rfl, ?_⟩
      refine eq_tell ?_
      refine ⟨_, rfl, ?_⟩
      have eg : r.good m s = decide (tell r.q s m = some r.due) := rfl
      rw [← eg]
      refine ite2 (fun e => ?_) (fun e => ?_)
      · refine ⟨_, rfl, _, (upd_ne ne).trans h1, by rw [List.length_map]; omega, ?_, ?_⟩
        · intro q o z
          rw [upd_ne (ne_of_none z hD)]
          exact s2 q o z
        · rw [upd_same, rightN_step m s hr2, if_pos e, List.map_append]
          rfl
      · refine ⟨s2, ?_⟩
        rw [rightN_step m s hr2, if_neg e, List.append_nil]
        exact (upd_ne ne).trans h1
    · rintro H1 ⟨s1, h1⟩
      rw [hl] at h1
      exact k D H1 hD s1 h1
theorem ok_count_right (T : Txt K mg A) : FnOk P w K mg base CX0 4 A.count_right A.count_right_ ["machine", "task", "seed"] (spCount K) := by
  refine T.count_right.F.ok sc_count_right (fun vs H Q E h => ?_) (fun cdv Ar outer s H vs Q E hr h => ?_)
  · obtain ⟨v, t, m, tk, s, rfl, _⟩ := h
    rfl
  · obtain ⟨v, t, m, tk, s, rfl, hv, ht, ho, to, k⟩ := h
    refine ⟨_, (pss_one (ps_ret (pe_callB call_len_seq (by rfl) T.n_len PySem.boot_len (pa_cons (pe_call (ok_right_ones T) (hr.mono (by decide)) (by rfl) T.right_ones.n T.right_ones.F.kp T.right_ones.b .nil pass0 (pa_cons (pv 0) (pa_cons (pv 1) (pa_cons (pv 2) pa_nil)))) pa_nil)))), ?_⟩
    refine ⟨_, rfl, _, rfl, _, rfl, v, t, m, tk, s, rfl, hv, ht, ho, to, fun p H1 hp s1 h1 => ?_⟩
    refine ⟨p, _, rfl, .inl (SqL.of h1), ?_⟩
    rw [List.length_map]
    exact k H1 s1
theorem ok_check_run (T : Txt K mg A) : FnOk P w K mg base CX0 7 A.check_run A.check_run_ ["machine", "task", "seed"] (spRun3 K) := by
  refine T.check_run.F.ok sc_check_run (fun vs H Q E h => ?_) (fun cdv Ar outer s H vs Q E hr h => ?_)
  · obtain ⟨v, t, m, tk, s, rfl, _⟩ := h
    rfl
  · obtain ⟨v, t, m, tk, s, rfl, hv, ht, ho, to, s0, s1, k⟩ := h
    refine ⟨_, (pss_cons (ps_expr (pe_call (ok_check_machine T) (hr.mono (by decide)) (by rfl) T.check_machine.n T.check_machine.F.kp T.check_machine.b .nil pass0 (pa_cons (pv 0) pa_nil)))
    (pss_cons (ps_expr (pe_call (ok_check_task T) (hr.mono (by decide)) (by rfl) T.check_task.n T.check_task.F.kp T.check_task.b .nil pass0 (pa_cons (pv 1) pa_nil)))
    (pss_one (ps_expr (pe_call (ok_check_seed T) (hr.mono (by decide)) (by rfl) T.check_seed.n T.check_seed.F.kp T.check_seed.b .nil pass0 (pa_cons (pv 2) pa_nil)))))), ?_⟩
    refine ⟨_, rfl, v, m, rfl, hv, ho, fun H1 e1 => ?_⟩
    refine ⟨_, rfl, t, tk, rfl, dp_same e1 _ _ ht, to, fun H2 e2 => ?_⟩
    exact ⟨_, rfl, s, rfl, s0, s1, k H2 (e1.trans e2)⟩
theorem ok_right (T : Txt K mg A) : FnOk P w K mg base CX0 9 A.right A.right_ ["machine", "task", "seed"] (spRight K) := by
  refine T.right.F.ok sc_right (fun vs H Q E h => ?_) (fun cdv Ar outer s H vs Q E hr h => ?_)
  · obtain ⟨v, t, m, tk, s, rfl, _⟩ := h
    rfl
  · obtain ⟨v, t, m, tk, s, rfl, hv, ht, ho, to, s0, s1, k⟩ := h
    refine ⟨_, (pss_cons (ps_expr (pe_call (ok_check_run T) (hr.mono (by decide)) (by rfl) T.check_run.n T.check_run.F.kp T.check_run.b .nil pass0 (pa_cons (pv 0) (pa_cons (pv 1) (pa_cons (pv 2) pa_nil)))))
    (pss_one (ps_ret (pe_callTy call_tuple_of (by rfl) T.n_tuple PyProof.Rows.boot_tuple (pa_cons (pe_call (ok_right_ones T) (hr.mono (by decide)) (by rfl) T.right_ones.n T.right_ones.F.kp T.right_ones.b .nil pass0 (pa_cons (pv 0) (pa_cons (pv 1) (pa_cons (pv 2) pa_nil)))) pa_nil))))), ?_⟩
    refine ⟨_, rfl, _, rfl, _, rfl, v, t, m, tk, s, rfl, hv, ht, ho, to, s0, s1, fun H1 e1 => ?_⟩
    refine ⟨_, rfl, _, rfl, _, rfl, v, t, m, tk, s, rfl, dp_same e1 _ _ hv, dp_same e1 _ _ ht, ho, to, fun p H2 hp s2 h2 => ?_⟩
    refine ⟨p, _, rfl, .inl ⟨SqL.of h2, fun l hl => ?_⟩⟩
    exact k (.ref l) _ (same_put (e1.trans s2) (same_none (e1.trans s2) hl)) (.tup (SqT.of upd_same) (dps_of_ints _))
theorem ok_score (T : Txt K mg A) : FnOk P w K mg base CX0 9 A.score A.score_ ["machine", "task", "seed"] (spScore K) := by
  refine T.score.F.ok sc_score (fun vs H Q E h => ?_) (fun cdv Ar outer s H vs Q E hr h => ?_)
  · obtain ⟨v, t, m, tk, s, rfl, _⟩ := h
    rfl
  · obtain ⟨v, t, m, tk, s, rfl, hv, ht, ho, to, s0, s1, k⟩ := h
    refine ⟨_, (pss_cons (ps_expr (pe_call (ok_check_run T) (hr.mono (by decide)) (by rfl) T.check_run.n T.check_run.F.kp T.check_run.b .nil pass0 (pa_cons (pv 0) (pa_cons (pv 1) (pa_cons (pv 2) pa_nil)))))
    (pss_one (ps_ret (pe_call (ok_count_right T) (hr.mono (by decide)) (by rfl) T.count_right.n T.count_right.F.kp T.count_right.b .nil pass0 (pa_cons (pv 0) (pa_cons (pv 1) (pa_cons (pv 2) pa_nil))))))), ?_⟩
    refine ⟨_, rfl, _, rfl, _, rfl, v, t, m, tk, s, rfl, hv, ht, ho, to, s0, s1, fun H1 e1 => ?_⟩
    exact ⟨_, rfl, _, rfl, _, rfl, v, t, m, tk, s, rfl, dp_same e1 _ _ hv, dp_same e1 _ _ ht, ho, to, fun H2 e2 => k H2 (e1.trans e2)⟩
end
end Mh
namespace Mh
open PySem L2
theorem sum_zero_from {f : Nat → Nat} {N : Nat} (h : ∀ j, N ≤ j → f j = 0) : ∀ k, ((List.range (N + k)).map f).sum = ((List.range N).map f).sum
  | 0 => rfl
  | k + 1 => by
    rw [← Nat.add_assoc, List.range_succ, List.map_append, List.sum_append, sum_zero_from h k]
    simp [h (N + k) (by omega)]
theorem sum_cast {f : Nat → Nat} (l : List Nat) : (l.map fun i => ((f i : Nat) : Int)).sum = (((l.map f).sum : Nat) : Int) := by
  induction l with
  | nil => rfl
  | cons x l ih =>
    simp only [List.map_cons, List.sum_cons, ih]
    omega
theorem ways_eq {n a b : Nat} (hb : b ≤ n) : ((List.range (b + 1)).map fun i => binom n (a + i) * binom n (b - i)).sum = waysN n a b := by
  have e1 : ∀ j, j < b + 1 → binom n (a + j) * binom n (b - j) = wayK n a b (a + j) := fun j hj => by
    unfold wayK
    rw [if_pos ⟨by omega, by omega⟩]
    congr 2
    omega
  have e2 : ((List.range (b + 1)).map fun i => binom n (a + i) * binom n (b - i)) = (List.range (b + 1)).map fun i => wayK n a b (a + i) := List.map_congr_left fun j hj => e1 j (List.mem_range.mp hj)
  rw [e2]
  unfold waysN waysI
  have z1 : ∀ j, b + 1 ≤ j → wayK n a b (a + j) = 0 := fun j hj => by
    unfold wayK
    rw [if_neg (by omega)]
  have z2 : ∀ j, n + 1 - a ≤ j → wayK n a b (a + j) = 0 := fun j hj => by
    unfold wayK
    split
    · rw [binom_over (n := n) (k := a + j) (by omega), Nat.zero_mul]
    · rfl
  rw [← sum_zero_from (f := fun i => wayK n a b (a + i)) z1 (n + 1 - a), ← sum_zero_from (f := fun i => wayK n a b (a + i)) (N := n + 1 - a) z2 (b + 1), Nat.add_comm]
theorem twin_take {qs : List Qn} {i : Nat} {r : Qn} (h : qs[i]? = some r) : twinned (qs.take (i + 1)) = twinned (qs.take i) ++ if r.twin.isSome = true then [r] else [] := by
  unfold twinned
  rw [List.take_add_one, h, List.filter_append]
  congr 1
  by_cases e : r.twin.isSome = true
  · simp [e]
  · simp [e]
theorem filt_take {α : Type} {f : α → Bool} {l : List α} {i : Nat} {r : α} (h : l[i]? = some r) : ((l.take (i + 1)).filter f).length = ((l.take i).filter f).length + if f r = true then 1 else 0 := by
  rw [List.take_add_one, h, List.filter_append, List.length_append]
  congr 1
  by_cases e : f r = true
  · simp [e]
  · simp [e]
section
variable {P : Program} {w : World} {K : PySem.W.Frag} {mg : Str → Option Value} {base : Heap} {A : Adr}
theorem ok_heart (T : Txt K mg A) : FnOk P w K mg base CX0 9 A.heart A.heart_ ["machine", "task", "seed"] (spHeart K) := by
  refine T.heart.F.ok sc_heart (fun vs H Q E h => ?_) (fun cdv Ar outer s H vs Q E hr h => ?_)
  · obtain ⟨v, t, m, tk, s, rfl, _⟩ := h
    rfl
  · obtain ⟨v, t, m, tk, s, rfl, hv, ht, ho, to, s0, s1, k⟩ := h
    have hL := sizeLine_eq
    have l16 := to.2.1
    refine ⟨_, (pss_cons (ps_expr (pe_call (ok_check_run T) (hr.mono (by decide)) (by rfl) T.check_run.n T.check_run.F.kp T.check_run.b .nil pass0 (pa_cons (pv 0) (pa_cons (pv 1) (pa_cons (pv 2) pa_nil)))))
    (pss_cons (ps_setLc (i := 3) (own := [("question", 8), ("due", 9), ("twin", 10)]) (g := gTup K 3 (gCons (gName 8) (gCons (gName 9) (gCons (gName 10) gNil))))  rfl sc_heart.nd rfl rfl (sw_true rfl rfl rfl (by decide +kernel)) (pi_tup (pe_ix ix_tup (pv 1) pe_int (fun _ _ => rfl))) (blkOk_by (N := N_heart) (sc := defScope s_heart) (by decide +kernel)) (fun _ _ _ _ _ => pg_tup rfl (pgs_cons (pg_name (i := 8) sc_heart.nd rfl (Or.inl rfl) (hf := Or.inr rfl)) (pgs_cons (pg_name (i := 9) sc_heart.nd rfl (Or.inl rfl) (hf := Or.inr rfl)) (pgs_cons (pg_name (i := 10) sc_heart.nd rfl (Or.inl rfl) (hf := Or.inr rfl)) pgs_nil)))) (fun _ _ _ _ _ => (pts_one (pt_cmpR op_notN (pv 10) pe_non (nomark _)))) (fun _ _ _ _ _ => (pe_tup (pa_cons (pv 8) (pa_cons (pv 9) (pa_cons (pv 10) pa_nil))))))
    (pss_cons (ps_set (i := 4) sc_heart.nd rfl (Or.inr rfl) (pe_callB call_len_seq (by rfl) T.n_len PySem.boot_len (pa_cons (pv 3) pa_nil)))
    (pss_cons (ps_set (i := 5) sc_heart.nd rfl (Or.inr rfl) (pe_callB call_len_seq (by rfl) T.n_len PySem.boot_len (pa_cons (pe_lc (own := [("question", 8), ("due", 9), ("_", 12)]) (g := gTup K 3 (gCons (gName 8) (gCons (gName 9) (gCons (gName 12) gNil))))  rfl sc_heart.nd (pi_list (pv 3)) (blkOk_by (N := N_heart) (sc := defScope s_heart) (by decide +kernel)) (fun _ _ _ _ _ => pg_tup rfl (pgs_cons (pg_name (i := 8) sc_heart.nd rfl (Or.inl rfl) (hf := Or.inr rfl)) (pgs_cons (pg_name (i := 9) sc_heart.nd rfl (Or.inl rfl) (hf := Or.inr rfl)) (pgs_cons (pg_name (i := 12) sc_heart.nd rfl (Or.inl rfl) (hf := Or.inr rfl)) pgs_nil)))) (fun _ _ _ _ _ => (pts_one (pt_cmpR op_eq (pe_call (ok_run T) (hr.mono (by decide)) (by rfl) T.run.n T.run.F.kp T.run.b .nil pass0 (pa_cons (pv 0) (pa_cons (pv 8) (pa_cons (pv 2) pa_nil)))) (pv 9) (nomark _)))) (fun _ _ _ _ _ => (pv 9))) pa_nil)))
    (pss_cons (ps_set (i := 6) sc_heart.nd rfl (Or.inr rfl) (pe_callB call_len_seq (by rfl) T.n_len PySem.boot_len (pa_cons (pe_lc (own := [("_", 12), ("twin", 10)]) (g := gTup K 3 (gCons (gName 12) (gCons (gName 12) (gCons (gName 10) gNil))))  rfl sc_heart.nd (pi_list (pv 3)) (blkOk_by (N := N_heart) (sc := defScope s_heart) (by decide +kernel)) (fun _ _ _ _ _ => pg_tup rfl (pgs_cons (pg_name (i := 12) sc_heart.nd rfl (Or.inl rfl) (hf := Or.inr rfl)) (pgs_cons (pg_name (i := 12) sc_heart.nd rfl (Or.inl rfl) (hf := Or.inr rfl)) (pgs_cons (pg_name (i := 10) sc_heart.nd rfl (Or.inl rfl) (hf := Or.inr rfl)) pgs_nil)))) (fun _ _ _ _ _ => (pts_one (pt_cmpR op_eq (pe_call (ok_run T) (hr.mono (by decide)) (by rfl) T.run.n T.run.F.kp T.run.b .nil pass0 (pa_cons (pv 0) (pa_cons (pe_ix (ixK_tup (K := K) rfl) (pv 10) pe_int (fun _ _ => rfl)) (pa_cons (pv 2) pa_nil)))) (pe_ix (ixK_tup (K := K) rfl) (pv 10) pe_int (fun _ _ => rfl)) (nomark _)))) (fun _ _ _ _ _ => (pv 10))) pa_nil)))
    (pss_cons (ps_setLc (i := 7) (own := [("laid", 11)]) (g := gName 11) (tt := tYes) rfl sc_heart.nd rfl rfl (sw_true rfl rfl rfl (by decide +kernel)) (pi_range2 (by rfl) T.n_range (pa_cons (pv 5) (pa_cons (pe_op op_add (pe_op op_add (pv 5) (pv 6)) pe_int) pa_nil))) (blkOk_by (N := N_heart) (sc := defScope s_heart) (by decide +kernel)) (fun _ _ _ _ _ => pg_name (i := 11) sc_heart.nd rfl (Or.inl rfl) (hf := Or.inr rfl)) (fun _ _ _ _ _ => pts_nil) (fun _ _ _ _ _ => (pe_op op_mul (pe_callBfun cr_comb (by rfl) T.m_comb (pa_cons (pv 4) (pa_cons (pv 11) pa_nil))) (pe_callBfun cr_comb (by rfl) T.m_comb (pa_cons (pv 4) (pa_cons (pe_op op_sub (pe_op op_add (pv 5) (pv 6)) (pv 11)) pa_nil))))))
    (pss_one (ps_ret (pe_tup (pa_cons (pv 4) (pa_cons (pv 5) (pa_cons (pv 6) (pa_cons (pe_callB (cr_sum rfl) (by rfl) T.n_sum (by decide +kernel) (pa_cons (pv 7) pa_nil)) (pa_cons (pe_callBfun cr_comb (by rfl) T.m_comb (pa_cons (pe_op op_mul pe_int (pv 4)) (pa_cons (pe_op op_add (pv 5) (pv 6)) pa_nil))) pa_nil)))))))))))))), ?_⟩
    refine ⟨_, rfl, _, rfl, _, rfl, v, t, m, tk, s, rfl, hv, ht, ho, to, s0, s1, fun H1 e1 => ?_⟩
    have hv1 := dp_same e1 _ _ hv
    have ht1 := dp_same e1 _ _ ht
    obtain ⟨a, b, us, rfl, hs, hb, hu, hl⟩ := dp_tk ht1
    have lt : ∀ i, (twinned (tk.qs.take i)).length ≤ 16 := fun i => by
      have h1 := List.length_filter_le (fun r : Qn => r.twin.isSome) (tk.qs.take i)
      rw [List.length_take] at h1
      show (List.filter _ _).length ≤ 16
      omega
    refine ⟨_, rfl, a, _, _, _, rfl, rfl, hs, at0, b, rfl, ⟨us, hb⟩, fun D hD => lc_tup (K := K) (a := b) (xs := us) (fun i H' => Same H1 H' ∧ ∃ vs, H' D = some (.lst vs) ∧ DpAll K H' vs ((twinned (tk.qs.take i)).map Qn.dt))
      ⟨same_put (Same.refl H1) hD, [], upd_same, .nil⟩ (fun i H' _ z => KT.same z.1 _ _ hb) ?_ ?_⟩
    · rintro i x H2 hi ⟨s2, vs, h2, d2⟩
      obtain ⟨d, hd, hx⟩ := dps_get hu hi
      obtain ⟨r, hr2⟩ : ∃ r, tk.qs[i]? = some r := ⟨_, List.getElem?_eq_getElem (by have := (List.getElem?_eq_some_iff.mp hi).1; omega)⟩
      rw [List.getElem?_map, hr2] at hd
      have hd := Option.some.inj hd
      subst hd
      have hx' := dp_same s2 _ _ hx
      obtain ⟨ra, ru, rfl, hrs, hru⟩ := dp_qn hx'
      refine ⟨ra, _, rfl, hrs, rfl, _, _, rfl, _, _, rfl, _, _, rfl, rfl, rfl, ?_⟩
      have lv : vs.length = (twinned (tk.qs.take i)).length := by
        have e := dps_len d2
        rwa [List.length_map] at e
      have := lt i
      cases et : r.twin with
      | none =>
        rw [et] at hru
        cases hru
        refine ⟨_, rfl, rfl, _, rfl, ?_⟩
        refine iteF ⟨s2, vs, h2, ?_⟩
        rw [twin_take hr2, et]
        simpa using d2
      | some p =>
        rw [et] at hru
        obtain ⟨ta, tz, ts, rfl, hts, hta⟩ := (by
          obtain ⟨y, e⟩ := p
          obtain ⟨ta, u1, u2, rfl, h1, h2, h3⟩ := dp_pair hru
          exact ⟨ta, (), [u1, u2], rfl, h1, trivial⟩ : ∃ (ta : Addr) (tz : Unit) (ts : List V), ru = .ref ta ∧ SqT K H2 ta ts ∧ True)
        refine ⟨_, rfl, rfl, _, rfl, ?_⟩
        refine iteT ?_
        refine ⟨_, rfl, _, rfl, _, rfl, by show 3 ≤ sizeLine; decide, fun l hl => ?_⟩
        have ne := ne_of_none h2 hl
        have sl : Same H2 (upd H2 l (.tup [.int r.q, .int r.due, .ref ta])) := same_put (Same.refl H2) hl
        refine ⟨vs, (upd_ne ne).trans h2, by omega, ?_, vs ++ [.ref l], upd_same, ?_⟩
        · intro q o z
          rw [upd_ne (ne_of_none z hD)]
          exact sl q o (s2 q o z)
        · have kt : KT K (upd H2 l (.tup [.int r.q, .int r.due, .ref ta])) (upd (upd H2 l (.tup [.int r.q, .int r.due, .ref ta])) D (.lst (vs ++ [.ref l]))) :=
            (Bt.refl.set (List.mem_singleton.mpr rfl)).kt1 ((upd_ne ne).trans h2)
          rw [twin_take hr2, et, List.map_append]
          refine dps_snoc (dps_keep kt _ _ (tds_map qn_td _) (dps_same sl _ _ d2)) (dp_keep kt _ _ (qn_td r) (.tup (SqT.of upd_same) (.cons (.int _) (.cons (.int _) (.cons ?_ .nil)))))
          rw [et]
          exact dp_same sl _ _ hru
    rintro H2 ⟨s2, vs, h2, d2⟩
    rw [hl, List.take_length] at d2
    have lv : vs.length = (twinned tk.qs).length := by
      have e := dps_len d2
      rwa [List.length_map] at e
    have ln : (twinned tk.qs).length ≤ 16 := by
      have := lt tk.qs.length
      rwa [List.take_length] at this
    refine ⟨_, rfl, D, vs, rfl, .inl (SqL.of h2), ?_⟩
    rw [lv]
    refine ⟨_, rfl, D, rfl, ⟨vs, SqL.of h2⟩, fun D2 hD2 => lc_list (K := K) (a := D) (xs := vs) (fun i H' => Same H2 H' ∧ ∃ acc, H' D2 = some (.lst acc) ∧ acc.length = (((twinned tk.qs).take i).filter (Qn.good m s)).length)
      ⟨same_put (Same.refl H2) hD2, [], upd_same, rfl⟩ (fun i H' _ z => SqL.of (z.1 _ _ h2)) ?_ ?_⟩
    · rintro i x H3 hi ⟨s3, acc, h3, l3⟩
      have il := (List.getElem?_eq_some_iff.mp hi).1
      obtain ⟨d, hd, hx⟩ := dps_get d2 hi
      obtain ⟨r, hr2⟩ : ∃ r, (twinned tk.qs)[i]? = some r := ⟨_, List.getElem?_eq_getElem (by omega)⟩
      rw [List.getElem?_map, hr2] at hd
      have hd := Option.some.inj hd
      subst hd
      obtain ⟨ra, ru, rfl, hrs, hru⟩ := dp_qn (dp_same s3 _ _ hx)
      have fl := filt_take (f := Qn.good m s) hr2
      have := List.length_filter_le (Qn.good m s) ((twinned tk.qs).take i)
      rw [List.length_take] at this
      refine ⟨ra, _, rfl, hrs, rfl, _, _, rfl, _, _, rfl, _, _, rfl, rfl, rfl, ?_⟩
      refine ⟨_, rfl, _, rfl, _, rfl, v, m, r.q, s, rfl, dp_same (s2.trans s3) _ _ hv1, ho, _, rfl, ?_⟩
      refine eq_tell ?_
      refine ⟨_, rfl, ?_⟩
      have eg : r.good m s = decide (tell r.q s m = some r.due) := rfl
      rw [← eg]
      refine ite2 (fun e => ?_) (fun e => ?_)
      · rw [if_pos e] at fl
        refine ⟨_, rfl, acc, h3, by omega, same_put s3 hD2, acc ++ [_], upd_same, ?_⟩
        rw [List.length_append, fl, l3]
        rfl
      · rw [if_neg e] at fl
        exact ⟨s3, acc, h3, by rw [fl, l3]; rfl⟩
    rintro H3 ⟨s3, acc, h3, l3⟩
    rw [lv, List.take_length] at l3
    refine ⟨D2, acc, rfl, .inl (SqL.of h3), ?_⟩
    rw [l3]
    have h2' := s3 _ _ h2
    refine ⟨_, rfl, D, rfl, ⟨vs, SqL.of h2'⟩, fun D3 hD3 => lc_list (K := K) (a := D) (xs := vs) (fun i H' => Same H3 H' ∧ ∃ acc, H' D3 = some (.lst acc) ∧ acc.length = (((twinned tk.qs).take i).filter (Qn.twinGood m s)).length)
      ⟨same_put (Same.refl H3) hD3, [], upd_same, rfl⟩ (fun i H' _ z => SqL.of (z.1 _ _ h2')) ?_ ?_⟩
    · rintro i x H4 hi ⟨s4, acc4, h4, l4⟩
      have il := (List.getElem?_eq_some_iff.mp hi).1
      obtain ⟨d, hd, hx⟩ := dps_get d2 hi
      obtain ⟨r, hr2⟩ : ∃ r, (twinned tk.qs)[i]? = some r := ⟨_, List.getElem?_eq_getElem (by omega)⟩
      rw [List.getElem?_map, hr2] at hd
      have hd := Option.some.inj hd
      subst hd
      obtain ⟨ra, ru, rfl, hrs, hru⟩ := dp_qn (dp_same (s3.trans s4) _ _ hx)
      have fl := filt_take (f := Qn.twinGood m s) hr2
      have := List.length_filter_le (Qn.twinGood m s) ((twinned tk.qs).take i)
      rw [List.length_take] at this
      have tw : r.twin.isSome = true := (List.mem_filter.mp (List.mem_of_getElem? hr2)).2
      obtain ⟨⟨y, e⟩, et⟩ := Option.isSome_iff_exists.mp tw
      rw [et] at hru
      obtain ⟨ta, u1, u2, rfl, hts, hu1, hu2⟩ := dp_pair hru
      have e1' := dp_int hu1
      have e2' := dp_int hu2
      subst e1' e2'
      refine ⟨ra, _, rfl, hrs, rfl, _, _, rfl, _, _, rfl, _, _, rfl, rfl, rfl, ?_⟩
      refine ⟨_, rfl, _, rfl, ta, _, _, _, rfl, rfl, hts, at0, _, rfl, v, m, y, s, rfl, dp_same (s2.trans (s3.trans s4)) _ _ hv1, ho, _, rfl, ta, _, _, _, rfl, rfl, hts, at1, ?_⟩
      refine eq_tell ?_
      refine ⟨_, rfl, ?_⟩
      have eg : r.twinGood m s = decide (tell y s m = some e) := by
        unfold Qn.twinGood
        rw [et]
      rw [← eg]
      refine ite2 (fun e => ?_) (fun e => ?_)
      · rw [if_pos e] at fl
        refine ⟨_, rfl, acc4, h4, by omega, same_put s4 hD3, acc4 ++ [_], upd_same, ?_⟩
        rw [List.length_append, fl, l4]
        rfl
      · rw [if_neg e] at fl
        exact ⟨s4, acc4, h4, by rw [fl, l4]; rfl⟩
    rintro H4 ⟨s4, acc4, h4, l4⟩
    rw [lv, List.take_length] at l4
    refine ⟨D3, acc4, rfl, .inl (SqL.of h4), ?_⟩
    rw [l4]
    have na : hereN m s tk.qs ≤ (twinned tk.qs).length := List.length_filter_le _ _
    have nb : thereN m s tk.qs ≤ (twinned tk.qs).length := List.length_filter_le _ _
    have ea : ((twinned tk.qs).filter (Qn.good m s)).length = hereN m s tk.qs := rfl
    have eb : ((twinned tk.qs).filter (Qn.twinGood m s)).length = thereN m s tk.qs := rfl
    rw [ea, eb]
    have eh : heartDt m s tk.qs = .tuple [.int ((twinned tk.qs).length : Nat), .int (hereN m s tk.qs : Nat), .int (thereN m s tk.qs : Nat), .int (waysN (twinned tk.qs).length (hereN m s tk.qs) (thereN m s tk.qs) : Nat), .int (binom (2 * (twinned tk.qs).length) (hereN m s tk.qs + thereN m s tk.qs) : Nat)] := rfl
    rw [eh] at k
    generalize (twinned tk.qs).length = n at na nb ln k ⊢
    generalize hereN m s tk.qs = x at na k ⊢
    generalize thereN m s tk.qs = y at nb k ⊢
    have wl := ways_eq (a := x) nb
    refine ⟨_, rfl, _, rfl, _, rfl, _, _, rfl, rfl, _, _, rfl, rfl, (x : Int), (x : Int) + (y : Int) + 1, rfl, ⟨by omega, by omega, by omega, by omega⟩, fun D4 hD4 => ?_⟩
    have en : ((x : Int) + (y : Int) + 1 - (x : Int)).toNat = y + 1 := by omega
    refine lc_range (lo := (x : Int)) (n := ((x : Int) + (y : Int) + 1 - (x : Int)).toNat) (fun i H' => Same H4 H' ∧ H' D4 = some (.lst (((List.range i).map fun j => ((binom n (x + j) * binom n (y - j) : Nat) : Int)).map V.int))) ⟨same_put (Same.refl H4) hD4, upd_same⟩ ?_ ?_
    · rintro i H5 hi ⟨s5, h5⟩
      rw [en] at hi
      refine ⟨rfl, ?_⟩
      refine yes_ ?_
      refine iteT ?_
      refine ⟨_, rfl, _, rfl, n, x + i, ?_, by omega, by omega, _, rfl, _, rfl, _, rfl, _, _, rfl, rfl, _, rfl, _, _, rfl, rfl, n, y - i, ?_, by omega, by omega, _, _, rfl, rfl, .inl ?_, _, h5, ?_, same_put s5 hD4, ?_⟩
      · show [V.int (n : Nat), V.int ((x : Int) + (i : Nat))] = [V.int (n : Nat), V.int ((x + i : Nat) : Int)]
        rw [Int.natCast_add]
      · show [V.int (n : Nat), V.int ((x : Int) + (y : Int) - ((x : Int) + (i : Nat)))] = [V.int (n : Nat), V.int ((y - i : Nat) : Int)]
        rw [show (x : Int) + (y : Int) - ((x : Int) + (i : Nat)) = ((y - i : Nat) : Int) by omega]
      · have b1 := binom_le n (x + i)
        have b2 : 2 ^ n ≤ 2 ^ 16 := Nat.pow_le_pow_right (by decide) ln
        have b3 : (2 : Nat) ^ 16 = 65536 := by decide
        exact ⟨by omega, by omega⟩
      · rw [List.length_map, List.length_map, List.length_range]
        omega
      · rw [upd_same, List.range_succ, List.map_append, List.map_append]
        show _ = some (HO.lst (_ ++ [V.int ((binom n (x + i) * binom n (y - i) : Nat) : Int)]))
        rw [Int.natCast_mul]
    rintro H5 ⟨s5, h5⟩
    rw [en] at h5
    refine ⟨_, rfl, _, rfl, _, rfl, _, rfl, D4, _, rfl, SqL.of h5, _, rfl, _, _, rfl, rfl, .inl ⟨by decide, by decide⟩, _, rfl, _, rfl, _, _, rfl, rfl, 2 * n, x + y, ?_, by omega, by omega, ?_, fun l hl => ?_⟩
    · show [V.int (2 * (n : Int)), V.int ((x : Int) + (y : Int))] = [V.int ((2 * n : Nat) : Int), V.int ((x + y : Nat) : Int)]
      rw [Int.natCast_add, Int.natCast_mul]
      rfl
    · show 5 ≤ sizeLine
      decide
    rw [sum_cast, wl]
    have sA : Same H H5 := e1.trans (s2.trans (s3.trans (s4.trans s5)))
    exact k (.ref l) _ (same_put sA (same_none sA hl)) (.tup (SqT.of upd_same) (.cons (.int _) (.cons (.int _) (.cons (.int _) (.cons (.int _) (.cons (.int _) .nil))))))
end
end Mh
namespace Mh
open PySem L2 LamX
local macro_rules | `(tactic| walk_at "z") => `(tactic| simp only [List.set_cons_succ, List.set_cons_zero])
local macro_rules | `(tactic| walk_at "w") => `(tactic| simp only [wipe, List.map, List.set_cons_succ, List.set_cons_zero])
/-! the word of what is refused -/
def wNames : List Str := ["question", "seed", "name", "many", "taken", "nomachine", "notask", "score", "norun", "notranked", "share", "notahead", "nopage", "machine", "text", "task", "deed"]
def wordE (K : PySem.W.Frag) (A : Adr) (Q : VK) : XK := fun cls d H' => ∃ j D x, cls = .ref D ∧ d = none ∧ ExR K A.HallError (exs A) j D ∧ wNames[j]? = some x ∧ j < 13 ∧
  ∀ p H'', H' p = none → Same H' H'' → H'' p = some (.tup [.str x, .int 0]) → Q (.ref p) H''
/-- what stands at f, called, is told by its word -/
def spWord (P : Program) (w : World) (K : PySem.W.Frag) (mg : Str → Option Value) (A : Adr) (base : Heap) : Sp := fun vs H Q _ => ∃ (f : Addr) (tl : XK → Hp → VK → Prop), vs = [.ref f] ∧ Acts P w K mg base 11 f tl ∧
  ∀ (E' : XK) (Q' : VK), (∀ cls d H', wordE K A Q cls d H' → E' cls d H') → (∀ v H', Q .non H' → Q' v H') → tl E' H Q'
theorem xif_no {c : TT} {t r : TS} {D : Ends} {σ : St} {H : Hp} (hc : ∀ F : Bool → Hp → Prop, F false H → c σ H F) (h : r D σ H) : tSeq (tIfS c t tNext) r D σ H := by
  refine hc _ ?_
  show if false = true then _ else _
  rw [if_neg (by decide)]
  exact h
theorem xg_name {i : Nat} {v : V} {σ : St} {H : Hp} {Q : St → Hp → Prop} (h : Q (σ.set i (some v)) H) : gName i v σ H Q := h
theorem xif_r {c : TT} {t r : TS} {D : Ends} {σ : St} {H : Hp} (R : Bool → Hp → Prop) (hc : ∀ F : Bool → Hp → Prop, (∀ b H', R b H' → F b H') → c σ H F) (hy : ∀ H', R true H' → tSeq t r D σ H') (hn : ∀ H', R false H' → r D σ H') : tSeq (tIfS c t tNext) r D σ H := by
  refine hc _ fun b H' h => ?_
  cases b with
  | true =>
    show if true = true then _ else _
    rw [if_pos rfl]
    exact hy H' h
  | false =>
    show if false = true then _ else _
    rw [if_neg (by decide)]
    exact hn H' h
theorem none_bk {H H2 : Hp} {b : Addr} (s : Same H H2) (h : H2 b = none) : H b = none := by
  cases e : H b with
  | none => rfl
  | some o =>
    rw [s _ _ e] at h
    cases h
section
variable {P : Program} {w : World} {K : PySem.W.Frag} {mg : Str → Option Value} {base : Heap} {A : Adr}
theorem ok_word_of (T : Txt K mg A) : FnOk P w K mg base CX0 12 A.word_of A.word_of_ ["_law_work"] (spWord P w K mg A base) := by
  refine T.word_of.F.ok sc_word_of (fun vs H Q E h => ?_) (fun cdv Ar outer s H vs Q E hr h => ?_)
  · obtain ⟨f, tl, rfl, _⟩ := h
    rfl
  · obtain ⟨f, tl, rfl, ac, ht⟩ := h
    refine ⟨_, (pss_cons (ps_try_as (i := 1) rfl rfl sc_word_of.nd rfl rfl ⟨by rfl, by decide, Or.inl T.g_HallError⟩ L2.takes0 (fun W pn xe tk _ => (pss_one (ps_expr (pe_acts (i := 0) (P := P) (w := w) (K := K) (mg := mg) (base := base) rfl rfl rfl rfl rfl tk hr rfl (Or.inl rfl)))))
    (fun a oe cls d pn hz hf => (pss_cons (ps_if (pt_not (pt_val (pe_callB (call_isC hz hf) (by rfl) T.n_isinstance PyProof.Rows.boot_isinstance (pa_cons (pv 1) (pa_cons (pe_bltn (v := .ty "ValueError") (by rfl) T.n_ValueError (by decide +kernel) rfl) pa_nil)))))
    (pss_one (ps_ret (pe_tup (pa_cons pe_str (pa_cons pe_int pa_nil)))))
    pss_nil)
    (pss_cons (ps_set (i := 2) sc_word_of.nd rfl (Or.inl rfl) (pe_lst (pa_cons (pe_callB (call_isC hz hf) (by rfl) T.n_isinstance PyProof.Rows.boot_isinstance (pa_cons (pv 1) (pa_cons (pe_glob (v := .ref A.BadQuestion) (by rfl) T.g_BadQuestion rfl) pa_nil))) (pa_cons (pe_callB (call_isC hz hf) (by rfl) T.n_isinstance PyProof.Rows.boot_isinstance (pa_cons (pv 1) (pa_cons (pe_glob (v := .ref A.BadSeed) (by rfl) T.g_BadSeed rfl) pa_nil))) (pa_cons (pe_callB (call_isC hz hf) (by rfl) T.n_isinstance PyProof.Rows.boot_isinstance (pa_cons (pv 1) (pa_cons (pe_glob (v := .ref A.BadName) (by rfl) T.g_BadName rfl) pa_nil))) (pa_cons (pe_callB (call_isC hz hf) (by rfl) T.n_isinstance PyProof.Rows.boot_isinstance (pa_cons (pv 1) (pa_cons (pe_glob (v := .ref A.TooMany) (by rfl) T.g_TooMany rfl) pa_nil))) pa_nil))))))
    (pss_cons (ps_set (i := 2) sc_word_of.nd rfl (Or.inl rfl) (pe_op op_cat (pv 2) (pe_lst (pa_cons (pe_callB (call_isC hz hf) (by rfl) T.n_isinstance PyProof.Rows.boot_isinstance (pa_cons (pv 1) (pa_cons (pe_glob (v := .ref A.Taken) (by rfl) T.g_Taken rfl) pa_nil))) (pa_cons (pe_callB (call_isC hz hf) (by rfl) T.n_isinstance PyProof.Rows.boot_isinstance (pa_cons (pv 1) (pa_cons (pe_glob (v := .ref A.NoMachine) (by rfl) T.g_NoMachine rfl) pa_nil))) (pa_cons (pe_callB (call_isC hz hf) (by rfl) T.n_isinstance PyProof.Rows.boot_isinstance (pa_cons (pv 1) (pa_cons (pe_glob (v := .ref A.NoTask) (by rfl) T.g_NoTask rfl) pa_nil))) pa_nil))))))
    (pss_cons (ps_set (i := 2) sc_word_of.nd rfl (Or.inl rfl) (pe_op op_cat (pv 2) (pe_lst (pa_cons (pe_callB (call_isC hz hf) (by rfl) T.n_isinstance PyProof.Rows.boot_isinstance (pa_cons (pv 1) (pa_cons (pe_glob (v := .ref A.BadScore) (by rfl) T.g_BadScore rfl) pa_nil))) (pa_cons (pe_callB (call_isC hz hf) (by rfl) T.n_isinstance PyProof.Rows.boot_isinstance (pa_cons (pv 1) (pa_cons (pe_glob (v := .ref A.NoRun) (by rfl) T.g_NoRun rfl) pa_nil))) (pa_cons (pe_callB (call_isC hz hf) (by rfl) T.n_isinstance PyProof.Rows.boot_isinstance (pa_cons (pv 1) (pa_cons (pe_glob (v := .ref A.NotRanked) (by rfl) T.g_NotRanked rfl) pa_nil))) pa_nil))))))
    (pss_cons (ps_set (i := 2) sc_word_of.nd rfl (Or.inl rfl) (pe_op op_cat (pv 2) (pe_lst (pa_cons (pe_callB (call_isC hz hf) (by rfl) T.n_isinstance PyProof.Rows.boot_isinstance (pa_cons (pv 1) (pa_cons (pe_glob (v := .ref A.BadShare) (by rfl) T.g_BadShare rfl) pa_nil))) (pa_cons (pe_callB (call_isC hz hf) (by rfl) T.n_isinstance PyProof.Rows.boot_isinstance (pa_cons (pv 1) (pa_cons (pe_glob (v := .ref A.NotAhead) (by rfl) T.g_NotAhead rfl) pa_nil))) (pa_cons (pe_callB (call_isC hz hf) (by rfl) T.n_isinstance PyProof.Rows.boot_isinstance (pa_cons (pv 1) (pa_cons (pe_glob (v := .ref A.NoPage) (by rfl) T.g_NoPage rfl) pa_nil))) pa_nil))))))
    (pss_cons (ps_set (i := 2) sc_word_of.nd rfl (Or.inl rfl) (pe_op op_cat (pv 2) (pe_lst (pa_cons (pe_callB (call_isC hz hf) (by rfl) T.n_isinstance PyProof.Rows.boot_isinstance (pa_cons (pv 1) (pa_cons (pe_glob (v := .ref A.BadMachine) (by rfl) T.g_BadMachine rfl) pa_nil))) (pa_cons (pe_callB (call_isC hz hf) (by rfl) T.n_isinstance PyProof.Rows.boot_isinstance (pa_cons (pv 1) (pa_cons (pe_glob (v := .ref A.BadText) (by rfl) T.g_BadText rfl) pa_nil))) (pa_cons (pe_callB (call_isC hz hf) (by rfl) T.n_isinstance PyProof.Rows.boot_isinstance (pa_cons (pv 1) (pa_cons (pe_glob (v := .ref A.BadTask) (by rfl) T.g_BadTask rfl) pa_nil))) pa_nil))))))
    (pss_cons (ps_expr (peK_bm (K := K) rfl PySem.F.plainAttrs_list PySem.F.slot_list_append PySem.F.type_list_append mt_append (pv 2) (pa_cons (pe_callB (call_isC hz hf) (by rfl) T.n_isinstance PyProof.Rows.boot_isinstance (pa_cons (pv 1) (pa_cons (pe_glob (v := .ref A.BadDeed) (by rfl) T.g_BadDeed rfl) pa_nil))) pa_nil)))
    (pss_cons (ps_if (pt_cmpR op_ne (peK_bm (K := K) rfl PySem.F.plainAttrs_list PySem.F.slot_list_count PySem.F.type_list_count (mtK_countF (K := K) rfl) (pv 2) (pa_cons pe_bl pa_nil)) pe_int (nomark _))
    (pss_one (ps_ret (pe_tup (pa_cons pe_str (pa_cons pe_int pa_nil)))))
    pss_nil)
    (pss_cons (ps_set (i := 3) sc_word_of.nd rfl (Or.inl rfl) (pe_lst (pa_cons pe_str (pa_cons pe_str (pa_cons pe_str (pa_cons pe_str (pa_cons pe_str (pa_cons pe_str (pa_cons pe_str (pa_cons pe_str (pa_cons pe_str (pa_cons pe_str pa_nil))))))))))))
    (pss_cons (ps_set (i := 4) sc_word_of.nd rfl (Or.inl rfl) (pe_ix (ixK_list (K := K) rfl) (pe_op op_cat (pv 3) (pe_lst (pa_cons pe_str (pa_cons pe_str (pa_cons pe_str (pa_cons pe_str (pa_cons pe_str (pa_cons pe_str (pa_cons pe_str pa_nil))))))))) (peK_bm (K := K) rfl PySem.F.plainAttrs_list PySem.F.slot_list_index PySem.F.type_list_index (mtK_index (K := K) rfl) (pv 2) (pa_cons pe_bl pa_nil)) (fun _ _ => rfl)))
    (pss_cons (ps_if (pt_cmpR (opK_in_seq (K := K) rfl) (pv 4) (pe_tup (pa_cons pe_str (pa_cons pe_str pa_nil))) (by rfl))
    (pss_one (ps_ret (pe_tup (pa_cons (pv 4) (pa_cons pe_never pa_nil)))))
    pss_nil)
    (pss_one (ps_ret (pe_tup (pa_cons (pv 4) (pa_cons (pe_ifExp (pt_cmpR (opK_in_seq (K := K) rfl) (pv 4) (pe_tup (pa_cons pe_str (pa_cons pe_str pa_nil))) (by rfl)) pe_never pe_int) pa_nil))))))))))))))))))
    (pss_one (ps_ret pe_non))), ?_⟩
    refine ⟨f, tl, rfl, ac, ht _ _ (fun cls d H1 hx => ?_) fun v H1 q => ?_⟩
    · obtain ⟨j, D, x, rfl, rfl, X, hx, lj, q⟩ := hx
      refine ⟨true, X.m, fun _ a ha => ?_, fun z => by cases z⟩
      dsimp only
      have isx : ∀ (i : Nat) (C : Addr) (H' : Hp) (F : VK), (exs A)[i]? = some C → F (.bl (decide (i = j))) H' → rIsC K a (.ref D) none [.ref a, .ref C] H' F := fun i C H' F hi f => ⟨D, rfl, rfl, X.c, .ref C, .ref C, _, rfl, fun u r => r, X.i i C hi, f⟩
      have hL := sizeLine_eq
      refine xif_no (fun F f => ?_) ?_
      · refine ⟨_, rfl, D, rfl, rfl, X.c, .ty "ValueError", .type "ValueError", true, rfl, fun u r => r, X.v, ?_⟩
        refine ⟨_, rfl, ?_⟩
        exact f
      refine ⟨_, rfl, isx 0 _ _ _ rfl ?_⟩
      refine ⟨_, rfl, isx 1 _ _ _ rfl ?_⟩
      refine ⟨_, rfl, isx 2 _ _ _ rfl ?_⟩
      refine ⟨_, rfl, isx 3 _ _ _ rfl ?_⟩
      refine ⟨by show 4 ≤ sizeLine; omega, fun l1 hl10 => ?_⟩
      have s2 := same_put (o := .lst [.bl (decide (0 = j)), .bl (decide (1 = j)), .bl (decide (2 = j)), .bl (decide (3 = j))]) (Same.refl H1) hl10
      have hl1 : upd H1 l1 (.lst [.bl (decide (0 = j)), .bl (decide (1 = j)), .bl (decide (2 = j)), .bl (decide (3 = j))]) l1 = some (.lst [.bl (decide (0 = j)), .bl (decide (1 = j)), .bl (decide (2 = j)), .bl (decide (3 = j))]) := upd_same
      generalize upd H1 l1 (.lst [.bl (decide (0 = j)), .bl (decide (1 = j)), .bl (decide (2 = j)), .bl (decide (3 = j))]) = H2 at s2 hl1
      refine xg_name ?_
      walk_at "z"
      refine ⟨_, rfl, ?_⟩
      refine ⟨_, rfl, isx 4 _ _ _ rfl ?_⟩
      refine ⟨_, rfl, isx 5 _ _ _ rfl ?_⟩
      refine ⟨_, rfl, isx 6 _ _ _ rfl ?_⟩
      refine ⟨by show 3 ≤ sizeLine; omega, fun l2 hl20 => ?_⟩
      have s3 := same_put (o := .lst [.bl (decide (4 = j)), .bl (decide (5 = j)), .bl (decide (6 = j))]) (Same.refl H2) hl20
      have hl2 : upd H2 l2 (.lst [.bl (decide (4 = j)), .bl (decide (5 = j)), .bl (decide (6 = j))]) l2 = some (.lst [.bl (decide (4 = j)), .bl (decide (5 = j)), .bl (decide (6 = j))]) := upd_same
      generalize upd H2 l2 (.lst [.bl (decide (4 = j)), .bl (decide (5 = j)), .bl (decide (6 = j))]) = H3 at s3 hl2
      refine ⟨l1, l2, [.bl (decide (0 = j)), .bl (decide (1 = j)), .bl (decide (2 = j)), .bl (decide (3 = j))], [.bl (decide (4 = j)), .bl (decide (5 = j)), .bl (decide (6 = j))], rfl, rfl, s3 _ _ hl1, hl2, by show 4 + 3 ≤ sizeLine; omega, fun l3 hl30 => ?_⟩
      have s4 := same_put (o := .lst ([.bl (decide (0 = j)), .bl (decide (1 = j)), .bl (decide (2 = j)), .bl (decide (3 = j))] ++ [.bl (decide (4 = j)), .bl (decide (5 = j)), .bl (decide (6 = j))])) (Same.refl H3) hl30
      have hl3 : upd H3 l3 (.lst ([.bl (decide (0 = j)), .bl (decide (1 = j)), .bl (decide (2 = j)), .bl (decide (3 = j))] ++ [.bl (decide (4 = j)), .bl (decide (5 = j)), .bl (decide (6 = j))])) l3 = some (.lst [.bl (decide (0 = j)), .bl (decide (1 = j)), .bl (decide (2 = j)), .bl (decide (3 = j)), .bl (decide (4 = j)), .bl (decide (5 = j)), .bl (decide (6 = j))]) := upd_same
      generalize upd H3 l3 (.lst ([.bl (decide (0 = j)), .bl (decide (1 = j)), .bl (decide (2 = j)), .bl (decide (3 = j))] ++ [.bl (decide (4 = j)), .bl (decide (5 = j)), .bl (decide (6 = j))])) = H4 at s4 hl3
      refine xg_name ?_
      walk_at "z"
      refine ⟨_, rfl, ?_⟩
      refine ⟨_, rfl, isx 7 _ _ _ rfl ?_⟩
      refine ⟨_, rfl, isx 8 _ _ _ rfl ?_⟩
      refine ⟨_, rfl, isx 9 _ _ _ rfl ?_⟩
      refine ⟨by show 3 ≤ sizeLine; omega, fun l4 hl40 => ?_⟩
      have s5 := same_put (o := .lst [.bl (decide (7 = j)), .bl (decide (8 = j)), .bl (decide (9 = j))]) (Same.refl H4) hl40
      have hl4 : upd H4 l4 (.lst [.bl (decide (7 = j)), .bl (decide (8 = j)), .bl (decide (9 = j))]) l4 = some (.lst [.bl (decide (7 = j)), .bl (decide (8 = j)), .bl (decide (9 = j))]) := upd_same
      generalize upd H4 l4 (.lst [.bl (decide (7 = j)), .bl (decide (8 = j)), .bl (decide (9 = j))]) = H5 at s5 hl4
      refine ⟨l3, l4, [.bl (decide (0 = j)), .bl (decide (1 = j)), .bl (decide (2 = j)), .bl (decide (3 = j)), .bl (decide (4 = j)), .bl (decide (5 = j)), .bl (decide (6 = j))], [.bl (decide (7 = j)), .bl (decide (8 = j)), .bl (decide (9 = j))], rfl, rfl, s5 _ _ hl3, hl4, by show 7 + 3 ≤ sizeLine; omega, fun l5 hl50 => ?_⟩
      have s6 := same_put (o := .lst ([.bl (decide (0 = j)), .bl (decide (1 = j)), .bl (decide (2 = j)), .bl (decide (3 = j)), .bl (decide (4 = j)), .bl (decide (5 = j)), .bl (decide (6 = j))] ++ [.bl (decide (7 = j)), .bl (decide (8 = j)), .bl (decide (9 = j))])) (Same.refl H5) hl50
      have hl5 : upd H5 l5 (.lst ([.bl (decide (0 = j)), .bl (decide (1 = j)), .bl (decide (2 = j)), .bl (decide (3 = j)), .bl (decide (4 = j)), .bl (decide (5 = j)), .bl (decide (6 = j))] ++ [.bl (decide (7 = j)), .bl (decide (8 = j)), .bl (decide (9 = j))])) l5 = some (.lst [.bl (decide (0 = j)), .bl (decide (1 = j)), .bl (decide (2 = j)), .bl (decide (3 = j)), .bl (decide (4 = j)), .bl (decide (5 = j)), .bl (decide (6 = j)), .bl (decide (7 = j)), .bl (decide (8 = j)), .bl (decide (9 = j))]) := upd_same
      generalize upd H5 l5 (.lst ([.bl (decide (0 = j)), .bl (decide (1 = j)), .bl (decide (2 = j)), .bl (decide (3 = j)), .bl (decide (4 = j)), .bl (decide (5 = j)), .bl (decide (6 = j))] ++ [.bl (decide (7 = j)), .bl (decide (8 = j)), .bl (decide (9 = j))])) = H6 at s6 hl5
      refine xg_name ?_
      walk_at "z"
      refine ⟨_, rfl, ?_⟩
      refine ⟨_, rfl, isx 10 _ _ _ rfl ?_⟩
      refine ⟨_, rfl, isx 11 _ _ _ rfl ?_⟩
      refine ⟨_, rfl, isx 12 _ _ _ rfl ?_⟩
      refine ⟨by show 3 ≤ sizeLine; omega, fun l6 hl60 => ?_⟩
      have s7 := same_put (o := .lst [.bl (decide (10 = j)), .bl (decide (11 = j)), .bl (decide (12 = j))]) (Same.refl H6) hl60
      have hl6 : upd H6 l6 (.lst [.bl (decide (10 = j)), .bl (decide (11 = j)), .bl (decide (12 = j))]) l6 = some (.lst [.bl (decide (10 = j)), .bl (decide (11 = j)), .bl (decide (12 = j))]) := upd_same
      generalize upd H6 l6 (.lst [.bl (decide (10 = j)), .bl (decide (11 = j)), .bl (decide (12 = j))]) = H7 at s7 hl6
      refine ⟨l5, l6, [.bl (decide (0 = j)), .bl (decide (1 = j)), .bl (decide (2 = j)), .bl (decide (3 = j)), .bl (decide (4 = j)), .bl (decide (5 = j)), .bl (decide (6 = j)), .bl (decide (7 = j)), .bl (decide (8 = j)), .bl (decide (9 = j))], [.bl (decide (10 = j)), .bl (decide (11 = j)), .bl (decide (12 = j))], rfl, rfl, s7 _ _ hl5, hl6, by show 10 + 3 ≤ sizeLine; omega, fun l7 hl70 => ?_⟩
      have s8 := same_put (o := .lst ([.bl (decide (0 = j)), .bl (decide (1 = j)), .bl (decide (2 = j)), .bl (decide (3 = j)), .bl (decide (4 = j)), .bl (decide (5 = j)), .bl (decide (6 = j)), .bl (decide (7 = j)), .bl (decide (8 = j)), .bl (decide (9 = j))] ++ [.bl (decide (10 = j)), .bl (decide (11 = j)), .bl (decide (12 = j))])) (Same.refl H7) hl70
      have hl7 : upd H7 l7 (.lst ([.bl (decide (0 = j)), .bl (decide (1 = j)), .bl (decide (2 = j)), .bl (decide (3 = j)), .bl (decide (4 = j)), .bl (decide (5 = j)), .bl (decide (6 = j)), .bl (decide (7 = j)), .bl (decide (8 = j)), .bl (decide (9 = j))] ++ [.bl (decide (10 = j)), .bl (decide (11 = j)), .bl (decide (12 = j))])) l7 = some (.lst [.bl (decide (0 = j)), .bl (decide (1 = j)), .bl (decide (2 = j)), .bl (decide (3 = j)), .bl (decide (4 = j)), .bl (decide (5 = j)), .bl (decide (6 = j)), .bl (decide (7 = j)), .bl (decide (8 = j)), .bl (decide (9 = j)), .bl (decide (10 = j)), .bl (decide (11 = j)), .bl (decide (12 = j))]) := upd_same
      generalize upd H7 l7 (.lst ([.bl (decide (0 = j)), .bl (decide (1 = j)), .bl (decide (2 = j)), .bl (decide (3 = j)), .bl (decide (4 = j)), .bl (decide (5 = j)), .bl (decide (6 = j)), .bl (decide (7 = j)), .bl (decide (8 = j)), .bl (decide (9 = j))] ++ [.bl (decide (10 = j)), .bl (decide (11 = j)), .bl (decide (12 = j))])) = H8 at s8 hl7
      refine xg_name ?_
      walk_at "z"
      refine ⟨_, rfl, ?_⟩
      refine ⟨_, rfl, isx 13 _ _ _ rfl ?_⟩
      refine ⟨_, rfl, isx 14 _ _ _ rfl ?_⟩
      refine ⟨_, rfl, isx 15 _ _ _ rfl ?_⟩
      refine ⟨by show 3 ≤ sizeLine; omega, fun l8 hl80 => ?_⟩
      have s9 := same_put (o := .lst [.bl (decide (13 = j)), .bl (decide (14 = j)), .bl (decide (15 = j))]) (Same.refl H8) hl80
      have hl8 : upd H8 l8 (.lst [.bl (decide (13 = j)), .bl (decide (14 = j)), .bl (decide (15 = j))]) l8 = some (.lst [.bl (decide (13 = j)), .bl (decide (14 = j)), .bl (decide (15 = j))]) := upd_same
      generalize upd H8 l8 (.lst [.bl (decide (13 = j)), .bl (decide (14 = j)), .bl (decide (15 = j))]) = H9 at s9 hl8
      refine ⟨l7, l8, [.bl (decide (0 = j)), .bl (decide (1 = j)), .bl (decide (2 = j)), .bl (decide (3 = j)), .bl (decide (4 = j)), .bl (decide (5 = j)), .bl (decide (6 = j)), .bl (decide (7 = j)), .bl (decide (8 = j)), .bl (decide (9 = j)), .bl (decide (10 = j)), .bl (decide (11 = j)), .bl (decide (12 = j))], [.bl (decide (13 = j)), .bl (decide (14 = j)), .bl (decide (15 = j))], rfl, rfl, s9 _ _ hl7, hl8, by show 13 + 3 ≤ sizeLine; omega, fun l9 hl90 => ?_⟩
      have s10 := same_put (o := .lst ([.bl (decide (0 = j)), .bl (decide (1 = j)), .bl (decide (2 = j)), .bl (decide (3 = j)), .bl (decide (4 = j)), .bl (decide (5 = j)), .bl (decide (6 = j)), .bl (decide (7 = j)), .bl (decide (8 = j)), .bl (decide (9 = j)), .bl (decide (10 = j)), .bl (decide (11 = j)), .bl (decide (12 = j))] ++ [.bl (decide (13 = j)), .bl (decide (14 = j)), .bl (decide (15 = j))])) (Same.refl H9) hl90
      have hl9 : upd H9 l9 (.lst ([.bl (decide (0 = j)), .bl (decide (1 = j)), .bl (decide (2 = j)), .bl (decide (3 = j)), .bl (decide (4 = j)), .bl (decide (5 = j)), .bl (decide (6 = j)), .bl (decide (7 = j)), .bl (decide (8 = j)), .bl (decide (9 = j)), .bl (decide (10 = j)), .bl (decide (11 = j)), .bl (decide (12 = j))] ++ [.bl (decide (13 = j)), .bl (decide (14 = j)), .bl (decide (15 = j))])) l9 = some (.lst [.bl (decide (0 = j)), .bl (decide (1 = j)), .bl (decide (2 = j)), .bl (decide (3 = j)), .bl (decide (4 = j)), .bl (decide (5 = j)), .bl (decide (6 = j)), .bl (decide (7 = j)), .bl (decide (8 = j)), .bl (decide (9 = j)), .bl (decide (10 = j)), .bl (decide (11 = j)), .bl (decide (12 = j)), .bl (decide (13 = j)), .bl (decide (14 = j)), .bl (decide (15 = j))]) := upd_same
      generalize upd H9 l9 (.lst ([.bl (decide (0 = j)), .bl (decide (1 = j)), .bl (decide (2 = j)), .bl (decide (3 = j)), .bl (decide (4 = j)), .bl (decide (5 = j)), .bl (decide (6 = j)), .bl (decide (7 = j)), .bl (decide (8 = j)), .bl (decide (9 = j)), .bl (decide (10 = j)), .bl (decide (11 = j)), .bl (decide (12 = j))] ++ [.bl (decide (13 = j)), .bl (decide (14 = j)), .bl (decide (15 = j))])) = H10 at s10 hl9
      refine xg_name ?_
      walk_at "z"
      have s110 := s2.trans (s3.trans (s4.trans (s5.trans (s6.trans (s7.trans (s8.trans (s9.trans s10)))))))
      have hn1 : H1 l9 = none := none_bk (s2.trans (s3.trans (s4.trans (s5.trans (s6.trans (s7.trans (s8.trans s9))))))) hl90
      refine ⟨_, rfl, .inl ⟨rfl, _, SqL.of hl9⟩, _, rfl, isx 16 _ _ _ rfl ?_⟩
      refine ⟨l9, [.bl (decide (0 = j)), .bl (decide (1 = j)), .bl (decide (2 = j)), .bl (decide (3 = j)), .bl (decide (4 = j)), .bl (decide (5 = j)), .bl (decide (6 = j)), .bl (decide (7 = j)), .bl (decide (8 = j)), .bl (decide (9 = j)), .bl (decide (10 = j)), .bl (decide (11 = j)), .bl (decide (12 = j)), .bl (decide (13 = j)), .bl (decide (14 = j)), .bl (decide (15 = j))], _, rfl, rfl, hl9, by show 16 < sizeLine; omega, ?_⟩
      have s11 := same_put (o := .lst ([.bl (decide (0 = j)), .bl (decide (1 = j)), .bl (decide (2 = j)), .bl (decide (3 = j)), .bl (decide (4 = j)), .bl (decide (5 = j)), .bl (decide (6 = j)), .bl (decide (7 = j)), .bl (decide (8 = j)), .bl (decide (9 = j)), .bl (decide (10 = j)), .bl (decide (11 = j)), .bl (decide (12 = j)), .bl (decide (13 = j)), .bl (decide (14 = j)), .bl (decide (15 = j))] ++ [.bl (decide (16 = j))])) s110 hn1
      have hk : upd H10 l9 (.lst ([.bl (decide (0 = j)), .bl (decide (1 = j)), .bl (decide (2 = j)), .bl (decide (3 = j)), .bl (decide (4 = j)), .bl (decide (5 = j)), .bl (decide (6 = j)), .bl (decide (7 = j)), .bl (decide (8 = j)), .bl (decide (9 = j)), .bl (decide (10 = j)), .bl (decide (11 = j)), .bl (decide (12 = j)), .bl (decide (13 = j)), .bl (decide (14 = j)), .bl (decide (15 = j))] ++ [.bl (decide (16 = j))])) l9 = some (.lst ((List.range 17).map fun i => V.bl (decide (i = j)))) := upd_same
      generalize upd H10 l9 (.lst ([.bl (decide (0 = j)), .bl (decide (1 = j)), .bl (decide (2 = j)), .bl (decide (3 = j)), .bl (decide (4 = j)), .bl (decide (5 = j)), .bl (decide (6 = j)), .bl (decide (7 = j)), .bl (decide (8 = j)), .bl (decide (9 = j)), .bl (decide (10 = j)), .bl (decide (11 = j)), .bl (decide (12 = j)), .bl (decide (13 = j)), .bl (decide (14 = j)), .bl (decide (15 = j))] ++ [.bl (decide (16 = j))])) = H11 at s11 hk
      have jj : j = 0 ∨ j = 1 ∨ j = 2 ∨ j = 3 ∨ j = 4 ∨ j = 5 ∨ j = 6 ∨ j = 7 ∨ j = 8 ∨ j = 9 ∨ j = 10 ∨ j = 11 ∨ j = 12 := by omega
      have cn : ((List.range 17).map fun i => V.bl (decide (i = j))).countP (fun z => eqV z (.bl true)) = 1 := by rcases jj with rfl | rfl | rfl | rfl | rfl | rfl | rfl | rfl | rfl | rfl | rfl | rfl | rfl <;> decide
      have fl : ((List.range 17).map fun i => V.bl (decide (i = j))).all flatV = true := by rcases jj with rfl | rfl | rfl | rfl | rfl | rfl | rfl | rfl | rfl | rfl | rfl | rfl | rfl <;> decide
      clear hl1 hl10 hl20 hl2 hl3 hl30 hl4 hl40 hl5 hl50 hl6 hl60 hl7 hl70 hl8 hl80 hl9 hl90 s2 s3 s4 s5 s6 s7 s8 s9 s10 s110
      dsimp only
      refine xif_no (fun F f => ?_) ?_
      · refine ⟨_, rfl, .inl ⟨rfl, _, SqL.of hk⟩, l9, _, .bl true, rfl, rfl, SqL.of hk, rfl, fl, ?_⟩
        rw [cn]
        refine ⟨rfl, _, rfl, ?_⟩
        exact f
      refine ⟨by show 10 ≤ sizeLine; omega, fun n1 hn10 => ?_⟩
      have s12 := same_put (o := .lst [V.str "question", V.str "seed", V.str "name", V.str "many", V.str "taken", V.str "nomachine", V.str "notask", V.str "score", V.str "norun", V.str "notranked"]) (Same.refl H11) hn10
      have h12 : upd H11 n1 (.lst [V.str "question", V.str "seed", V.str "name", V.str "many", V.str "taken", V.str "nomachine", V.str "notask", V.str "score", V.str "norun", V.str "notranked"]) n1 = some (.lst [V.str "question", V.str "seed", V.str "name", V.str "many", V.str "taken", V.str "nomachine", V.str "notask", V.str "score", V.str "norun", V.str "notranked"]) := upd_same
      generalize upd H11 n1 (.lst [V.str "question", V.str "seed", V.str "name", V.str "many", V.str "taken", V.str "nomachine", V.str "notask", V.str "score", V.str "norun", V.str "notranked"]) = H12 at s12 h12
      refine xg_name ?_
      walk_at "z"
      refine ⟨_, rfl, by show 7 ≤ sizeLine; omega, fun n2 hn20 => ?_⟩
      have s13 := same_put (o := .lst [V.str "share", V.str "notahead", V.str "nopage", V.str "machine", V.str "text", V.str "task", V.str "deed"]) (Same.refl H12) hn20
      have h13 : upd H12 n2 (.lst [V.str "share", V.str "notahead", V.str "nopage", V.str "machine", V.str "text", V.str "task", V.str "deed"]) n2 = some (.lst [V.str "share", V.str "notahead", V.str "nopage", V.str "machine", V.str "text", V.str "task", V.str "deed"]) := upd_same
      generalize upd H12 n2 (.lst [V.str "share", V.str "notahead", V.str "nopage", V.str "machine", V.str "text", V.str "task", V.str "deed"]) = H13 at s13 h13
      refine ⟨n1, n2, [V.str "question", V.str "seed", V.str "name", V.str "many", V.str "taken", V.str "nomachine", V.str "notask", V.str "score", V.str "norun", V.str "notranked"], [V.str "share", V.str "notahead", V.str "nopage", V.str "machine", V.str "text", V.str "task", V.str "deed"], rfl, rfl, s13 _ _ h12, h13, by show 10 + 7 ≤ sizeLine; omega, fun n3 hn30 => ?_⟩
      have s14 := same_put (o := .lst ([V.str "question", V.str "seed", V.str "name", V.str "many", V.str "taken", V.str "nomachine", V.str "notask", V.str "score", V.str "norun", V.str "notranked"] ++ [V.str "share", V.str "notahead", V.str "nopage", V.str "machine", V.str "text", V.str "task", V.str "deed"])) (Same.refl H13) hn30
      have h14 : upd H13 n3 (.lst ([V.str "question", V.str "seed", V.str "name", V.str "many", V.str "taken", V.str "nomachine", V.str "notask", V.str "score", V.str "norun", V.str "notranked"] ++ [V.str "share", V.str "notahead", V.str "nopage", V.str "machine", V.str "text", V.str "task", V.str "deed"])) n3 = some (.lst (wNames.map V.str)) := upd_same
      generalize upd H13 n3 (.lst ([V.str "question", V.str "seed", V.str "name", V.str "many", V.str "taken", V.str "nomachine", V.str "notask", V.str "score", V.str "norun", V.str "notranked"] ++ [V.str "share", V.str "notahead", V.str "nopage", V.str "machine", V.str "text", V.str "task", V.str "deed"])) = H14 at s14 h14
      have hk14 := s14 _ _ (s13 _ _ (s12 _ _ hk))
      have lj17 : j < 17 := by omega
      refine ⟨_, rfl, .inl ⟨rfl, _, SqL.of hk14⟩, l9, _, .bl true, j, .bl true, rfl, rfl, SqL.of hk14, rfl, fl, by rw [List.getElem?_map, List.getElem?_range lj17]; simp, rfl, fun m z lm hm => ?_, ?_⟩
      · rw [List.getElem?_map, List.getElem?_range (by omega)] at hm
        have hm := Option.some.inj hm
        rw [← hm]
        show eqV (V.bl (decide (m = j))) (V.bl true) = false
        rw [decide_eq_false (by omega)]
        rfl
      have hx2 : (wNames.map V.str)[j]? = some (.str x) := by rw [List.getElem?_map, hx]; rfl
      refine ⟨n3, _, _, _, rfl, rfl, SqL.of h14, atI_nat (j := j) hx2, ?_⟩
      refine xg_name ?_
      walk_at "z"
      have in1 : inV (.str x) [.str "machine", .str "text"] = false := by rcases jj with rfl | rfl | rfl | rfl | rfl | rfl | rfl | rfl | rfl | rfl | rfl | rfl | rfl <;> (have e := Option.some.inj hx; subst e; decide +kernel)
      have in2 : inV (.str x) [.str "task", .str "deed"] = false := by rcases jj with rfl | rfl | rfl | rfl | rfl | rfl | rfl | rfl | rfl | rfl | rfl | rfl | rfl <;> (have e := Option.some.inj hx; subst e; decide +kernel)
      have s114 := s11.trans (s12.trans (s13.trans s14))
      clear hk hk14 h12 h13 h14 hn10 hn20 hn30 hn1 s11 s12 s13 s14 cn fl
      refine xif_r (fun b H' => b = false ∧ Same H1 H') (fun F f => ?_) (fun H' z => (by cases z.1)) (fun H15 z => ?_)
      · refine ⟨_, rfl, by show 2 ≤ sizeLine; omega, fun t1 ht1 => ?_⟩
        have s15 := s114.trans (same_put (o := .tup [.str "machine", .str "text"]) (Same.refl H14) ht1)
        refine ⟨t1, _, rfl, .inr (SqT.of upd_same), rfl, rfl, ?_⟩
        show ∃ k, V.bl (inV (.str x) [.str "machine", .str "text"]) = .bl k ∧ _
        rw [in1]
        exact ⟨_, rfl, f _ _ ⟨rfl, s15⟩⟩
      obtain ⟨_, s15⟩ := z
      refine ⟨_, rfl, ?_⟩
      refine ⟨_, rfl, by show 2 ≤ sizeLine; omega, fun t2 ht2 => ?_⟩
      have s16 := s15.trans (same_put (o := .tup [.str "task", .str "deed"]) (Same.refl H15) ht2)
      refine ⟨t2, _, rfl, .inr (SqT.of upd_same), rfl, rfl, ?_⟩
      generalize upd H15 t2 (.tup [.str "task", .str "deed"]) = H16 at s16
      show ∃ k, V.bl (inV (.str x) [.str "task", .str "deed"]) = .bl k ∧ _
      rw [in2]
      refine ⟨_, rfl, ?_⟩
      refine iteF ?_
      refine ⟨by show 2 ≤ sizeLine; omega, fun p hp => ?_⟩
      exact q p _ (none_bk s16 hp) (s16.trans (same_put (Same.refl _) hp)) upd_same
    · exact q
/-- the word of a lambda's refusal -/
def rdWord (X : Cx) (A : Adr) (D : LamD) : L2.St → List V → Hp → VK → Prop := fun σ vs H Q => ∃ f, vs = [.ref f] ∧ IsLm X D.m H f ∧
  ∀ (E' : XK) (Q' : VK), (∀ cls d H', wordE X.K A Q cls d H' → E' cls d H') → (∀ v H', Q .non H' → Q' v H') → D.t E' σ H Q'
theorem pe_word {Z : Cx} {A : Adr} {kk : Nat} {c Pt : Addr} {t : XK → TE} {p pos lpos : Pos} {params : Arguments} {body : Expr} {scope : Scope} (T : Txt Z.K Z.mg A) (hr : Room kk Z.A) (le : 12 ≤ kk) (hg : Gl Z "_law_word_of")
    (TB : TabB Z.base Z.mg c Pt) (hcode : Z.env.code = .ref c) (L : LamT Z.N Z.env.scope scope) (hd : params.defaults = []) (hk : params.kw_defaults = []) (hb : LmB ⟨params, body, scope, none⟩) (own : ∀ y, Z.fn y = true)
    (hbody : ∀ (A : Around) (outer : List Env) (s : Shared) (H : Hp) (E : XK) (f c' : Addr), Room 10 (A.deeper (lamEnv Z scope s.heap.objs.size f c')) → PE (lamCx Z A outer s H E scope f c') body (t E))
    (he : starEach [.Lambda params body scope lpos] Z.env = (false, eval (.Lambda params body scope lpos) Z.env) :: starEach [] Z.env := by rfl) :
    PE Z (.Call (.Name "_law_word_of" p) [.Lambda params body scope lpos] [] pos) (fun σ H Q => tCons (tLm Z Pt ⟨params, body, scope, none⟩) tNil σ H fun vs H1 => rdWord Z A ⟨⟨params, body, scope, none⟩, t⟩ σ vs H1 Q) :=
  pe_callAt (sp := spWord Z.prog Z.w Z.K Z.mg A) (fun base => ok_word_of T) (hr.mono le) hg T.word_of.n T.word_of.F.kp T.word_of.b (pa_cons (pe_lm TB hcode L hd hk) pa_nil he)
    (fun pins s σ H vs Q I ⟨f, e, il, h⟩ => ⟨f, _, e, lm_acts I own (m := ⟨params, body, scope, none⟩) L hb hbody, fun E' Q' h1 h2 => ⟨il, h E' Q' h1 h2⟩⟩) (by decide) he (by rfl)
/-! all of some works are refused by one word; what they may change is in S, what holds throughout is J -/
def Refuses (K : PySem.W.Frag) (A : Adr) (x : Str) (S : List Addr) (J : Hp → Prop) (tl : XK → Hp → VK → Prop) : Prop := ∃ j D, ExR K A.HallError (exs A) j D ∧ wNames[j]? = some x ∧ j < 13 ∧
  ∀ HZ, J HZ → ∀ (E' : XK) (Q' : VK), (∀ H', J H' → Bt S HZ H' → E' (.ref D) none H') → tl E' HZ Q'
def spAre (P : Program) (w : World) (K : PySem.W.Frag) (mg : Str → Option Value) (A : Adr) (base : Heap) : Sp := fun vs H Q _ => ∃ (l : Addr) (x : Str) (fs : List (Addr × (XK → Hp → VK → Prop))) (S : List Addr) (J : Hp → Prop), vs = [.ref l, .str x] ∧ J H ∧ (∀ Ha Hb, J Ha → Same Ha Hb → J Hb) ∧ (∀ Ha, J Ha → SqL K Ha l (fs.map fun z => V.ref z.1)) ∧ (∀ b ∈ S, H b ≠ none) ∧ PyData.strOk x = true ∧
  (∀ z ∈ fs, Acts P w K mg base 11 z.1 z.2 ∧ Refuses K A x S J z.2) ∧ ∀ H', J H' → Bt S H H' → Q (.bl true) H'
theorem ok_are (T : Txt K mg A) : FnOk P w K mg base CX0 13 A.are A.are_ ["_law_works", "_law_name"] (spAre P w K mg A base) := by
  refine T.are.F.ok sc_are (fun vs H Q E h => ?_) (fun cdv Ar outer s H vs Q E hr h => ?_)
  · obtain ⟨l, x, fs, S, J, rfl, _⟩ := h
    rfl
  · obtain ⟨l, x, fs, S, J, rfl, hJ, hJs, hl, hS, so, all, k⟩ := h
    refine ⟨_, (pss_one (ps_ret (pe_cmpR (op_eqD hr.units) (pe_lc (own := [("_law_work", 2)]) (g := gName 2)  rfl sc_are.nd (pi_list (pv 0)) (blkOk_by (N := N_are) (sc := defScope s_are) (by decide +kernel)) (fun _ _ _ _ _ => pg_name (i := 2) sc_are.nd rfl (Or.inl rfl) (hf := Or.inr rfl)) (fun _ _ _ _ _ => (pts_one (pt_cmpR (opK_neD (K := K) rfl hr.units) (pe_call (ok_word_of (P := P) (w := w) (K := K) (mg := mg) (base := base) T) (hr.mono (by decide)) (by rfl) T.word_of.n T.word_of.F.kp T.word_of.b .nil pass0 (pa_cons (pv 2) pa_nil)) (pe_tup (pa_cons (pv 1) (pa_cons pe_int pa_nil))) (nomark _)))) (fun _ _ _ _ _ => (pv 2))) (pe_lst pa_nil) (nomark _)))), ?_⟩
    have hL := sizeLine_eq
    have shx : Sh 20 (.tuple [.str x, .int 0]) := sh_tuple (n := 19) fun d hd => by
      simp only [List.mem_cons, List.not_mem_nil, or_false] at hd
      rcases hd with rfl | rfl
      · exact ⟨by simpa [PyData.canLay0] using so, by simp [PyData.depth]⟩
      · exact sh_int _
    refine ⟨_, rfl, l, rfl, ⟨_, hl _ hJ⟩, fun D hD => ?_⟩
    have hDS : D ∉ S := fun z => hS D z hD
    refine lc_w (walk_list (K := K) (xs := fs.map fun z => V.ref z.1)) [some (.ref l), some (.str x), none] (fun i H' => J H' ∧ Bt S H H' ∧ H' D = some (.lst [])) ⟨hJs _ _ hJ (same_put (Same.refl _) hD), Bt.of_same (same_put (Same.refl _) hD), upd_same⟩ (fun i H' _ z => hl _ z.1) ?_ ?_
    · rintro i v Ha Hb hi ⟨ja, sa, ha⟩ ⟨rfl, hx⟩
      rw [List.getElem?_map] at hx
      cases ez : fs[i]? with
      | none =>
        rw [ez] at hx
        cases hx
      | some z =>
        rw [ez] at hx
        have hx := Option.some.inj hx
        subst hx
        obtain ⟨ac, j, D0, X, hw, lj, rf⟩ := all z (List.mem_of_getElem? ez)
        refine ⟨by walk_at "w", ?_⟩
        walk_at "z"
        refine ⟨_, rfl, z.1, z.2, rfl, ac, fun E' Q' h1 h2 => rf _ ja _ _ fun H1 j1 s1 => h1 _ _ _ ⟨j, D0, x, rfl, rfl, X, hw, lj, fun p H2 hp s2 h2 => ?_⟩⟩
        refine ⟨_, rfl, by show 2 ≤ sizeLine; omega, fun t ht => ?_⟩
        have s3 := same_put (o := .tup [.str x, .int 0]) (Same.refl H2) ht
        have h3 : upd H2 t (.tup [.str x, .int 0]) t = some (.tup [.str x, .int 0]) := upd_same
        generalize upd H2 t (.tup [.str x, .int 0]) = H3 at s3 h3
        refine ⟨.tuple [.str x, .int 0], .tuple [.str x, .int 0], .tup (SqT.of (s3 _ _ h2)) (.cons (.str _) (.cons (.int _) .nil)), .tup (SqT.of h3) (.cons (.str _) (.cons (.int _) .nil)), shx.shaped (by decide), shx.shaped (by decide), ?_⟩
        rw [PySem.SeqAt.eqv_refl _ shx.1]
        refine ⟨_, rfl, ?_⟩
        refine iteF ?_
        exact ⟨hJs _ _ j1 (s2.trans s3), sa.trans (s1.trans (Bt.of_same (s2.trans s3))), (s2.trans s3) _ _ (s1 _ _ hDS ha)⟩
    · rintro Ha ⟨ja, sa, ha⟩
      refine ⟨Nat.zero_le _, fun e he => ?_⟩
      have s1 := same_put (o := .lst []) (Same.refl Ha) he
      refine ⟨.list [], .list [], .lst (SqL.of (s1 _ _ ha)) .nil, .lst (SqL.of upd_same) .nil, rfl, rfl, ?_⟩
      exact k _ (hJs _ _ ja s1) (sa.trans (Bt.of_same s1))
/-- works of a list, all refused by one word -/
def rdAre (X : Cx) (A : Adr) : L2.St → List V → Hp → VK → Prop := fun σ vs H Q => ∃ (l : Addr) (x : Str) (fs : List (Addr × LamD)) (S : List Addr) (J : Hp → Prop), vs = [.ref l, .str x] ∧ J H ∧ (∀ Ha Hb, J Ha → Same Ha Hb → J Hb) ∧ (∀ Ha, J Ha → SqL X.K Ha l (fs.map fun z => V.ref z.1) ∧ ∀ z ∈ fs, IsLm X z.2.m Ha z.1) ∧ (∀ b ∈ S, H b ≠ none) ∧ PyData.strOk x = true ∧
  (∀ z ∈ fs, LamOk X 11 z.2 ∧ ∃ j D, ExR X.K A.HallError (exs A) j D ∧ wNames[j]? = some x ∧ j < 13 ∧ ∀ HZ, J HZ → ∀ (E' : XK) (Q' : VK), (∀ H', J H' → Bt S HZ H' → E' (.ref D) none H') → z.2.t E' σ HZ Q') ∧ ∀ H', J H' → Bt S H H' → Q (.bl true) H'
theorem pe_are {Z : Cx} {A : Adr} {kk : Nat} {e1 e2 : Expr} {t : TA} {p pos : Pos} (T : Txt Z.K Z.mg A) (hr : Room kk Z.A) (le : 13 ≤ kk) (hg : Gl Z "_law_are") (ha : PA Z [e1, e2] t)
    (he : starEach [e1, e2] Z.env = (false, eval e1 Z.env) :: starEach [e2] Z.env := by rfl) (hpl : (backTo pos (starEach [e2] Z.env)).any (·.1) = false := by rfl) :
    PE Z (.Call (.Name "_law_are" p) [e1, e2] [] pos) (fun σ H Q => t σ H fun vs H1 => rdAre Z A σ vs H1 Q) :=
  pe_callAt (sp := spAre Z.prog Z.w Z.K Z.mg A) (fun base => ok_are T) (hr.mono le) hg T.are.n T.are.F.kp T.are.b ha
    (fun pins s σ H vs Q I ⟨l, x, fs, S, J, e, hJ, hJs, hl, hS, so, all, k⟩ => ⟨l, x, fs.map fun z => (z.1, fun E HZ Q => IsLm Z z.2.m HZ z.1 ∧ z.2.t E σ HZ Q), S, J, e, hJ, hJs, fun Ha ja => by rw [List.map_map]; exact (hl Ha ja).1, hS, so, fun y hy => by
      obtain ⟨z, hz, rfl⟩ := List.mem_map.mp hy
      obtain ⟨ok, j, D, X, hw, lj, h⟩ := all z hz
      exact ⟨ok pins σ H s z.1 I, j, D, X, hw, lj, fun HZ jz E' Q' q => ⟨(hl HZ jz).2 z hz, h HZ jz E' Q' q⟩⟩, k⟩) (by decide) he hpl
end
end Mh
namespace Mh
open PySem L2 LamX
/-! the dice, the table of code objects, lists and data beside them; no hall -/
theorem xcut_seq {a b : TS} {D : Ends} {σ : St} {H : Hp} (h : tSeq a b D σ H) : Evl.tCut a b D σ H := ⟨b D, h, fun _ _ q => q⟩
theorem xif_rr {c : TT} {t r : TS} {D : Ends} {σ : St} {H : Hp} (Pv : Hp → Prop) (hc : ∀ F : Bool → Hp → Prop, (∀ H1, Pv H1 → F false H1) → c σ H F) (rest : ∀ H1, Pv H1 → r D σ H1) : tSeq (tIfS c t tNext) r D σ H := by
  refine hc _ fun H1 p => ?_
  show if false = true then _ else _
  rw [if_neg (by decide)]
  exact rest H1 p
theorem xtab_bt {H H' : Hp} {P : Addr} {q : Str} {S : List Addr} (t : TabS H P q) (b : Bt S H H') (n : P ∉ S) (e : ∀ c ∈ S, ∀ φ, H c ≠ some (.ext φ)) : TabS H' P q := by
  obtain ⟨ps, h1, h2, h3⟩ := t
  refine ⟨ps, b _ _ n h1, h2, fun pos cv hc => ?_⟩
  obtain ⟨c, e1, e2⟩ := h3 pos cv hc
  exact ⟨c, e1, b _ _ (fun z => e c z _ e2) e2⟩
theorem xtab_same {H H' : Hp} {P : Addr} {q : Str} (t : TabS H P q) (s : Same H H') : TabS H' P q := t.ext fun b o e => s b o e
theorem xtab_kt {K : PySem.W.Frag} {H H' : Hp} {P : Addr} {ps : Array Value} (hP : H P = some (.tbl ps)) (b : Bt [P] H H') : KT K H H' := b.kt fun c hc ys q => by
  have e : c = P := by simpa using hc
  rw [e] at q
  rcases q with q | ⟨o, q⟩ <;> rw [hP] at q <;> cases q
structure Pl (K : PySem.W.Frag) (H : Hp) (d tb : Addr) (qn : Str) (Ls : List (Addr × List V)) (Ds : List (V × PyData)) : Prop where
  ds : DS d H
  tab : TabS H tb qn
  ntd : tb ≠ d
  ls : ∀ z ∈ Ls, H z.1 = some (.lst z.2) ∧ z.1 ≠ d ∧ z.1 ≠ tb
  dd : ∀ z ∈ Ds, Dp K H z.1 z.2 ∧ TD z.2 = true
section
variable {K : PySem.W.Frag} {H H' : Hp} {d tb : Addr} {qn : Str} {Ls : List (Addr × List V)} {Ds : List (V × PyData)}
theorem Pl.same (h : Pl K H d tb qn Ls Ds) (s : Same H H') : Pl K H' d tb qn Ls Ds :=
  ⟨h.ds.same s, xtab_same h.tab s, h.ntd, fun z hz => ⟨s _ _ (h.ls z hz).1, (h.ls z hz).2⟩, fun z hz => ⟨dp_same s _ _ (h.dd z hz).1, (h.dd z hz).2⟩⟩
theorem Pl.cast (h : Pl K H d tb qn Ls Ds) (b : Bt [d] H H') (dd : DS d H') : Pl K H' d tb qn Ls Ds := by
  have kt := h.ds.kt (K := K) b
  obtain ⟨ys, e, dy⟩ := h.ds
  exact ⟨dd, xtab_bt h.tab b (by simpa using h.ntd) (fun c hc φ q => by
    have e2 : c = d := by simpa using hc
    rw [e2, e] at q
    cases q), h.ntd, fun z hz => ⟨b _ _ (by simpa using (h.ls z hz).2.1) (h.ls z hz).1, (h.ls z hz).2⟩, fun z hz => ⟨dp_keep kt _ _ (h.dd z hz).2 (h.dd z hz).1, (h.dd z hz).2⟩⟩
theorem Pl.tabl (h : Pl K H d tb qn Ls Ds) (b : Bt [tb] H H') (t : TabS H' tb qn) : Pl K H' d tb qn Ls Ds := by
  obtain ⟨qs, tP, _⟩ := h.tab
  have kt := xtab_kt (K := K) tP b
  obtain ⟨ys, e, dy⟩ := h.ds
  exact ⟨⟨ys, b _ _ (by simpa using h.ntd.symm) e, dy⟩, t, h.ntd, fun z hz => ⟨b _ _ (by simpa using (h.ls z hz).2.2) (h.ls z hz).1, (h.ls z hz).2⟩, fun z hz => ⟨dp_keep kt _ _ (h.dd z hz).2 (h.dd z hz).1, (h.dd z hz).2⟩⟩
theorem Pl.off (h : Pl K H d tb qn Ls Ds) {p : Addr} (e : H p = none) : p ≠ d ∧ p ≠ tb := by
  refine ⟨fun z => ?_, fun z => ?_⟩
  · obtain ⟨ys, e1, _⟩ := h.ds
    rw [← z, e] at e1
    cases e1
  · obtain ⟨qs, tP, _⟩ := h.tab
    rw [← z, e] at tP
    cases tP
theorem Pl.list (h : Pl K H d tb qn Ls Ds) {p : Addr} {xs : List V} (e : H' p = some (.lst xs)) (h' : Pl K H' d tb qn Ls Ds) (e0 : H p = none) : Pl K H' d tb qn ((p, xs) :: Ls) Ds :=
  ⟨h'.ds, h'.tab, h'.ntd, fun z hz => by
    rcases List.mem_cons.mp hz with rfl | hz
    · exact ⟨e, h.off e0⟩
    · exact h'.ls z hz, h'.dd⟩
theorem Pl.data (h : Pl K H d tb qn Ls Ds) {v : V} {x : PyData} (e : Dp K H v x) (td : TD x = true) : Pl K H d tb qn Ls ((v, x) :: Ds) :=
  ⟨h.ds, h.tab, h.ntd, h.ls, fun z hz => by
    rcases List.mem_cons.mp hz with rfl | hz
    · exact ⟨e, td⟩
    · exact h.dd z hz⟩
theorem Pl.at_ (h : Pl K H d tb qn Ls Ds) {p : Addr} {xs : List V} (hz : (p, xs) ∈ Ls) : H p = some (.lst xs) := (h.ls _ hz).1
theorem Pl.dat (h : Pl K H d tb qn Ls Ds) {v : V} {x : PyData} (hz : (v, x) ∈ Ds) : Dp K H v x := (h.dd _ hz).1
theorem Pl.less (h : Pl K H d tb qn Ls Ds) {Ls' : List (Addr × List V)} (s : ∀ z ∈ Ls', z ∈ Ls) : Pl K H d tb qn Ls' Ds := ⟨h.ds, h.tab, h.ntd, fun z hz => h.ls z (s z hz), h.dd⟩
end
theorem islm_bt {X : Cx} {m : Lm} {H H' : Hp} {f : Addr} {S : List Addr} (h : IsLm X m H f) (b : Bt S H H') (no : ∀ c ∈ S, (∀ φ, H c ≠ some (.ext φ)) ∧ ∀ xs, H c ≠ some (.tup xs)) : IsLm X m H' f := by
  obtain ⟨c, dV, h1, h2, h3⟩ := h
  refine ⟨c, dV, b _ _ (fun z => (no _ z).1 _ h1) h1, b _ _ (fun z => (no _ z).1 _ h2) h2, ?_⟩
  revert h3
  rcases m.dflt with _ | p
  · exact id
  · rintro ⟨t, h1, h2⟩
    exact ⟨t, h1, b _ _ (fun z => (no _ z).2 _ h2) h2⟩
abbrev frefs (fs : List (Addr × LamD)) : List V := fs.map fun z : Addr × LamD => V.ref z.1
/-- what refuses by a word, all else as it stood -/
def RefP (X : Cx) (A : Adr) (σ : L2.St) (x : Str) (d tb : Addr) (qn : Str) (Ds : List (V × PyData)) (t : XK → TE) : Prop := ∃ j D, ExR X.K A.HallError (exs A) j D ∧ wNames[j]? = some x ∧ j < 13 ∧ ∀ HZ, Pl X.K HZ d tb qn [] Ds → ∀ (E' : XK) (Q' : VK), (∀ H', Same HZ H' → E' (.ref D) none H') → t E' σ HZ Q'
theorem rd_areP {X : Cx} {A : Adr} {σ : L2.St} {l : Addr} {x : Str} {fs : List (Addr × LamD)} {Q : VK} {H : Hp} {d tb : Addr} {qn : Str} {Ls : List (Addr × List V)} {Ds : List (V × PyData)}
    (o : Pl X.K H d tb qn ((l, frefs fs) :: Ls) Ds) (so : PyData.strOk x = true) (all : ∀ z ∈ fs, LamOk X 11 z.2 ∧ IsLm X z.2.m H z.1 ∧ RefP X A σ x d tb qn Ds z.2.t) (k : ∀ H', Pl X.K H' d tb qn Ls Ds → Q (.bl true) H') : rdAre X A σ [.ref l, .str x] H Q := by
  refine ⟨l, x, fs, [], fun H' => Pl X.K H' d tb qn ((l, frefs fs) :: Ls) Ds ∧ ∀ z ∈ fs, IsLm X z.2.m H' z.1, rfl, ⟨o, fun z hz => (all z hz).2.1⟩, fun Ha Hb ⟨o, il⟩ s => ⟨o.same s, fun z hz => (il z hz).same s⟩, fun Ha ⟨o, il⟩ => ⟨SqL.of (o.at_ (by simp)), il⟩, fun b hb => (by cases hb), so, fun z hz => ?_, fun H' ⟨o, _⟩ _ => k H' (o.less fun z hz => List.mem_cons_of_mem _ hz)⟩
  obtain ⟨ok, _, j, D, X1, hw, lj, h⟩ := all z hz
  exact ⟨ok, j, D, X1, hw, lj, fun HZ ⟨oz, iz⟩ E' Q' q => h HZ (oz.less fun z hz => by cases hz) E' Q' fun H' s' => q H' ⟨oz.same s', fun y hy => (iz y hy).same s'⟩ (Bt.of_same s')⟩
section
variable {X : Cx} {A : Adr} {σ : L2.St} {l f g f3 : Addr} {x : Str} {D D2 D3 : LamD} {Q : VK} {H : Hp} {d tb : Addr} {qn : Str} {Ls : List (Addr × List V)} {Ds : List (V × PyData)}
theorem islm_tab {m : Lm} {H' : Hp} {P : Addr} {q : Str} (h : IsLm X m H f) (t : TabS H P q) (b : Bt [P] H H') : IsLm X m H' f := by
  obtain ⟨_, tP, _⟩ := t
  refine islm_bt h b fun c hc => ?_
  have e2 : c = P := by simpa using hc
  rw [e2, tP]
  exact ⟨fun φ q => (by cases q), fun xs q => (by cases q)⟩
theorem rd_areP1 (ok : LamOk X 11 D) (il : IsLm X D.m H f) (o : Pl X.K H d tb qn ((l, [V.ref f]) :: Ls) Ds) (so : PyData.strOk x = true) (r : RefP X A σ x d tb qn Ds D.t) (k : ∀ H', Pl X.K H' d tb qn Ls Ds → Q (.bl true) H') : rdAre X A σ [.ref l, .str x] H Q := by
  refine rd_areP (fs := [(f, D)]) o so (fun z hz => ?_) k
  rcases List.mem_singleton.mp hz with rfl
  exact ⟨ok, il, r⟩
theorem rd_areP2 (ok : LamOk X 11 D) (ok2 : LamOk X 11 D2) (il : IsLm X D.m H f) (il2 : IsLm X D2.m H g) (o : Pl X.K H d tb qn ((l, [V.ref f, V.ref g]) :: Ls) Ds) (so : PyData.strOk x = true) (r : RefP X A σ x d tb qn Ds D.t) (r2 : RefP X A σ x d tb qn Ds D2.t) (k : ∀ H', Pl X.K H' d tb qn Ls Ds → Q (.bl true) H') : rdAre X A σ [.ref l, .str x] H Q := by
  refine rd_areP (fs := [(f, D), (g, D2)]) o so (fun z hz => ?_) k
  rcases List.mem_cons.mp hz with rfl | hz
  · exact ⟨ok, il, r⟩
  rcases List.mem_singleton.mp hz with rfl
  exact ⟨ok2, il2, r2⟩
theorem rd_areP4 {f4 : Addr} {D4 : LamD} (ok : LamOk X 11 D) (ok2 : LamOk X 11 D2) (ok3 : LamOk X 11 D3) (ok4 : LamOk X 11 D4) (il : IsLm X D.m H f) (il2 : IsLm X D2.m H g) (il3 : IsLm X D3.m H f3) (il4 : IsLm X D4.m H f4) (o : Pl X.K H d tb qn ((l, [V.ref f, V.ref g, V.ref f3, V.ref f4]) :: Ls) Ds) (so : PyData.strOk x = true)
    (r : RefP X A σ x d tb qn Ds D.t) (r2 : RefP X A σ x d tb qn Ds D2.t) (r3 : RefP X A σ x d tb qn Ds D3.t) (r4 : RefP X A σ x d tb qn Ds D4.t) (k : ∀ H', Pl X.K H' d tb qn Ls Ds → Q (.bl true) H') : rdAre X A σ [.ref l, .str x] H Q := by
  refine rd_areP (fs := [(f, D), (g, D2), (f3, D3), (f4, D4)]) o so (fun z hz => ?_) k
  rcases List.mem_cons.mp hz with rfl | hz
  · exact ⟨ok, il, r⟩
  rcases List.mem_cons.mp hz with rfl | hz
  · exact ⟨ok2, il2, r2⟩
  rcases List.mem_cons.mp hz with rfl | hz
  · exact ⟨ok3, il3, r3⟩
  rcases List.mem_singleton.mp hz with rfl
  exact ⟨ok4, il4, r4⟩
end
/-- odd values are no numbers of a range -/
def OddD (lo hi : Int) : PyData → Bool
  | .int i => !(decide (lo ≤ i) && decide (i ≤ hi))
  | _ => true
theorem odd_no {K : PySem.W.Frag} {H : Hp} {v : V} {x : PyData} {lo hi : Int} (h : Dp K H v x) (o : OddD lo hi x = true) : isNum lo hi v = false := by
  cases h with
  | int i =>
    have o : (!(decide (lo ≤ i) && decide (i ≤ hi))) = true := o
    show (decide (lo ≤ i) && decide (i ≤ hi)) = false
    revert o
    cases (decide (lo ≤ i) && decide (i ≤ hi)) <;> simp
  | _ => rfl
end Mh
namespace Mh
open PySem L2
local macro_rules | `(tactic| walk_at "z") => `(tactic| simp only [List.set_cons_succ, List.set_cons_zero])
/-! what is no question, what is no seed is refused -/
def spOddNo (K : PySem.W.Frag) (lo hi : Int) (D : Addr) : Sp := fun vs H Q E => ∃ (v : V), vs = [v] ∧ Odd K H v ∧ isNum lo hi v = false ∧ ∀ H', Same H H' → E (.ref D) none H'
section
variable {P : Program} {w : World} {K : PySem.W.Frag} {mg : Str → Option Value} {base : Heap} {A : Adr}
theorem okX_check_question_no (T : Txt K mg A) : FnOk P w K mg base (L2.CX P w) 3 A.check_question A.check_question_ ["question"] (spOddNo K 0 9999 A.BadQuestion) := by
  refine T.check_question.F.okX sc_check_question (fun vs H Q E h => ?_) (fun cdv Ar outer s H vs Q E hr h => ?_)
  · obtain ⟨v, rfl, _⟩ := h
    rfl
  · obtain ⟨v, rfl, od, no, k⟩ := h
    refine ⟨_, (pss_one (ps_if (pt_not (pt_val (pe_call (ok_is_question T) (hr.mono (by decide)) (by rfl) T.is_question.n T.is_question.F.kp T.is_question.b .nil pass0 (pa_cons (pv 0) pa_nil))))
    (pss_one (ps_refuse T.x_BadQuestion rfl take_def T.g_BadQuestion (by rfl)))
    pss_nil)), ?_⟩
    refine ⟨_, rfl, v, rfl, od, ?_⟩
    rw [no]
    refine ⟨_, rfl, ?_⟩
    refine iteT ?_
    exact k _ (Same.refl _)
theorem okX_check_seed_no (T : Txt K mg A) : FnOk P w K mg base (L2.CX P w) 3 A.check_seed A.check_seed_ ["seed"] (spOddNo K 0 999 A.BadSeed) := by
  refine T.check_seed.F.okX sc_check_seed (fun vs H Q E h => ?_) (fun cdv Ar outer s H vs Q E hr h => ?_)
  · obtain ⟨v, rfl, _⟩ := h
    rfl
  · obtain ⟨v, rfl, od, no, k⟩ := h
    refine ⟨_, (pss_one (ps_if (pt_not (pt_val (pe_call (ok_is_seed T) (hr.mono (by decide)) (by rfl) T.is_seed.n T.is_seed.F.kp T.is_seed.b .nil pass0 (pa_cons (pv 0) pa_nil))))
    (pss_one (ps_refuse T.x_BadSeed rfl take_def T.g_BadSeed (by rfl)))
    pss_nil)), ?_⟩
    refine ⟨_, rfl, v, rfl, od, ?_⟩
    rw [no]
    refine ⟨_, rfl, ?_⟩
    refine iteT ?_
    exact k _ (Same.refl _)
theorem okX_check_question (T : Txt K mg A) : FnOk P w K mg base (L2.CX P w) 3 A.check_question A.check_question_ ["question"] (fun vs H Q E => spChk 0 9999 vs H Q E ∨ spOddNo K 0 9999 A.BadQuestion vs H Q E) :=
  Mh.FnOk.or (Mh.FnOk.lift (ok_check_question T)) (okX_check_question_no T)
theorem okX_check_seed (T : Txt K mg A) : FnOk P w K mg base (L2.CX P w) 3 A.check_seed A.check_seed_ ["seed"] (fun vs H Q E => spChk 0 999 vs H Q E ∨ spOddNo K 0 999 A.BadSeed vs H Q E) :=
  Mh.FnOk.or (Mh.FnOk.lift (ok_check_seed T)) (okX_check_seed_no T)
/-- an odd question, or a question and an odd seed -/
def spAnsweredNo (K : PySem.W.Frag) (A : Adr) : Sp := fun vs H Q E => ∃ (v q z : V) (m : Mach) (D : Addr), vs = [v, q, z] ∧ Dp K H v (machDt m) ∧ MachOk m ∧ (∀ H', Same H H' → Odd K H' q ∧ Odd K H' z) ∧
  (isNum 0 9999 q = false ∧ D = A.BadQuestion ∨ (∃ i : Int, q = .int i ∧ 0 ≤ i ∧ i ≤ 9999) ∧ isNum 0 999 z = false ∧ D = A.BadSeed) ∧ ∀ H', Same H H' → E (.ref D) none H'
theorem okX_answered_no (T : Txt K mg A) : FnOk P w K mg base (L2.CX P w) 7 A.answered A.answered_ ["machine", "question", "seed"] (spAnsweredNo K A) := by
  refine T.answered.F.okX sc_answered (fun vs H Q E h => ?_) (fun cdv Ar outer s H vs Q E hr h => ?_)
  · obtain ⟨v, q, z, m, D, rfl, _⟩ := h
    rfl
  · obtain ⟨v, q, z, m, D, rfl, hv, ho, od, cs, k⟩ := h
    refine ⟨_, (pss_cons (ps_expr (pe_call (ok_check_machine T) (hr.mono (by decide)) (by rfl) T.check_machine.n T.check_machine.F.kp T.check_machine.b .nil pass0 (pa_cons (pv 0) pa_nil)))
    (pss_cons (ps_expr (pe_call (E := E) (okX_check_question T) (hr.mono (by decide)) (by rfl) T.check_question.n T.check_question.F.kp T.check_question.b .nil pass_def (pa_cons (pv 1) pa_nil)))
    (pss_cons (ps_expr (pe_call (E := E) (okX_check_seed T) (hr.mono (by decide)) (by rfl) T.check_seed.n T.check_seed.F.kp T.check_seed.b .nil pass_def (pa_cons (pv 2) pa_nil)))
    (pss_one ps_never)))), ?_⟩
    refine ⟨_, rfl, v, m, rfl, hv, ho, fun H1 e1 => ?_⟩
    obtain ⟨oq, oz⟩ := od _ e1
    rcases cs with ⟨no, rfl⟩ | ⟨⟨i, rfl, i0, i1⟩, no, rfl⟩
    · exact ⟨_, rfl, .inr ⟨q, rfl, oq, no, fun H' s' => k _ (e1.trans s')⟩⟩
    · exact ⟨_, rfl, .inl ⟨i, rfl, i0, i1, _, rfl, .inr ⟨z, rfl, oz, no, fun H' s' => k _ (e1.trans s')⟩⟩⟩
def spRunNo (K : PySem.W.Frag) (A : Adr) : Sp := fun vs H Q E => ∃ (v t z : V) (m : Mach) (tk : Task), vs = [v, t, z] ∧ Dp K H v (machDt m) ∧ Dp K H t tk.dt ∧ MachOk m ∧ tk.Ok ∧ (∀ H', Same H H' → Odd K H' z) ∧ isNum 0 999 z = false ∧ ∀ H', Same H H' → E (.ref A.BadSeed) none H'
theorem okX_check_run_no (T : Txt K mg A) : FnOk P w K mg base (L2.CX P w) 7 A.check_run A.check_run_ ["machine", "task", "seed"] (spRunNo K A) := by
  refine T.check_run.F.okX sc_check_run (fun vs H Q E h => ?_) (fun cdv Ar outer s H vs Q E hr h => ?_)
  · obtain ⟨v, t, z, m, tk, rfl, _⟩ := h
    rfl
  · obtain ⟨v, t, z, m, tk, rfl, hv, ht, ho, to, od, no, k⟩ := h
    refine ⟨_, (pss_cons (ps_expr (pe_call (ok_check_machine T) (hr.mono (by decide)) (by rfl) T.check_machine.n T.check_machine.F.kp T.check_machine.b .nil pass0 (pa_cons (pv 0) pa_nil)))
    (pss_cons (ps_expr (pe_call (ok_check_task T) (hr.mono (by decide)) (by rfl) T.check_task.n T.check_task.F.kp T.check_task.b .nil pass0 (pa_cons (pv 1) pa_nil)))
    (pss_one (ps_expr (pe_call (E := E) (okX_check_seed T) (hr.mono (by decide)) (by rfl) T.check_seed.n T.check_seed.F.kp T.check_seed.b .nil pass_def (pa_cons (pv 2) pa_nil)))))), ?_⟩
    refine ⟨_, rfl, v, m, rfl, hv, ho, fun H1 e1 => ?_⟩
    refine ⟨_, rfl, t, tk, rfl, dp_same e1 _ _ ht, to, fun H2 e2 => ?_⟩
    exact ⟨_, rfl, .inr ⟨z, rfl, od _ (e1.trans e2), no, fun H' s' => k _ ((e1.trans e2).trans s')⟩⟩
theorem okX_check_run (T : Txt K mg A) : FnOk P w K mg base (L2.CX P w) 7 A.check_run A.check_run_ ["machine", "task", "seed"] (fun vs H Q E => spRun3 K vs H Q E ∨ spRunNo K A vs H Q E) :=
  Mh.FnOk.or (Mh.FnOk.lift (ok_check_run T)) (okX_check_run_no T)
theorem okX_answered (T : Txt K mg A) : FnOk P w K mg base (L2.CX P w) 7 A.answered A.answered_ ["machine", "question", "seed"] (fun vs H Q E => spAnswered K vs H Q E ∨ spAnsweredNo K A vs H Q E) :=
  Mh.FnOk.or (Mh.FnOk.lift (ok_answered T)) (okX_answered_no T)
theorem okX_right_no (T : Txt K mg A) : FnOk P w K mg base (L2.CX P w) 9 A.right A.right_ ["machine", "task", "seed"] (spRunNo K A) := by
  refine T.right.F.okX sc_right (fun vs H Q E h => ?_) (fun cdv Ar outer s H vs Q E hr h => ?_)
  · obtain ⟨v, t, z, m, tk, rfl, _⟩ := h
    rfl
  · obtain ⟨v, t, z, m, tk, rfl, hv, ht, ho, to, od, no, k⟩ := h
    refine ⟨_, (pss_cons (ps_expr (pe_call (E := E) (okX_check_run T) (hr.mono (by decide)) (by rfl) T.check_run.n T.check_run.F.kp T.check_run.b .nil pass_def (pa_cons (pv 0) (pa_cons (pv 1) (pa_cons (pv 2) pa_nil)))))
    (pss_one ps_never)), ?_⟩
    exact ⟨_, rfl, _, rfl, _, rfl, .inr ⟨v, t, z, m, tk, rfl, hv, ht, ho, to, od, no, k⟩⟩
theorem okX_right (T : Txt K mg A) : FnOk P w K mg base (L2.CX P w) 9 A.right A.right_ ["machine", "task", "seed"] (fun vs H Q E => spRight K vs H Q E ∨ spRunNo K A vs H Q E) :=
  Mh.FnOk.or (Mh.FnOk.lift (ok_right T)) (okX_right_no T)
theorem okX_score_no (T : Txt K mg A) : FnOk P w K mg base (L2.CX P w) 9 A.score A.score_ ["machine", "task", "seed"] (spRunNo K A) := by
  refine T.score.F.okX sc_score (fun vs H Q E h => ?_) (fun cdv Ar outer s H vs Q E hr h => ?_)
  · obtain ⟨v, t, z, m, tk, rfl, _⟩ := h
    rfl
  · obtain ⟨v, t, z, m, tk, rfl, hv, ht, ho, to, od, no, k⟩ := h
    refine ⟨_, (pss_cons (ps_expr (pe_call (E := E) (okX_check_run T) (hr.mono (by decide)) (by rfl) T.check_run.n T.check_run.F.kp T.check_run.b .nil pass_def (pa_cons (pv 0) (pa_cons (pv 1) (pa_cons (pv 2) pa_nil)))))
    (pss_one ps_never)), ?_⟩
    exact ⟨_, rfl, _, rfl, _, rfl, .inr ⟨v, t, z, m, tk, rfl, hv, ht, ho, to, od, no, k⟩⟩
theorem okX_score (T : Txt K mg A) : FnOk P w K mg base (L2.CX P w) 9 A.score A.score_ ["machine", "task", "seed"] (fun vs H Q E => spScore K vs H Q E ∨ spRunNo K A vs H Q E) :=
  Mh.FnOk.or (Mh.FnOk.lift (ok_score T)) (okX_score_no T)
theorem okX_heart_no (T : Txt K mg A) : FnOk P w K mg base (L2.CX P w) 9 A.heart A.heart_ ["machine", "task", "seed"] (spRunNo K A) := by
  refine T.heart.F.okX sc_heart (fun vs H Q E h => ?_) (fun cdv Ar outer s H vs Q E hr h => ?_)
  · obtain ⟨v, t, z, m, tk, rfl, _⟩ := h
    rfl
  · obtain ⟨v, t, z, m, tk, rfl, hv, ht, ho, to, od, no, k⟩ := h
    refine ⟨_, (pss_cons (ps_expr (pe_call (E := E) (okX_check_run T) (hr.mono (by decide)) (by rfl) T.check_run.n T.check_run.F.kp T.check_run.b .nil pass_def (pa_cons (pv 0) (pa_cons (pv 1) (pa_cons (pv 2) pa_nil)))))
    (pss_cons ps_never (pss_cons ps_never (pss_cons ps_never (pss_cons ps_never (pss_cons ps_never (pss_one ps_never))))))), ?_⟩
    exact ⟨_, rfl, _, rfl, _, rfl, .inr ⟨v, t, z, m, tk, rfl, hv, ht, ho, to, od, no, k⟩⟩
theorem okX_heart (T : Txt K mg A) : FnOk P w K mg base (L2.CX P w) 9 A.heart A.heart_ ["machine", "task", "seed"] (fun vs H Q E => spHeart K vs H Q E ∨ spRunNo K A vs H Q E) :=
  Mh.FnOk.or (Mh.FnOk.lift (ok_heart T)) (okX_heart_no T)
end
end Mh
namespace Mh
open PySem L2 LamX
local macro_rules | `(tactic| walk_at "z") => `(tactic| simp only [List.set_cons_succ, List.set_cons_zero])
theorem at_mem {xs : List V} {r : Int} (r0 : 0 ≤ r) (r1 : r < (xs.length : Int)) : ∃ z ∈ xs, atI xs r = some z := by
  obtain ⟨j, rfl⟩ : ∃ j : Nat, r = (j : Int) := ⟨r.toNat, by omega⟩
  have h : j < xs.length := by omega
  exact ⟨xs[j], List.getElem_mem _, atI_nat (by simp [h])⟩
theorem odd_hi {lo hi i : Int} (h : hi < i) : OddD lo hi (.int i) = true := by
  show (!(decide (lo ≤ i) && decide (i ≤ hi))) = true
  rw [decide_eq_false (by omega : ¬ i ≤ hi)]
  simp
theorem odd_lo {lo hi i : Int} (h : i < lo) : OddD lo hi (.int i) = true := by
  show (!(decide (lo ≤ i) && decide (i ≤ hi))) = true
  rw [decide_eq_false (by omega : ¬ lo ≤ i)]
  simp
abbrev qnL : Str := (Str.ofString "law" ++ Str.ofString ".<locals>.") ++ Str.ofString "<lambda>"
section
variable {P : Program} {w : World} {K : PySem.W.Frag} {mg : Str → Option Value} {base : Heap} {A : Adr}
theorem ok_law (T : Txt K mg A) (TB : TabB base mg A.law_cd A.law_tb) : FnOk P w K mg base CX0 15 A.law A.law_ ["_law_script"] (spLawT K A.law_tb) := by
  refine okC T.law.F sc_law (fun vs H Q E h => ?_) (fun cdv hcd Ar outer s H vs Q E hr h => ?_)
  · obtain ⟨a, ns, rfl, _⟩ := h
    rfl
  · obtain ⟨a, ns, rfl, hS, hlen, hTb, k⟩ := h
    have hcode : cdv = .ref A.law_cd := hcd.trans T.law_c
    have hL := sizeLine_eq
    refine ⟨_, (pss_cons (ps_set (i := 1) sc_law.nd rfl (Or.inl rfl) (pe_call (ok_dice T) (hr.mono (by decide)) (by rfl) T.dice.n T.dice.F.kp T.dice.b .nil pass0 (pa_cons (pv 0) (pa_cons pe_int pa_nil))))
    (pss_cons (ps_set (i := 7) sc_law.nd rfl (Or.inr rfl) (pe_call (ok_machine T) (hr.mono (by decide)) (by rfl) T.machine.n T.machine.F.kp T.machine.b .nil pass0 (pa_cons (pv 1) pa_nil)))
    (pss_cons (ps_set (i := 9) sc_law.nd rfl (Or.inr rfl) (pe_call (ok_task T) (hr.mono (by decide)) (by rfl) T.task.n T.task.F.kp T.task.b .nil pass0 (pa_cons (pv 1) (pa_cons (pv 7) pa_nil))))
    (pss_cons (ps_set (i := 2) sc_law.nd rfl (Or.inl rfl) (pe_ix ix_list (pe_lst (pa_cons pe_int (pa_cons (pe_call (ok_off T) (hr.mono (by decide)) (by rfl) T.off.n T.off.F.kp T.off.b .nil pass0 (pa_cons (pv 1) (pa_cons (pe_op op_pow pe_int pe_int) pa_nil))) pa_nil))) (pe_call (ok_off T) (hr.mono (by decide)) (by rfl) T.off.n T.off.F.kp T.off.b .nil pass0 (pa_cons (pv 1) (pa_cons pe_int pa_nil))) (fun _ _ => rfl)))
    (pss_cons (ps_set (i := 8) sc_law.nd rfl (Or.inr rfl) (pe_ix ix_list (pe_lst (pa_cons (pe_op op_add pe_int (pv 2)) (pa_cons (pe_op op_sub (pe_un un_neg pe_int) (pv 2)) (pa_cons pe_non (pa_cons pe_bl (pa_cons pe_str (pa_cons (pe_tup (pa_cons pe_int pa_nil)) pa_nil))))))) (pe_call (ok_off T) (hr.mono (by decide)) (by rfl) T.off.n T.off.F.kp T.off.b .nil pass0 (pa_cons (pv 1) (pa_cons pe_int pa_nil))) (fun _ _ => rfl)))
    (pss_cons (ps_set (i := 6) sc_law.nd rfl (Or.inr rfl) (pe_ix ix_list (pe_lst (pa_cons (pe_op op_add pe_int (pv 2)) (pa_cons (pe_op op_sub (pe_un un_neg pe_int) (pv 2)) (pa_cons pe_non (pa_cons pe_bl (pa_cons pe_str (pa_cons (pe_tup pa_nil) pa_nil))))))) (pe_call (ok_off T) (hr.mono (by decide)) (by rfl) T.off.n T.off.F.kp T.off.b .nil pass0 (pa_cons (pv 1) (pa_cons pe_int pa_nil))) (fun _ _ => rfl)))
    (pss_cons (ps_set (i := 3) sc_law.nd rfl (Or.inl rfl) (pe_lst (pa_cons (pe_lmG (P := A.law_tb) (k := 10) TB hcode (lamT_by (N := N_law) (sc := defScope s_law) (by decide +kernel)) rfl rfl (show ∀ _ _ _ _ _ _, _ from fun _ _ _ _ _ _ => rfl) (fun _ => rfl) (fun Al ol sl Hl El fl cl hr => (pe_callN (E := El) (okX_answered T) (hr.mono (by decide)) (by rfl) T.answered.n T.answered.F.kp T.answered.kb (pass_lam rfl rfl) (pa_cons (pv 7) (pa_cons (pv 8) pa_nil)) (pk_cons (pv 6) pk_nil)))) (pa_cons (pe_lmGD (P := A.law_tb) (k := 10) (a := "_law_a") TB hcode (lamT_by (N := N_law) (sc := defScope s_law) (by decide +kernel)) rfl rfl (show _ ∧ _ from ⟨rfl, fun _ _ _ _ _ _ _ => ⟨_, rfl, fun _ => rfl⟩⟩) (fun _ => rfl) (fun Al ol sl Hl El fl cl hr => (pe_call (E := El) (okX_answered T) (hr.mono (by decide)) (by rfl) T.answered.n T.answered.F.kp T.answered.b0 T.answered.v0 (pass_lam rfl rfl) (pa_cons (pv 7) (pa_cons (pv 8) pa_nil))))) pa_nil))))
    (pss_cons (ps_if (pt_not (pt_val (pe_are T hr (by decide) (by rfl) (pa_cons (pv 3) (pa_cons pe_str pa_nil)))))
    (pss_one (ps_ret pe_bl))
    pss_nil)
    (pss_cons (ps_set (i := 3) sc_law.nd rfl (Or.inl rfl) (pe_lst (pa_cons (pe_lmG (P := A.law_tb) (k := 10) TB hcode (lamT_by (N := N_law) (sc := defScope s_law) (by decide +kernel)) rfl rfl (show ∀ _ _ _ _ _ _, _ from fun _ _ _ _ _ _ => rfl) (fun _ => rfl) (fun Al ol sl Hl El fl cl hr => (pe_callN (E := El) (okX_answered T) (hr.mono (by decide)) (by rfl) T.answered.n T.answered.F.kp T.answered.kb (pass_lam rfl rfl) (pa_cons (pv 7) (pa_cons pe_int pa_nil)) (pk_cons (pv 6) pk_nil)))) (pa_cons (pe_lmGD (P := A.law_tb) (k := 10) (a := "_law_a") TB hcode (lamT_by (N := N_law) (sc := defScope s_law) (by decide +kernel)) rfl rfl (show _ ∧ _ from ⟨rfl, fun _ _ _ _ _ _ _ => ⟨_, rfl, fun _ => rfl⟩⟩) (fun _ => rfl) (fun Al ol sl Hl El fl cl hr => (pe_callN (E := El) (okX_right T) (hr.mono (by decide)) (by rfl) T.right.n T.right.F.kp T.right.kb (pass_lam rfl rfl) (pa_cons (pv 7) (pa_cons (pv 9) pa_nil)) (pk_cons (pv 6) pk_nil)))) pa_nil))))
    (pss_cons (ps_set (i := 3) sc_law.nd rfl (Or.inl rfl) (pe_op op_cat (pv 3) (pe_lst (pa_cons (pe_lmGD (P := A.law_tb) (k := 10) (a := "_law_b") TB hcode (lamT_by (N := N_law) (sc := defScope s_law) (by decide +kernel)) rfl rfl (show _ ∧ _ from ⟨rfl, fun _ _ _ _ _ _ _ => ⟨_, rfl, fun _ => rfl⟩⟩) (fun _ => rfl) (fun Al ol sl Hl El fl cl hr => (pe_callN (E := El) (okX_score T) (hr.mono (by decide)) (by rfl) T.score.n T.score.F.kp T.score.kb (pass_lam rfl rfl) (pa_cons (pv 7) (pa_cons (pv 9) pa_nil)) (pk_cons (pv 6) pk_nil)))) (pa_cons (pe_lmGD (P := A.law_tb) (k := 10) (a := "_law_c") TB hcode (lamT_by (N := N_law) (sc := defScope s_law) (by decide +kernel)) rfl rfl (show _ ∧ _ from ⟨rfl, fun _ _ _ _ _ _ _ => ⟨_, rfl, fun _ => rfl⟩⟩) (fun _ => rfl) (fun Al ol sl Hl El fl cl hr => (pe_callN (E := El) (okX_heart T) (hr.mono (by decide)) (by rfl) T.heart.n T.heart.F.kp T.heart.kb (pass_lam rfl rfl) (pa_cons (pv 7) (pa_cons (pv 9) pa_nil)) (pk_cons (pv 6) pk_nil)))) pa_nil)))))
    (pss_cons (ps_if (PW.pt (pw_or (pt_not (pt_val (pe_are T hr (by decide) (by rfl) (pa_cons (pv 3) (pa_cons pe_str pa_nil))))) (pw_or1 (pt_not (pt_val (pe_are T hr (by decide) (by rfl) (pa_cons (pe_lst (pa_cons (pe_lmG (P := A.law_tb) (k := 10) TB hcode (lamT_by (N := N_law) (sc := defScope s_law) (by decide +kernel)) rfl rfl (show ∀ _ _ _ _ _ _, _ from fun _ _ _ _ _ _ => rfl) (fun _ => rfl) (fun Al ol sl Hl El fl cl hr => (pe_callN (E := El) (okX_right T) (hr.mono (by decide)) (by rfl) T.right.n T.right.F.kp T.right.kb (pass_lam rfl rfl) (pa_cons (pv 7) (pa_cons (pv 9) pa_nil)) (pk_cons pe_int pk_nil)))) pa_nil)) (pa_cons pe_str pa_nil))))))))
    (pss_one (ps_ret pe_bl))
    pss_nil)
    (pss_cons (ps_set (i := 4) sc_law.nd rfl (Or.inl rfl) (pe_tup (pa_cons (pe_tup (pa_cons (pe_tup (pa_cons pe_str (pa_cons pe_int (pa_cons pe_int pa_nil)))) (pa_cons (pe_tup (pa_cons pe_str (pa_cons pe_int pa_nil))) pa_nil))) pa_nil)))
    (pss_cons (ps_set (i := 5) sc_law.nd rfl (Or.inl rfl) (pe_lst (pa_cons (pe_callN (ok_answered T) (hr.mono (by decide)) (by rfl) T.answered.n T.answered.F.kp T.answered.kb pass0 (pa_cons (pv 4) (pa_cons pe_int pa_nil)) (pk_cons pe_int pk_nil)) (pa_cons (pe_call (ok_answered T) (hr.mono (by decide)) (by rfl) T.answered.n T.answered.F.kp T.answered.b0 T.answered.v0 pass0 (pa_cons (pv 4) (pa_cons pe_int pa_nil))) (pa_cons (pe_callN (ok_answered T) (hr.mono (by decide)) (by rfl) T.answered.n T.answered.F.kp T.answered.kb pass0 (pa_cons (pv 4) (pa_cons pe_int pa_nil)) (pk_cons pe_int pk_nil)) pa_nil)))))
    (pss_one (ps_ret (pe_cmpR (op_eqD hr.units) (pv 5) (pe_lst (pa_cons pe_int (pa_cons pe_int (pa_cons pe_non pa_nil)))) (nomark _))))))))))))))))), ?_⟩
    refine ⟨_, rfl, a, ns, 0, rfl, hS, hlen, by decide, by decide, fun d H1 xs hd s1 hx dx => ?_⟩
    have d1 : DS d H1 := ⟨xs, hx, dx⟩
    have hTb1 := s1 _ _ hTb
    have tbd : A.law_tb ≠ d := fun z => by
      rw [z, hd] at hTb
      cases hTb
    have pl1 : Pl K H1 d A.law_tb qnL [] [] := ⟨d1, TabS.nil hTb1, tbd, fun z hz => (by cases hz), fun z hz => (by cases hz)⟩
    clear hd s1 hx d1 hTb1 hTb
    refine xg_name ?_
    refine ⟨_, rfl, d, rfl, pl1.ds, fun mv m H3 b3 d3 dm3 om3 => ?_⟩
    have pl3 := (pl1.cast b3 d3).data dm3 (mach_td m)
    clear pl1 b3 d3 dm3
    refine xg_name ?_
    refine ⟨_, rfl, _, rfl, d, mv, m, rfl, pl3.ds, pl3.dat (by simp), om3, fun tv t H4 b4 d4 dt4 ot4 => ?_⟩
    have pl4 := (pl3.cast b4 d4).data dt4 (task_td t)
    clear pl3 b4 d4 dt4
    refine xg_name ?_
    refine ⟨_, rfl, _, _, rfl, rfl, ⟨by decide, by decide, by decide⟩, nil_ (rd_offV (n := 10 ^ (6 : Int).toNat) rfl pl4.ds (by decide) (by decide) fun fa H5 f0 _ b5 d5 => ?_)⟩
    have pl5 := pl4.cast b5 d5
    refine ⟨by show 2 ≤ sizeLine; omega, fun l6 hl6 => ?_⟩
    have pl6 := pl5.same (same_put (o := .lst [.int 0, .int fa]) (Same.refl _) hl6)
    have h6 : upd H5 l6 (.lst [.int 0, .int fa]) l6 = some (.lst [.int 0, .int fa]) := upd_same
    have nl6 : l6 ∉ [d] := by
      have := (pl5.off hl6).1
      simpa using this
    generalize upd H5 l6 (.lst [.int 0, .int fa]) = H6 at pl6 h6
    refine rd_off rfl pl6.ds (by decide) (by decide) fun r7 H7 r70 r71 b7 d7 => ?_
    have pl7 := pl6.cast b7 d7
    have h7 := b7 _ _ nl6 h6
    obtain ⟨fv, hfv, ef⟩ : ∃ fv : Int, 0 ≤ fv ∧ atI [V.int 0, .int fa] r7 = some (.int fv) := by
      obtain ⟨z, hz, hc⟩ := at_two (x := V.int 0) (y := V.int fa) r70 r71
      rcases hc with rfl | rfl
      · exact ⟨0, by decide, hz⟩
      · exact ⟨fa, f0, hz⟩
    refine ⟨l6, _, _, _, rfl, rfl, SqL.of h7, ef, ?_⟩
    refine xg_name ?_
    clear pl4 pl5 pl6 h6 h7 nl6 hl6 b5 d5 b7 d7 ef
    -- an odd question
    refine ⟨_, rfl, _, _, rfl, rfl, ?_⟩
    refine ⟨_, rfl, _, rfl, _, _, rfl, rfl, ?_⟩
    refine ⟨by show 1 ≤ sizeLine; omega, fun t8 ht8 => ?_⟩
    have pl8 := pl7.same (same_put (o := .tup [.int 1]) (Same.refl _) ht8)
    have h8 : Dp K (upd H7 t8 (.tup [.int 1])) (.ref t8) (.tuple [.int 1]) := .tup (SqT.of upd_same) (.cons (.int _) .nil)
    have pl8 := pl8.data h8 rfl
    generalize upd H7 t8 (.tup [.int 1]) = H8 at pl8
    clear h8 ht8 pl7
    refine ⟨by show 6 ≤ sizeLine; omega, fun l9 hl9 => ?_⟩
    have h9 : upd H8 l9 (.lst [.int (10000 + fv), .int (-1 - fv), .non, .bl true, .str "1", .ref t8]) l9 = some (.lst [.int (10000 + fv), .int (-1 - fv), .non, .bl true, .str "1", .ref t8]) := upd_same
    have pl9 := pl8.list h9 (pl8.same (same_put (Same.refl _) hl9)) hl9
    generalize upd H8 l9 (.lst [.int (10000 + fv), .int (-1 - fv), .non, .bl true, .str "1", .ref t8]) = H9 at pl9
    clear h9 hl9 pl8
    refine rd_off rfl pl9.ds (by decide) (by decide) fun r10 H10 r100 r101 b10 d10 => ?_
    have pl10 := pl9.cast b10 d10
    clear pl9 b10 d10
    obtain ⟨q, hq, eq⟩ := at_mem (xs := [.int (10000 + fv), .int (-1 - fv), .non, .bl true, .str "1", .ref t8]) r100 r101
    refine ⟨l9, _, _, _, rfl, rfl, SqL.of (pl10.at_ (by simp)), eq, ?_⟩
    obtain ⟨qd, dq, tq, oq⟩ : ∃ qd, Dp K H10 q qd ∧ TD qd = true ∧ OddD 0 9999 qd = true := by
      simp only [List.mem_cons, List.not_mem_nil, or_false] at hq
      rcases hq with rfl | rfl | rfl | rfl | rfl | rfl
      · exact ⟨_, .int _, rfl, odd_hi (by omega)⟩
      · exact ⟨_, .int _, rfl, odd_lo (by omega)⟩
      · exact ⟨_, .non, rfl, rfl⟩
      · exact ⟨_, .bl _, rfl, rfl⟩
      · exact ⟨_, .str _, rfl, rfl⟩
      · exact ⟨.tuple [.int 1], pl10.dat (by simp), rfl, rfl⟩
    have pl10 := (pl10.less (Ls' := []) (by simp)).data dq tq
    clear hq eq dq
    refine xg_name ?_
    -- an odd seed
    refine ⟨_, rfl, _, _, rfl, rfl, ?_⟩
    refine ⟨_, rfl, _, rfl, _, _, rfl, rfl, ?_⟩
    refine ⟨by show 0 ≤ sizeLine; omega, fun t11 ht11 => ?_⟩
    have pl11 := pl10.same (same_put (o := .tup []) (Same.refl _) ht11)
    have h11 : Dp K (upd H10 t11 (.tup [])) (.ref t11) (.tuple []) := .tup (SqT.of upd_same) .nil
    have pl11 := pl11.data h11 rfl
    generalize upd H10 t11 (.tup []) = H11 at pl11
    clear h11 ht11 pl10
    refine ⟨by show 6 ≤ sizeLine; omega, fun l12 hl12 => ?_⟩
    have h12 : upd H11 l12 (.lst [.int (1000 + fv), .int (-1 - fv), .non, .bl true, .str "1", .ref t11]) l12 = some (.lst [.int (1000 + fv), .int (-1 - fv), .non, .bl true, .str "1", .ref t11]) := upd_same
    have pl12 := pl11.list h12 (pl11.same (same_put (Same.refl _) hl12)) hl12
    generalize upd H11 l12 (.lst [.int (1000 + fv), .int (-1 - fv), .non, .bl true, .str "1", .ref t11]) = H12 at pl12
    clear h12 hl12 pl11
    refine rd_off rfl pl12.ds (by decide) (by decide) fun r13 H13 r130 r131 b13 d13 => ?_
    have pl13 := pl12.cast b13 d13
    clear pl12 b13 d13
    obtain ⟨z, hz, ez⟩ := at_mem (xs := [.int (1000 + fv), .int (-1 - fv), .non, .bl true, .str "1", .ref t11]) r130 r131
    refine ⟨l12, _, _, _, rfl, rfl, SqL.of (pl13.at_ (by simp)), ez, ?_⟩
    obtain ⟨zd, dz, tz, oz⟩ : ∃ zd, Dp K H13 z zd ∧ TD zd = true ∧ OddD 0 999 zd = true := by
      simp only [List.mem_cons, List.not_mem_nil, or_false] at hz
      rcases hz with rfl | rfl | rfl | rfl | rfl | rfl
      · exact ⟨_, .int _, rfl, odd_hi (by omega)⟩
      · exact ⟨_, .int _, rfl, odd_lo (by omega)⟩
      · exact ⟨_, .non, rfl, rfl⟩
      · exact ⟨_, .bl _, rfl, rfl⟩
      · exact ⟨_, .str _, rfl, rfl⟩
      · exact ⟨.tuple [], pl13.dat (by simp), rfl, rfl⟩
    have pl13 := (pl13.less (Ls' := []) (by simp)).data dz tz
    clear hz ez dz
    refine xg_name ?_
    -- refused for the question
    refine ⟨pl13.tab, fun ok1 f1 H14 nf1 b14 t14 il1 => ?_⟩
    have pl14 := pl13.tabl b14 t14
    refine ⟨pl14.tab, fun ok2 f2 H15 nf2 b15 t15 il2 => ?_⟩
    have pl15 := pl14.tabl b15 t15
    have il1 := islm_tab il1 pl14.tab b15
    refine ⟨by show 2 ≤ sizeLine; omega, fun l16 hl16 => ?_⟩
    have s16 := same_put (o := .lst [.ref f1, .ref f2]) (Same.refl H15) hl16
    have h16 : upd H15 l16 (.lst [.ref f1, .ref f2]) l16 = some (.lst [.ref f1, .ref f2]) := upd_same
    have pl16 := pl15.list h16 (pl15.same s16) hl16
    generalize upd H15 l16 (.lst [.ref f1, .ref f2]) = H16 at s16 pl16
    clear h16 hl16 pl13 pl14 pl15 b14 b15 t14 t15
    refine xg_name ?_
    dsimp only
    refine xif_rr (fun H' => Pl K H' d A.law_tb qnL [] [(z, zd), (.ref t11, .tuple []), (q, qd), (.ref t8, .tuple [.int 1]), (tv, t.dt), (mv, machDt m)]) (fun F hF => ?_) (fun H17 pl17 => ?_)
    · refine ⟨_, rfl, ?_⟩
      dsimp only [tCons, tNil, tC]
      refine rd_areP2 ok1 ok2 (il1.same s16) (il2.same s16) pl16 (by decide +kernel) ?_ ?_ (fun H17 pl17 => ⟨_, rfl, hF _ pl17⟩)
      · refine ⟨0, A.BadQuestion, T.x_BadQuestion, rfl, by decide, fun HZ o E' Q' qq => ?_⟩
        exact ⟨_, rfl, _, rfl, _, rfl, rfl, rfl, .inr ⟨mv, q, z, m, A.BadQuestion, rfl, o.dat (by simp), om3, fun H' s' => ⟨Odd.of (dp_same s' _ _ (o.dat (x := qd) (by simp))), Odd.of (dp_same s' _ _ (o.dat (x := zd) (by simp)))⟩, .inl ⟨odd_no (o.dat (x := qd) (by simp)) oq, rfl⟩, qq⟩⟩
      · refine ⟨0, A.BadQuestion, T.x_BadQuestion, rfl, by decide, fun HZ o E' Q' qq => ?_⟩
        exact ⟨_, rfl, _, rfl, .inr ⟨mv, q, .int 0, m, A.BadQuestion, rfl, o.dat (by simp), om3, fun H' s' => ⟨Odd.of (dp_same s' _ _ (o.dat (x := qd) (by simp))), .int _⟩, .inl ⟨odd_no (o.dat (x := qd) (by simp)) oq, rfl⟩, qq⟩⟩
    clear pl16 il1 il2 ok1 ok2 s16
    -- refused for the seed
    refine ⟨pl17.tab, fun ok1 f1 H18 nf1 b18 t18 il1 => ?_⟩
    have pl18 := pl17.tabl b18 t18
    refine ⟨pl18.tab, fun ok2 f2 H19 nf2 b19 t19 il2 => ?_⟩
    have pl19 := pl18.tabl b19 t19
    have il1 := islm_tab il1 pl18.tab b19
    refine ⟨by show 2 ≤ sizeLine; omega, fun l20 hl20 => ?_⟩
    have s20 := same_put (o := .lst [.ref f1, .ref f2]) (Same.refl H19) hl20
    have h20 : upd H19 l20 (.lst [.ref f1, .ref f2]) l20 = some (.lst [.ref f1, .ref f2]) := upd_same
    have pl20 := pl19.list h20 (pl19.same s20) hl20
    have il1 := il1.same s20
    have il2 := il2.same s20
    generalize upd H19 l20 (.lst [.ref f1, .ref f2]) = H20 at pl20 il1 il2
    clear s20 h20 hl20 pl17 pl18 pl19 b18 b19 t18 t19
    refine xg_name ?_
    refine ⟨_, rfl, ?_⟩
    refine ⟨pl20.tab, fun ok3 f3 H21 nf3 b21 t21 il3 => ?_⟩
    have pl21 := pl20.tabl b21 t21
    have il1 := islm_tab il1 pl20.tab b21
    have il2 := islm_tab il2 pl20.tab b21
    refine ⟨pl21.tab, fun ok4 f4 H22 nf4 b22 t22 il4 => ?_⟩
    have pl22 := pl21.tabl b22 t22
    have il1 := islm_tab il1 pl21.tab b22
    have il2 := islm_tab il2 pl21.tab b22
    have il3 := islm_tab il3 pl21.tab b22
    refine ⟨by show 2 ≤ sizeLine; omega, fun l23 hl23 => ?_⟩
    have s23 := same_put (o := .lst [.ref f3, .ref f4]) (Same.refl H22) hl23
    have h23 : upd H22 l23 (.lst [.ref f3, .ref f4]) l23 = some (.lst [.ref f3, .ref f4]) := upd_same
    have pl23 := pl22.list h23 (pl22.same s23) hl23
    generalize upd H22 l23 (.lst [.ref f3, .ref f4]) = H23 at pl23 s23
    refine ⟨l20, l23, [.ref f1, .ref f2], [.ref f3, .ref f4], rfl, rfl, pl23.at_ (by simp), pl23.at_ (by simp), by show 2 + 2 ≤ sizeLine; omega, fun l24 hl24 => ?_⟩
    have s24 := same_put (o := .lst ([.ref f1, .ref f2] ++ [.ref f3, .ref f4])) (Same.refl H23) hl24
    have h24 : upd H23 l24 (.lst ([.ref f1, .ref f2] ++ [.ref f3, .ref f4])) l24 = some (.lst [.ref f1, .ref f2, .ref f3, .ref f4]) := upd_same
    have pl24 := pl23.list h24 (pl23.same s24) hl24
    generalize upd H23 l24 (.lst ([.ref f1, .ref f2] ++ [.ref f3, .ref f4])) = H24 at pl24 s24
    have s34 := s23.trans s24
    clear h23 h24 hl23 hl24 pl20 pl21 pl22 pl23 b21 b22 t21 t22
    refine xg_name ?_
    dsimp only
    refine xif_rr (fun H' => Pl K H' d A.law_tb qnL [] [(z, zd), (.ref t11, .tuple []), (q, qd), (.ref t8, .tuple [.int 1]), (tv, t.dt), (mv, machDt m)]) (fun F hF => ?_) (fun H25 pl25 => ?_)
    · refine ⟨_, rfl, ?_⟩
      dsimp only [tCons, tNil, tC]
      refine rd_areP4 ok1 ok2 ok3 ok4 (il1.same s34) (il2.same s34) (il3.same s34) (il4.same s34) pl24 (by decide +kernel) ?_ ?_ ?_ ?_ (fun H25 pl25 => ⟨_, rfl, ?_⟩)
      · refine ⟨1, A.BadSeed, T.x_BadSeed, rfl, by decide, fun HZ o E' Q' qq => ?_⟩
        exact ⟨_, rfl, _, rfl, rfl, rfl, .inr ⟨mv, .int 0, z, m, A.BadSeed, rfl, o.dat (by simp), om3, fun H' s' => ⟨.int _, Odd.of (dp_same s' _ _ (o.dat (x := zd) (by simp)))⟩, .inr ⟨⟨0, rfl, by decide, by decide⟩, odd_no (o.dat (x := zd) (by simp)) oz, rfl⟩, qq⟩⟩
      · refine ⟨1, A.BadSeed, T.x_BadSeed, rfl, by decide, fun HZ o E' Q' qq => ?_⟩
        exact ⟨_, rfl, _, rfl, _, rfl, rfl, rfl, .inr ⟨mv, tv, z, m, t, rfl, o.dat (by simp), o.dat (by simp), om3, ot4, fun H' s' => Odd.of (dp_same s' _ _ (o.dat (x := zd) (by simp))), odd_no (o.dat (x := zd) (by simp)) oz, qq⟩⟩
      · refine ⟨1, A.BadSeed, T.x_BadSeed, rfl, by decide, fun HZ o E' Q' qq => ?_⟩
        exact ⟨_, rfl, _, rfl, _, rfl, rfl, rfl, .inr ⟨mv, tv, z, m, t, rfl, o.dat (by simp), o.dat (by simp), om3, ot4, fun H' s' => Odd.of (dp_same s' _ _ (o.dat (x := zd) (by simp))), odd_no (o.dat (x := zd) (by simp)) oz, qq⟩⟩
      · refine ⟨1, A.BadSeed, T.x_BadSeed, rfl, by decide, fun HZ o E' Q' qq => ?_⟩
        exact ⟨_, rfl, _, rfl, _, rfl, rfl, rfl, .inr ⟨mv, tv, z, m, t, rfl, o.dat (by simp), o.dat (by simp), om3, ot4, fun H' s' => Odd.of (dp_same s' _ _ (o.dat (x := zd) (by simp))), odd_no (o.dat (x := zd) (by simp)) oz, qq⟩⟩
      refine iteF ?_
      have pl25 := pl25.less (Ls' := []) (by simp)
      refine ⟨pl25.tab, fun ok5 f5 H26 nf5 b26 t26 il5 => ?_⟩
      have pl26 := pl25.tabl b26 t26
      refine ⟨by show 1 ≤ sizeLine; omega, fun l27 hl27 => ?_⟩
      have s27 := same_put (o := .lst [.ref f5]) (Same.refl H26) hl27
      have h27 : upd H26 l27 (.lst [.ref f5]) l27 = some (.lst [.ref f5]) := upd_same
      have pl27 := pl26.list h27 (pl26.same s27) hl27
      generalize upd H26 l27 (.lst [.ref f5]) = H27 at pl27 s27
      dsimp only [tCons, tNil, tC]
      refine rd_areP1 ok5 (il5.same s27) pl27 (by decide +kernel) ?_ (fun H28 pl28 => ⟨_, rfl, hF _ pl28⟩)
      refine ⟨1, A.BadSeed, T.x_BadSeed, rfl, by decide, fun HZ o E' Q' qq => ?_⟩
      exact ⟨_, rfl, _, rfl, rfl, rfl, .inr ⟨mv, tv, .int 1000, m, t, rfl, o.dat (by simp), o.dat (by simp), om3, ot4, fun H' s' => .int _, rfl, qq⟩⟩
    clear pl24 il1 il2 il3 il4 ok1 ok2 ok3 ok4 s34 s23 s24
    -- a plain machine
    refine ⟨by show 3 ≤ sizeLine; omega, fun t1 ht1 => ?_⟩
    have s1 := same_put (o := .tup [.str "chance", .int 2, .int 0]) (Same.refl H25) ht1
    have h1 : Dp K (upd H25 t1 (.tup [.str "chance", .int 2, .int 0])) (.ref t1) (.tuple [.str "chance", .int 2, .int 0]) := .tup (SqT.of upd_same) (.cons (.str _) (.cons (.int _) (.cons (.int _) .nil)))
    generalize upd H25 t1 (.tup [.str "chance", .int 2, .int 0]) = H26 at s1 h1
    refine ⟨by show 2 ≤ sizeLine; omega, fun t2 ht2 => ?_⟩
    have s2 := same_put (o := .tup [.str "plus", .int 1]) (Same.refl H26) ht2
    have h2 : Dp K (upd H26 t2 (.tup [.str "plus", .int 1])) (.ref t2) (.tuple [.str "plus", .int 1]) := .tup (SqT.of upd_same) (.cons (.str _) (.cons (.int _) .nil))
    generalize upd H26 t2 (.tup [.str "plus", .int 1]) = H27 at s2 h2
    refine ⟨by show 2 ≤ sizeLine; omega, fun t3 ht3 => ?_⟩
    have s3 := same_put (o := .tup [.ref t1, .ref t2]) (Same.refl H27) ht3
    have h3 : Dp K (upd H27 t3 (.tup [.ref t1, .ref t2])) (.ref t3) (.tuple [.tuple [.str "chance", .int 2, .int 0], .tuple [.str "plus", .int 1]]) := .tup (SqT.of upd_same) (.cons (dp_same s3 _ _ (dp_same s2 _ _ h1)) (.cons (dp_same s3 _ _ h2) .nil))
    generalize upd H27 t3 (.tup [.ref t1, .ref t2]) = H28 at s3 h3
    refine ⟨by show 1 ≤ sizeLine; omega, fun t4 ht4 => ?_⟩
    have s4 := same_put (o := .tup [.ref t3]) (Same.refl H28) ht4
    have h4 : Dp K (upd H28 t4 (.tup [.ref t3])) (.ref t4) (machDt [(.chance 2 0, .plus 1)]) := .tup (SqT.of upd_same) (.cons (dp_same s4 _ _ h3) .nil)
    generalize upd H28 t4 (.tup [.ref t3]) = H29 at s4 h4
    have okP : MachOk [(.chance 2 0, .plus 1)] := ⟨by decide, by decide, fun r hr => by
      rcases List.mem_singleton.mp hr with rfl
      exact ⟨⟨by decide, by decide, by decide, by decide⟩, by decide, by decide⟩⟩
    have e1 : tell 9999 999 [(.chance 2 0, .plus 1)] = some 10000 := by decide +kernel
    have e2 : tell 0 0 [(.chance 2 0, .plus 1)] = some 1 := by decide +kernel
    have e3 : tell 0 999 [(.chance 2 0, .plus 1)] = none := by decide +kernel
    refine xg_name ?_
    refine ⟨_, rfl, rfl, rfl, .ref t4, [(.chance 2 0, .plus 1)], 9999, 999, rfl, h4, okP, by decide, by decide, by decide, by decide, fun H30 s30 => ?_⟩
    refine ⟨_, rfl, .ref t4, [(.chance 2 0, .plus 1)], 0, 0, rfl, dp_same s30 _ _ h4, okP, by decide, by decide, by decide, by decide, fun H31 s31 => ?_⟩
    refine ⟨_, rfl, rfl, rfl, .ref t4, [(.chance 2 0, .plus 1)], 0, 999, rfl, dp_same s31 _ _ (dp_same s30 _ _ h4), okP, by decide, by decide, by decide, by decide, fun H32 s32 => ?_⟩
    rw [e1, e2, e3]
    refine ⟨by show 3 ≤ sizeLine; omega, fun l33 hl33 => ?_⟩
    have h33 : upd H32 l33 (.lst [.int 10000, .int 1, .non]) l33 = some (.lst [.int 10000, .int 1, .non]) := upd_same
    refine xg_name ?_
    refine ⟨_, rfl, ?_⟩
    refine ⟨by show 3 ≤ sizeLine; omega, fun l34 hl34 => ?_⟩
    have s34 := same_put (o := .lst [.int 10000, .int 1, .non]) (Same.refl _) hl34
    refine ⟨.list [.int 10000, .int 1, .none], .list [.int 10000, .int 1, .none], .lst (SqL.of (s34 _ _ h33)) (.cons (.int _) (.cons (.int _) (.cons .non .nil))), .lst (SqL.of upd_same) (.cons (.int _) (.cons (.int _) (.cons .non .nil))), by decide +kernel, by decide +kernel, ?_⟩
    rw [show PyData.eqv (.list [.int 10000, .int 1, .none]) (.list [.int 10000, .int 1, .none]) = true by decide +kernel]
    exact k _
end
end Mh
namespace Mh
open PySem L2
theorem all_mk {l : PySem.W.OpenLaw} {w : World} {K : PySem.W.Frag} {h : Heap} {mg : Str → Option Value} {fa : Addr} (X : K.In h) (G : h.Ns mainGlobals mg) (hfa : mg "law" = some (.ref fa))
    {f0 f1 f2 f3 f4 f5 f6 f7 f8 f9 f10 f11 f12 f13 f14 f15 f16 f17 f18 f19 f20 f21 f22 f23 f24 f25 f26 f27 f28 f29 f30 f31 f32 f33 f34 f35 f36 : Addr}
    {od0 an0 od1 an1 od2 an2 od3 an3 od4 an4 od5 an5 od6 an6 od7 an7 od8 an8 od9 an9 od10 an10 od11 an11 od12 an12 od13 an13 od14 an14 od15 an15 od16 an16 od17 an17 od18 an18 od19 an19 od20 an20 od21 an21 od22 an22 od23 an23 od24 an24 od25 an25 od26 an26 od27 an27 od28 an28 od29 an29 od30 an30 od31 an31 od32 an32 od33 an33 od34 an34 od35 an35 od36 an36 : Option Addr}
    {sl0 sl1 sl2 sl3 sl4 sl5 sl6 sl7 sl8 sl9 sl10 sl11 sl12 sl13 sl14 sl15 sl16 sl17 sl18 sl19 sl20 sl21 sl22 sl23 sl24 sl25 sl26 sl27 sl28 sl29 sl30 sl31 sl32 sl33 sl34 sl35 sl36 : Array (Option Value)}
    {oc0 dc0 pm0 cd0 ct0 kV0 oc1 dc1 pm1 cd1 ct1 kV1 oc2 dc2 pm2 cd2 ct2 kV2 oc3 dc3 pm3 cd3 ct3 kV3 oc4 dc4 pm4 cd4 ct4 kV4 oc5 dc5 pm5 cd5 ct5 kV5 oc6 dc6 pm6 cd6 ct6 kV6 oc7 dc7 pm7 cd7 ct7 kV7 oc8 dc8 pm8 cd8 ct8 kV8 oc9 dc9 pm9 cd9 ct9 kV9 oc10 dc10 pm10 cd10 ct10 kV10 oc11 dc11 pm11 cd11 ct11 kV11 oc12 dc12 pm12 cd12 ct12 kV12 oc13 dc13 pm13 cd13 ct13 kV13 oc14 dc14 pm14 cd14 ct14 oc15 dc15 pm15 cd15 ct15 kV15 oc16 dc16 pm16 cd16 ct16 kV16 oc17 dc17 pm17 cd17 ct17 kV17 oc18 dc18 pm18 cd18 ct18 kV18 oc19 dc19 pm19 cd19 ct19 kV19 oc20 dc20 pm20 cd20 ct20 kV20 oc21 dc21 pm21 cd21 ct21 kV21 oc22 dc22 pm22 cd22 ct22 kV22 oc23 dc23 pm23 cd23 ct23 kV23 oc24 dc24 pm24 cd24 ct24 kV24 oc25 dc25 pm25 cd25 ct25 kV25 oc26 dc26 pm26 cd26 ct26 kV26 oc27 dc27 pm27 cd27 ct27 kV27 oc28 dc28 pm28 cd28 ct28 kV28 oc29 dc29 pm29 cd29 ct29 kV29 oc30 dc30 pm30 cd30 ct30 kV30 oc31 dc31 pm31 cd31 ct31 kV31 oc32 dc32 pm32 cd32 ct32 kV32 oc33 dc33 pm33 cd33 ct33 kV33 oc34 dc34 pm34 cd34 ct34 kV34 oc35 dc35 pm35 cd35 ct35 kV35 oc36 dc36 pm36 cd36 ct36 kV36 : Value}
    (a0 : PySem.W.nsIn K mainGlobals "is_number" = some (some (.ref f0)))
     (l0 : K.lookup f0 = some ⟨oc0, od0, .func (PySem.W.fnOf "is_number" "is_number" (defArgs s_is_number) (defBody s_is_number) (defScope s_is_number) .none kV0 dc0 pm0 an0 cd0 ct0), sl0⟩) (c0 : PySem.W.codeIn K cd0 "is_number" = true) (k0 : PySem.W.keepIn K (.ref f0) = true)
    (a1 : PySem.W.nsIn K mainGlobals "is_question" = some (some (.ref f1)))
     (l1 : K.lookup f1 = some ⟨oc1, od1, .func (PySem.W.fnOf "is_question" "is_question" (defArgs s_is_question) (defBody s_is_question) (defScope s_is_question) .none kV1 dc1 pm1 an1 cd1 ct1), sl1⟩) (c1 : PySem.W.codeIn K cd1 "is_question" = true) (k1 : PySem.W.keepIn K (.ref f1) = true)
    (a2 : PySem.W.nsIn K mainGlobals "is_seed" = some (some (.ref f2)))
     (l2 : K.lookup f2 = some ⟨oc2, od2, .func (PySem.W.fnOf "is_seed" "is_seed" (defArgs s_is_seed) (defBody s_is_seed) (defScope s_is_seed) .none kV2 dc2 pm2 an2 cd2 ct2), sl2⟩) (c2 : PySem.W.codeIn K cd2 "is_seed" = true) (k2 : PySem.W.keepIn K (.ref f2) = true)
    (a3 : PySem.W.nsIn K mainGlobals "is_divisor" = some (some (.ref f3)))
     (l3 : K.lookup f3 = some ⟨oc3, od3, .func (PySem.W.fnOf "is_divisor" "is_divisor" (defArgs s_is_divisor) (defBody s_is_divisor) (defScope s_is_divisor) .none kV3 dc3 pm3 an3 cd3 ct3), sl3⟩) (c3 : PySem.W.codeIn K cd3 "is_divisor" = true) (k3 : PySem.W.keepIn K (.ref f3) = true)
    (a4 : PySem.W.nsIn K mainGlobals "is_known" = some (some (.ref f4)))
     (l4 : K.lookup f4 = some ⟨oc4, od4, .func (PySem.W.fnOf "is_known" "is_known" (defArgs s_is_known) (defBody s_is_known) (defScope s_is_known) .none kV4 dc4 pm4 an4 cd4 ct4), sl4⟩) (c4 : PySem.W.codeIn K cd4 "is_known" = true) (k4 : PySem.W.keepIn K (.ref f4) = true)
    (a5 : PySem.W.nsIn K mainGlobals "is_test" = some (some (.ref f5)))
     (l5 : K.lookup f5 = some ⟨oc5, od5, .func (PySem.W.fnOf "is_test" "is_test" (defArgs s_is_test) (defBody s_is_test) (defScope s_is_test) .none kV5 dc5 pm5 an5 cd5 ct5), sl5⟩) (c5 : PySem.W.codeIn K cd5 "is_test" = true) (k5 : PySem.W.keepIn K (.ref f5) = true)
    (a6 : PySem.W.nsIn K mainGlobals "is_answer" = some (some (.ref f6)))
     (l6 : K.lookup f6 = some ⟨oc6, od6, .func (PySem.W.fnOf "is_answer" "is_answer" (defArgs s_is_answer) (defBody s_is_answer) (defScope s_is_answer) .none kV6 dc6 pm6 an6 cd6 ct6), sl6⟩) (c6 : PySem.W.codeIn K cd6 "is_answer" = true) (k6 : PySem.W.keepIn K (.ref f6) = true)
    (a7 : PySem.W.nsIn K mainGlobals "is_row" = some (some (.ref f7)))
     (l7 : K.lookup f7 = some ⟨oc7, od7, .func (PySem.W.fnOf "is_row" "is_row" (defArgs s_is_row) (defBody s_is_row) (defScope s_is_row) .none kV7 dc7 pm7 an7 cd7 ct7), sl7⟩) (c7 : PySem.W.codeIn K cd7 "is_row" = true) (k7 : PySem.W.keepIn K (.ref f7) = true)
    (a8 : PySem.W.nsIn K mainGlobals "check_machine" = some (some (.ref f8)))
     (l8 : K.lookup f8 = some ⟨oc8, od8, .func (PySem.W.fnOf "check_machine" "check_machine" (defArgs s_check_machine) (defBody s_check_machine) (defScope s_check_machine) .none kV8 dc8 pm8 an8 cd8 ct8), sl8⟩) (c8 : PySem.W.codeIn K cd8 "check_machine" = true) (k8 : PySem.W.keepIn K (.ref f8) = true)
    (a9 : PySem.W.nsIn K mainGlobals "check_question" = some (some (.ref f9)))
     (l9 : K.lookup f9 = some ⟨oc9, od9, .func (PySem.W.fnOf "check_question" "check_question" (defArgs s_check_question) (defBody s_check_question) (defScope s_check_question) .none kV9 dc9 pm9 an9 cd9 ct9), sl9⟩) (c9 : PySem.W.codeIn K cd9 "check_question" = true) (k9 : PySem.W.keepIn K (.ref f9) = true)
    (a10 : PySem.W.nsIn K mainGlobals "check_seed" = some (some (.ref f10)))
     (l10 : K.lookup f10 = some ⟨oc10, od10, .func (PySem.W.fnOf "check_seed" "check_seed" (defArgs s_check_seed) (defBody s_check_seed) (defScope s_check_seed) .none kV10 dc10 pm10 an10 cd10 ct10), sl10⟩) (c10 : PySem.W.codeIn K cd10 "check_seed" = true) (k10 : PySem.W.keepIn K (.ref f10) = true)
    (a11 : PySem.W.nsIn K mainGlobals "does_hold" = some (some (.ref f11)))
     (l11 : K.lookup f11 = some ⟨oc11, od11, .func (PySem.W.fnOf "does_hold" "does_hold" (defArgs s_does_hold) (defBody s_does_hold) (defScope s_does_hold) .none kV11 dc11 pm11 an11 cd11 ct11), sl11⟩) (c11 : PySem.W.codeIn K cd11 "does_hold" = true) (k11 : PySem.W.keepIn K (.ref f11) = true)
    (a12 : PySem.W.nsIn K mainGlobals "outcome" = some (some (.ref f12)))
     (l12 : K.lookup f12 = some ⟨oc12, od12, .func (PySem.W.fnOf "outcome" "outcome" (defArgs s_outcome) (defBody s_outcome) (defScope s_outcome) .none kV12 dc12 pm12 an12 cd12 ct12), sl12⟩) (c12 : PySem.W.codeIn K cd12 "outcome" = true) (k12 : PySem.W.keepIn K (.ref f12) = true)
    (a13 : PySem.W.nsIn K mainGlobals "run" = some (some (.ref f13)))
     (l13 : K.lookup f13 = some ⟨oc13, od13, .func (PySem.W.fnOf "run" "run" (defArgs s_run) (defBody s_run) (defScope s_run) .none kV13 dc13 pm13 an13 cd13 ct13), sl13⟩) (c13 : PySem.W.codeIn K cd13 "run" = true) (k13 : PySem.W.keepIn K (.ref f13) = true)
    {dk14 : Addr} {kd14_0 : Value}
    (a14 : PySem.W.nsIn K mainGlobals "answered" = some (some (.ref f14)))
     (l14 : K.lookup f14 = some ⟨oc14, od14, .func (PySem.W.fnOf "answered" "answered" (defArgs s_answered) (defBody s_answered) (defScope s_answered) .none (.ref dk14) dc14 pm14 an14 cd14 ct14), sl14⟩) (c14 : PySem.W.codeIn K cd14 "answered" = true) (k14 : PySem.W.keepIn K (.ref f14) = true)
    (q14_0 : PySem.W.nsIn K dk14 "seed" = some (some kd14_0)) (r14_0 : RelV (.int 0) kd14_0)
    (a15 : PySem.W.nsIn K mainGlobals "is_due" = some (some (.ref f15)))
     (l15 : K.lookup f15 = some ⟨oc15, od15, .func (PySem.W.fnOf "is_due" "is_due" (defArgs s_is_due) (defBody s_is_due) (defScope s_is_due) .none kV15 dc15 pm15 an15 cd15 ct15), sl15⟩) (c15 : PySem.W.codeIn K cd15 "is_due" = true) (k15 : PySem.W.keepIn K (.ref f15) = true)
    (a16 : PySem.W.nsIn K mainGlobals "is_twin" = some (some (.ref f16)))
     (l16 : K.lookup f16 = some ⟨oc16, od16, .func (PySem.W.fnOf "is_twin" "is_twin" (defArgs s_is_twin) (defBody s_is_twin) (defScope s_is_twin) .none kV16 dc16 pm16 an16 cd16 ct16), sl16⟩) (c16 : PySem.W.codeIn K cd16 "is_twin" = true) (k16 : PySem.W.keepIn K (.ref f16) = true)
    (a17 : PySem.W.nsIn K mainGlobals "is_asked" = some (some (.ref f17)))
     (l17 : K.lookup f17 = some ⟨oc17, od17, .func (PySem.W.fnOf "is_asked" "is_asked" (defArgs s_is_asked) (defBody s_is_asked) (defScope s_is_asked) .none kV17 dc17 pm17 an17 cd17 ct17), sl17⟩) (c17 : PySem.W.codeIn K cd17 "is_asked" = true) (k17 : PySem.W.keepIn K (.ref f17) = true)
    (a18 : PySem.W.nsIn K mainGlobals "is_framed" = some (some (.ref f18)))
     (l18 : K.lookup f18 = some ⟨oc18, od18, .func (PySem.W.fnOf "is_framed" "is_framed" (defArgs s_is_framed) (defBody s_is_framed) (defScope s_is_framed) .none kV18 dc18 pm18 an18 cd18 ct18), sl18⟩) (c18 : PySem.W.codeIn K cd18 "is_framed" = true) (k18 : PySem.W.keepIn K (.ref f18) = true)
    (a19 : PySem.W.nsIn K mainGlobals "check_task" = some (some (.ref f19)))
     (l19 : K.lookup f19 = some ⟨oc19, od19, .func (PySem.W.fnOf "check_task" "check_task" (defArgs s_check_task) (defBody s_check_task) (defScope s_check_task) .none kV19 dc19 pm19 an19 cd19 ct19), sl19⟩) (c19 : PySem.W.codeIn K cd19 "check_task" = true) (k19 : PySem.W.keepIn K (.ref f19) = true)
    (a20 : PySem.W.nsIn K mainGlobals "right_ones" = some (some (.ref f20)))
     (l20 : K.lookup f20 = some ⟨oc20, od20, .func (PySem.W.fnOf "right_ones" "right_ones" (defArgs s_right_ones) (defBody s_right_ones) (defScope s_right_ones) .none kV20 dc20 pm20 an20 cd20 ct20), sl20⟩) (c20 : PySem.W.codeIn K cd20 "right_ones" = true) (k20 : PySem.W.keepIn K (.ref f20) = true)
    (a21 : PySem.W.nsIn K mainGlobals "count_right" = some (some (.ref f21)))
     (l21 : K.lookup f21 = some ⟨oc21, od21, .func (PySem.W.fnOf "count_right" "count_right" (defArgs s_count_right) (defBody s_count_right) (defScope s_count_right) .none kV21 dc21 pm21 an21 cd21 ct21), sl21⟩) (c21 : PySem.W.codeIn K cd21 "count_right" = true) (k21 : PySem.W.keepIn K (.ref f21) = true)
    (a22 : PySem.W.nsIn K mainGlobals "check_run" = some (some (.ref f22)))
     (l22 : K.lookup f22 = some ⟨oc22, od22, .func (PySem.W.fnOf "check_run" "check_run" (defArgs s_check_run) (defBody s_check_run) (defScope s_check_run) .none kV22 dc22 pm22 an22 cd22 ct22), sl22⟩) (c22 : PySem.W.codeIn K cd22 "check_run" = true) (k22 : PySem.W.keepIn K (.ref f22) = true)
    (a23 : PySem.W.nsIn K mainGlobals "right" = some (some (.ref f23)))
     (l23 : K.lookup f23 = some ⟨oc23, od23, .func (PySem.W.fnOf "right" "right" (defArgs s_right) (defBody s_right) (defScope s_right) .none kV23 dc23 pm23 an23 cd23 ct23), sl23⟩) (c23 : PySem.W.codeIn K cd23 "right" = true) (k23 : PySem.W.keepIn K (.ref f23) = true)
    (a24 : PySem.W.nsIn K mainGlobals "score" = some (some (.ref f24)))
     (l24 : K.lookup f24 = some ⟨oc24, od24, .func (PySem.W.fnOf "score" "score" (defArgs s_score) (defBody s_score) (defScope s_score) .none kV24 dc24 pm24 an24 cd24 ct24), sl24⟩) (c24 : PySem.W.codeIn K cd24 "score" = true) (k24 : PySem.W.keepIn K (.ref f24) = true)
    (a25 : PySem.W.nsIn K mainGlobals "heart" = some (some (.ref f25)))
     (l25 : K.lookup f25 = some ⟨oc25, od25, .func (PySem.W.fnOf "heart" "heart" (defArgs s_heart) (defBody s_heart) (defScope s_heart) .none kV25 dc25 pm25 an25 cd25 ct25), sl25⟩) (c25 : PySem.W.codeIn K cd25 "heart" = true) (k25 : PySem.W.keepIn K (.ref f25) = true)
    (a26 : PySem.W.nsIn K mainGlobals "_law_dice" = some (some (.ref f26)))
     (l26 : K.lookup f26 = some ⟨oc26, od26, .func (PySem.W.fnOf "_law_dice" "_law_dice" (defArgs s_dice) (defBody s_dice) (defScope s_dice) .none kV26 dc26 pm26 an26 cd26 ct26), sl26⟩) (c26 : PySem.W.codeIn K cd26 "_law_dice" = true) (k26 : PySem.W.keepIn K (.ref f26) = true)
    (a27 : PySem.W.nsIn K mainGlobals "_law_off" = some (some (.ref f27)))
     (l27 : K.lookup f27 = some ⟨oc27, od27, .func (PySem.W.fnOf "_law_off" "_law_off" (defArgs s_off) (defBody s_off) (defScope s_off) .none kV27 dc27 pm27 an27 cd27 ct27), sl27⟩) (c27 : PySem.W.codeIn K cd27 "_law_off" = true) (k27 : PySem.W.keepIn K (.ref f27) = true)
    (a28 : PySem.W.nsIn K mainGlobals "_law_mixed" = some (some (.ref f28)))
     (l28 : K.lookup f28 = some ⟨oc28, od28, .func (PySem.W.fnOf "_law_mixed" "_law_mixed" (defArgs s_mixed) (defBody s_mixed) (defScope s_mixed) .none kV28 dc28 pm28 an28 cd28 ct28), sl28⟩) (c28 : PySem.W.codeIn K cd28 "_law_mixed" = true) (k28 : PySem.W.keepIn K (.ref f28) = true)
    (a29 : PySem.W.nsIn K mainGlobals "_law_word_of" = some (some (.ref f29)))
     (l29 : K.lookup f29 = some ⟨oc29, od29, .func (PySem.W.fnOf "_law_word_of" "_law_word_of" (defArgs s_word_of) (defBody s_word_of) (defScope s_word_of) .none kV29 dc29 pm29 an29 cd29 ct29), sl29⟩) (c29 : PySem.W.codeIn K cd29 "_law_word_of" = true) (k29 : PySem.W.keepIn K (.ref f29) = true)
    (a30 : PySem.W.nsIn K mainGlobals "_law_are" = some (some (.ref f30)))
     (l30 : K.lookup f30 = some ⟨oc30, od30, .func (PySem.W.fnOf "_law_are" "_law_are" (defArgs s_are) (defBody s_are) (defScope s_are) .none kV30 dc30 pm30 an30 cd30 ct30), sl30⟩) (c30 : PySem.W.codeIn K cd30 "_law_are" = true) (k30 : PySem.W.keepIn K (.ref f30) = true)
    (a31 : PySem.W.nsIn K mainGlobals "_law_test" = some (some (.ref f31)))
     (l31 : K.lookup f31 = some ⟨oc31, od31, .func (PySem.W.fnOf "_law_test" "_law_test" (defArgs s_test) (defBody s_test) (defScope s_test) .none kV31 dc31 pm31 an31 cd31 ct31), sl31⟩) (c31 : PySem.W.codeIn K cd31 "_law_test" = true) (k31 : PySem.W.keepIn K (.ref f31) = true)
    (a32 : PySem.W.nsIn K mainGlobals "_law_answer" = some (some (.ref f32)))
     (l32 : K.lookup f32 = some ⟨oc32, od32, .func (PySem.W.fnOf "_law_answer" "_law_answer" (defArgs s_answer) (defBody s_answer) (defScope s_answer) .none kV32 dc32 pm32 an32 cd32 ct32), sl32⟩) (c32 : PySem.W.codeIn K cd32 "_law_answer" = true) (k32 : PySem.W.keepIn K (.ref f32) = true)
    (a33 : PySem.W.nsIn K mainGlobals "_law_machine" = some (some (.ref f33)))
     (l33 : K.lookup f33 = some ⟨oc33, od33, .func (PySem.W.fnOf "_law_machine" "_law_machine" (defArgs s_machine) (defBody s_machine) (defScope s_machine) .none kV33 dc33 pm33 an33 cd33 ct33), sl33⟩) (c33 : PySem.W.codeIn K cd33 "_law_machine" = true) (k33 : PySem.W.keepIn K (.ref f33) = true)
    (a34 : PySem.W.nsIn K mainGlobals "_law_told" = some (some (.ref f34)))
     (l34 : K.lookup f34 = some ⟨oc34, od34, .func (PySem.W.fnOf "_law_told" "_law_told" (defArgs s_told) (defBody s_told) (defScope s_told) .none kV34 dc34 pm34 an34 cd34 ct34), sl34⟩) (c34 : PySem.W.codeIn K cd34 "_law_told" = true) (k34 : PySem.W.keepIn K (.ref f34) = true)
    (a35 : PySem.W.nsIn K mainGlobals "_law_task" = some (some (.ref f35)))
     (l35 : K.lookup f35 = some ⟨oc35, od35, .func (PySem.W.fnOf "_law_task" "_law_task" (defArgs s_task) (defBody s_task) (defScope s_task) .none kV35 dc35 pm35 an35 cd35 ct35), sl35⟩) (c35 : PySem.W.codeIn K cd35 "_law_task" = true) (k35 : PySem.W.keepIn K (.ref f35) = true)
    (a36 : PySem.W.nsIn K mainGlobals "law" = some (some (.ref f36)))
     (l36 : K.lookup f36 = some ⟨oc36, od36, .func (PySem.W.fnOf "law" "law" (defArgs s_law) (defBody s_law) (defScope s_law) .none kV36 dc36 pm36 an36 cd36 ct36), sl36⟩) (c36 : PySem.W.codeIn K cd36 "law" = true) (k36 : PySem.W.keepIn K (.ref f36) = true)
    (z_ValueError : PySem.W.nsIn K mainGlobals "ValueError" = some none)
    (z_abs : PySem.W.nsIn K mainGlobals "abs" = some none)
    (z_all : PySem.W.nsIn K mainGlobals "all" = some none)
    (z_bool : PySem.W.nsIn K mainGlobals "bool" = some none)
    (z_enumerate : PySem.W.nsIn K mainGlobals "enumerate" = some none)
    (z_int : PySem.W.nsIn K mainGlobals "int" = some none)
    (z_isinstance : PySem.W.nsIn K mainGlobals "isinstance" = some none)
    (z_len : PySem.W.nsIn K mainGlobals "len" = some none)
    (z_list : PySem.W.nsIn K mainGlobals "list" = some none)
    (z_max : PySem.W.nsIn K mainGlobals "max" = some none)
    (z_range : PySem.W.nsIn K mainGlobals "range" = some none)
    (z_set : PySem.W.nsIn K mainGlobals "set" = some none)
    (z_sorted : PySem.W.nsIn K mainGlobals "sorted" = some none)
    (z_sum : PySem.W.nsIn K mainGlobals "sum" = some none)
    (z_tuple : PySem.W.nsIn K mainGlobals "tuple" = some none)
    (z_zip : PySem.W.nsIn K mainGlobals "zip" = some none)
    (x_comb : PySem.W.nsIn K mainGlobals "comb" = some (some (.builtin "math.comb")))
    {v_LAST_QUESTION : Value} (y_LAST_QUESTION : PySem.W.nsIn K mainGlobals "LAST_QUESTION" = some (some v_LAST_QUESTION)) (r_LAST_QUESTION : RelV (.int 9999) v_LAST_QUESTION)
    {v_LAST_SEED : Value} (y_LAST_SEED : PySem.W.nsIn K mainGlobals "LAST_SEED" = some (some v_LAST_SEED)) (r_LAST_SEED : RelV (.int 999) v_LAST_SEED)
    {v_MOST_ROWS : Value} (y_MOST_ROWS : PySem.W.nsIn K mainGlobals "MOST_ROWS" = some (some v_MOST_ROWS)) (r_MOST_ROWS : RelV (.int 12) v_MOST_ROWS)
    {v_MOST_KNOWN : Value} (y_MOST_KNOWN : PySem.W.nsIn K mainGlobals "MOST_KNOWN" = some (some v_MOST_KNOWN)) (r_MOST_KNOWN : RelV (.int 8) v_MOST_KNOWN)
    {v_LEAST_DIVISOR : Value} (y_LEAST_DIVISOR : PySem.W.nsIn K mainGlobals "LEAST_DIVISOR" = some (some v_LEAST_DIVISOR)) (r_LEAST_DIVISOR : RelV (.int 2) v_LEAST_DIVISOR)
    {v_MOST_DIVISOR : Value} (y_MOST_DIVISOR : PySem.W.nsIn K mainGlobals "MOST_DIVISOR" = some (some v_MOST_DIVISOR)) (r_MOST_DIVISOR : RelV (.int 99) v_MOST_DIVISOR)
    {v_MOST_IN_ANSWER : Value} (y_MOST_IN_ANSWER : PySem.W.nsIn K mainGlobals "MOST_IN_ANSWER" = some (some v_MOST_IN_ANSWER)) (r_MOST_IN_ANSWER : RelV (.int 9999) v_MOST_IN_ANSWER)
    {v_MOST_QUESTIONS : Value} (y_MOST_QUESTIONS : PySem.W.nsIn K mainGlobals "MOST_QUESTIONS" = some (some v_MOST_QUESTIONS)) (r_MOST_QUESTIONS : RelV (.int 16) v_MOST_QUESTIONS)
    {v_MOST_DUE : Value} (y_MOST_DUE : PySem.W.nsIn K mainGlobals "MOST_DUE" = some (some v_MOST_DUE)) (r_MOST_DUE : RelV (.int 99999999) v_MOST_DUE)
    {v_MOST_WEIGHT : Value} (y_MOST_WEIGHT : PySem.W.nsIn K mainGlobals "MOST_WEIGHT" = some (some v_MOST_WEIGHT)) (r_MOST_WEIGHT : RelV (.int 9) v_MOST_WEIGHT)
    {e_HallError e_BadQuestion e_BadSeed e_BadName e_TooMany e_Taken e_NoMachine e_NoTask e_BadScore e_NoRun e_NotRanked e_BadShare e_NotAhead e_NoPage e_BadMachine e_BadText e_BadTask e_BadDeed : Addr}
    (g_HallError : PySem.W.nsIn K mainGlobals "HallError" = some (some (.ref e_HallError)))
    (g_BadQuestion : PySem.W.nsIn K mainGlobals "BadQuestion" = some (some (.ref e_BadQuestion)))
    (g_BadSeed : PySem.W.nsIn K mainGlobals "BadSeed" = some (some (.ref e_BadSeed)))
    (g_BadName : PySem.W.nsIn K mainGlobals "BadName" = some (some (.ref e_BadName)))
    (g_TooMany : PySem.W.nsIn K mainGlobals "TooMany" = some (some (.ref e_TooMany)))
    (g_Taken : PySem.W.nsIn K mainGlobals "Taken" = some (some (.ref e_Taken)))
    (g_NoMachine : PySem.W.nsIn K mainGlobals "NoMachine" = some (some (.ref e_NoMachine)))
    (g_NoTask : PySem.W.nsIn K mainGlobals "NoTask" = some (some (.ref e_NoTask)))
    (g_BadScore : PySem.W.nsIn K mainGlobals "BadScore" = some (some (.ref e_BadScore)))
    (g_NoRun : PySem.W.nsIn K mainGlobals "NoRun" = some (some (.ref e_NoRun)))
    (g_NotRanked : PySem.W.nsIn K mainGlobals "NotRanked" = some (some (.ref e_NotRanked)))
    (g_BadShare : PySem.W.nsIn K mainGlobals "BadShare" = some (some (.ref e_BadShare)))
    (g_NotAhead : PySem.W.nsIn K mainGlobals "NotAhead" = some (some (.ref e_NotAhead)))
    (g_NoPage : PySem.W.nsIn K mainGlobals "NoPage" = some (some (.ref e_NoPage)))
    (g_BadMachine : PySem.W.nsIn K mainGlobals "BadMachine" = some (some (.ref e_BadMachine)))
    (g_BadText : PySem.W.nsIn K mainGlobals "BadText" = some (some (.ref e_BadText)))
    (g_BadTask : PySem.W.nsIn K mainGlobals "BadTask" = some (some (.ref e_BadTask)))
    (g_BadDeed : PySem.W.nsIn K mainGlobals "BadDeed" = some (some (.ref e_BadDeed)))
    (x_BadQuestion : ExR K e_HallError [e_BadQuestion, e_BadSeed, e_BadName, e_TooMany, e_Taken, e_NoMachine, e_NoTask, e_BadScore, e_NoRun, e_NotRanked, e_BadShare, e_NotAhead, e_NoPage, e_BadMachine, e_BadText, e_BadTask, e_BadDeed] 0 e_BadQuestion)
    (x_BadSeed : ExR K e_HallError [e_BadQuestion, e_BadSeed, e_BadName, e_TooMany, e_Taken, e_NoMachine, e_NoTask, e_BadScore, e_NoRun, e_NotRanked, e_BadShare, e_NotAhead, e_NoPage, e_BadMachine, e_BadText, e_BadTask, e_BadDeed] 1 e_BadSeed)
    {law_cd law_tb : Addr} (cc_law : cd36 = .ref law_cd)
    : ∃ fd : FuncData, (∀ (s : Shared) (v : Value), BindsTo s fd ⟨[v], []⟩ [("_law_script", v)]) ∧ ∀ base : Heap, K.In base → base.Ns mainGlobals mg → LamX.TabB base mg law_cd law_tb → FnOk l.prog w K mg base CX0 15 fa fd ["_law_script"] (spLawT K law_tb) := by
  have e := hfa.symm.trans (PySem.W.mg_of X G a36)
  cases e
  have F0 := fun_mk (st := s_is_number) l0 c0 k0
  have F1 := fun_mk (st := s_is_question) l1 c1 k1
  have F2 := fun_mk (st := s_is_seed) l2 c2 k2
  have F3 := fun_mk (st := s_is_divisor) l3 c3 k3
  have F4 := fun_mk (st := s_is_known) l4 c4 k4
  have F5 := fun_mk (st := s_is_test) l5 c5 k5
  have F6 := fun_mk (st := s_is_answer) l6 c6 k6
  have F7 := fun_mk (st := s_is_row) l7 c7 k7
  have F8 := fun_mk (st := s_check_machine) l8 c8 k8
  have F9 := fun_mk (st := s_check_question) l9 c9 k9
  have F10 := fun_mk (st := s_check_seed) l10 c10 k10
  have F11 := fun_mk (st := s_does_hold) l11 c11 k11
  have F12 := fun_mk (st := s_outcome) l12 c12 k12
  have F13 := fun_mk (st := s_run) l13 c13 k13
  have F14 := fun_mk (st := s_answered) l14 c14 k14
  have F15 := fun_mk (st := s_is_due) l15 c15 k15
  have F16 := fun_mk (st := s_is_twin) l16 c16 k16
  have F17 := fun_mk (st := s_is_asked) l17 c17 k17
  have F18 := fun_mk (st := s_is_framed) l18 c18 k18
  have F19 := fun_mk (st := s_check_task) l19 c19 k19
  have F20 := fun_mk (st := s_right_ones) l20 c20 k20
  have F21 := fun_mk (st := s_count_right) l21 c21 k21
  have F22 := fun_mk (st := s_check_run) l22 c22 k22
  have F23 := fun_mk (st := s_right) l23 c23 k23
  have F24 := fun_mk (st := s_score) l24 c24 k24
  have F25 := fun_mk (st := s_heart) l25 c25 k25
  have F26 := fun_mk (st := s_dice) l26 c26 k26
  have F27 := fun_mk (st := s_off) l27 c27 k27
  have F28 := fun_mk (st := s_mixed) l28 c28 k28
  have F29 := fun_mk (st := s_word_of) l29 c29 k29
  have F30 := fun_mk (st := s_are) l30 c30 k30
  have F31 := fun_mk (st := s_test) l31 c31 k31
  have F32 := fun_mk (st := s_answer) l32 c32 k32
  have F33 := fun_mk (st := s_machine) l33 c33 k33
  have F34 := fun_mk (st := s_told) l34 c34 k34
  have F35 := fun_mk (st := s_task) l35 c35 k35
  have F36 := fun_mk (st := s_law) l36 c36 k36
  have D14 : FunD K "answered" "answered" (defArgs s_answered) (defBody s_answered) (defScope s_answered) [] [("seed", (.int 0))] f14 _ := ⟨⟨_, _, _, _, _, _, _, _, _, _, rfl, l14, c14, .inl ⟨rfl, rfl⟩, .inr ⟨dk14, rfl, fun q hq => by rw [List.mem_singleton] at hq; subst hq; exact ⟨kd14_0, q14_0, r14_0⟩⟩⟩, k14⟩
  obtain ⟨ds14, v14, b14⟩ := D14.binds0 (ps := ["machine", "question", "seed"]) 2 (by simp) rfl fun D doc pm an cdv ct us ks h1 h2 => match us, ks, h1, h2 with | [_, _], [_], _, _ => ⟨_, _, _, _, _, _, rfl, rfl, rfl⟩
  let A : Adr := ⟨e_HallError, e_BadQuestion, e_BadSeed, e_BadName, e_TooMany, e_Taken, e_NoMachine, e_NoTask, e_BadScore, e_NoRun, e_NotRanked, e_BadShare, e_NotAhead, e_NoPage, e_BadMachine, e_BadText, e_BadTask, e_BadDeed, law_cd, law_tb, f0, PySem.W.fnOf "is_number" "is_number" (defArgs s_is_number) (defBody s_is_number) (defScope s_is_number) .none kV0 dc0 pm0 an0 cd0 ct0, f1, PySem.W.fnOf "is_question" "is_question" (defArgs s_is_question) (defBody s_is_question) (defScope s_is_question) .none kV1 dc1 pm1 an1 cd1 ct1, f2, PySem.W.fnOf "is_seed" "is_seed" (defArgs s_is_seed) (defBody s_is_seed) (defScope s_is_seed) .none kV2 dc2 pm2 an2 cd2 ct2, f3, PySem.W.fnOf "is_divisor" "is_divisor" (defArgs s_is_divisor) (defBody s_is_divisor) (defScope s_is_divisor) .none kV3 dc3 pm3 an3 cd3 ct3, f4, PySem.W.fnOf "is_known" "is_known" (defArgs s_is_known) (defBody s_is_known) (defScope s_is_known) .none kV4 dc4 pm4 an4 cd4 ct4, f5, PySem.W.fnOf "is_test" "is_test" (defArgs s_is_test) (defBody s_is_test) (defScope s_is_test) .none kV5 dc5 pm5 an5 cd5 ct5, f6, PySem.W.fnOf "is_answer" "is_answer" (defArgs s_is_answer) (defBody s_is_answer) (defScope s_is_answer) .none kV6 dc6 pm6 an6 cd6 ct6, f7, PySem.W.fnOf "is_row" "is_row" (defArgs s_is_row) (defBody s_is_row) (defScope s_is_row) .none kV7 dc7 pm7 an7 cd7 ct7, f8, PySem.W.fnOf "check_machine" "check_machine" (defArgs s_check_machine) (defBody s_check_machine) (defScope s_check_machine) .none kV8 dc8 pm8 an8 cd8 ct8, f9, PySem.W.fnOf "check_question" "check_question" (defArgs s_check_question) (defBody s_check_question) (defScope s_check_question) .none kV9 dc9 pm9 an9 cd9 ct9, f10, PySem.W.fnOf "check_seed" "check_seed" (defArgs s_check_seed) (defBody s_check_seed) (defScope s_check_seed) .none kV10 dc10 pm10 an10 cd10 ct10, f11, PySem.W.fnOf "does_hold" "does_hold" (defArgs s_does_hold) (defBody s_does_hold) (defScope s_does_hold) .none kV11 dc11 pm11 an11 cd11 ct11, f12, PySem.W.fnOf "outcome" "outcome" (defArgs s_outcome) (defBody s_outcome) (defScope s_outcome) .none kV12 dc12 pm12 an12 cd12 ct12, f13, PySem.W.fnOf "run" "run" (defArgs s_run) (defBody s_run) (defScope s_run) .none kV13 dc13 pm13 an13 cd13 ct13, f14, PySem.W.fnOf "answered" "answered" (defArgs s_answered) (defBody s_answered) (defScope s_answered) .none (.ref dk14) dc14 pm14 an14 cd14 ct14, ds14, f15, PySem.W.fnOf "is_due" "is_due" (defArgs s_is_due) (defBody s_is_due) (defScope s_is_due) .none kV15 dc15 pm15 an15 cd15 ct15, f16, PySem.W.fnOf "is_twin" "is_twin" (defArgs s_is_twin) (defBody s_is_twin) (defScope s_is_twin) .none kV16 dc16 pm16 an16 cd16 ct16, f17, PySem.W.fnOf "is_asked" "is_asked" (defArgs s_is_asked) (defBody s_is_asked) (defScope s_is_asked) .none kV17 dc17 pm17 an17 cd17 ct17, f18, PySem.W.fnOf "is_framed" "is_framed" (defArgs s_is_framed) (defBody s_is_framed) (defScope s_is_framed) .none kV18 dc18 pm18 an18 cd18 ct18, f19, PySem.W.fnOf "check_task" "check_task" (defArgs s_check_task) (defBody s_check_task) (defScope s_check_task) .none kV19 dc19 pm19 an19 cd19 ct19, f20, PySem.W.fnOf "right_ones" "right_ones" (defArgs s_right_ones) (defBody s_right_ones) (defScope s_right_ones) .none kV20 dc20 pm20 an20 cd20 ct20, f21, PySem.W.fnOf "count_right" "count_right" (defArgs s_count_right) (defBody s_count_right) (defScope s_count_right) .none kV21 dc21 pm21 an21 cd21 ct21, f22, PySem.W.fnOf "check_run" "check_run" (defArgs s_check_run) (defBody s_check_run) (defScope s_check_run) .none kV22 dc22 pm22 an22 cd22 ct22, f23, PySem.W.fnOf "right" "right" (defArgs s_right) (defBody s_right) (defScope s_right) .none kV23 dc23 pm23 an23 cd23 ct23, f24, PySem.W.fnOf "score" "score" (defArgs s_score) (defBody s_score) (defScope s_score) .none kV24 dc24 pm24 an24 cd24 ct24, f25, PySem.W.fnOf "heart" "heart" (defArgs s_heart) (defBody s_heart) (defScope s_heart) .none kV25 dc25 pm25 an25 cd25 ct25, f26, PySem.W.fnOf "_law_dice" "_law_dice" (defArgs s_dice) (defBody s_dice) (defScope s_dice) .none kV26 dc26 pm26 an26 cd26 ct26, f27, PySem.W.fnOf "_law_off" "_law_off" (defArgs s_off) (defBody s_off) (defScope s_off) .none kV27 dc27 pm27 an27 cd27 ct27, f28, PySem.W.fnOf "_law_mixed" "_law_mixed" (defArgs s_mixed) (defBody s_mixed) (defScope s_mixed) .none kV28 dc28 pm28 an28 cd28 ct28, f29, PySem.W.fnOf "_law_word_of" "_law_word_of" (defArgs s_word_of) (defBody s_word_of) (defScope s_word_of) .none kV29 dc29 pm29 an29 cd29 ct29, f30, PySem.W.fnOf "_law_are" "_law_are" (defArgs s_are) (defBody s_are) (defScope s_are) .none kV30 dc30 pm30 an30 cd30 ct30, f31, PySem.W.fnOf "_law_test" "_law_test" (defArgs s_test) (defBody s_test) (defScope s_test) .none kV31 dc31 pm31 an31 cd31 ct31, f32, PySem.W.fnOf "_law_answer" "_law_answer" (defArgs s_answer) (defBody s_answer) (defScope s_answer) .none kV32 dc32 pm32 an32 cd32 ct32, f33, PySem.W.fnOf "_law_machine" "_law_machine" (defArgs s_machine) (defBody s_machine) (defScope s_machine) .none kV33 dc33 pm33 an33 cd33 ct33, f34, PySem.W.fnOf "_law_told" "_law_told" (defArgs s_told) (defBody s_told) (defScope s_told) .none kV34 dc34 pm34 an34 cd34 ct34, f35, PySem.W.fnOf "_law_task" "_law_task" (defArgs s_task) (defBody s_task) (defScope s_task) .none kV35 dc35 pm35 an35 cd35 ct35, fa, PySem.W.fnOf "law" "law" (defArgs s_law) (defBody s_law) (defScope s_law) .none kV36 dc36 pm36 an36 cd36 ct36⟩
  have T : Txt K mg A := {
    n_ValueError := PySem.W.mg_none_of X G z_ValueError
    n_abs := PySem.W.mg_none_of X G z_abs
    n_all := PySem.W.mg_none_of X G z_all
    n_bool := PySem.W.mg_none_of X G z_bool
    n_enumerate := PySem.W.mg_none_of X G z_enumerate
    n_int := PySem.W.mg_none_of X G z_int
    n_isinstance := PySem.W.mg_none_of X G z_isinstance
    n_len := PySem.W.mg_none_of X G z_len
    n_list := PySem.W.mg_none_of X G z_list
    n_max := PySem.W.mg_none_of X G z_max
    n_range := PySem.W.mg_none_of X G z_range
    n_set := PySem.W.mg_none_of X G z_set
    n_sorted := PySem.W.mg_none_of X G z_sorted
    n_sum := PySem.W.mg_none_of X G z_sum
    n_tuple := PySem.W.mg_none_of X G z_tuple
    n_zip := PySem.W.mg_none_of X G z_zip
    m_comb := PySem.W.mg_of X G x_comb
    c_LAST_QUESTION := ⟨_, PySem.W.mg_of X G y_LAST_QUESTION, r_LAST_QUESTION⟩
    c_LAST_SEED := ⟨_, PySem.W.mg_of X G y_LAST_SEED, r_LAST_SEED⟩
    c_MOST_ROWS := ⟨_, PySem.W.mg_of X G y_MOST_ROWS, r_MOST_ROWS⟩
    c_MOST_KNOWN := ⟨_, PySem.W.mg_of X G y_MOST_KNOWN, r_MOST_KNOWN⟩
    c_LEAST_DIVISOR := ⟨_, PySem.W.mg_of X G y_LEAST_DIVISOR, r_LEAST_DIVISOR⟩
    c_MOST_DIVISOR := ⟨_, PySem.W.mg_of X G y_MOST_DIVISOR, r_MOST_DIVISOR⟩
    c_MOST_IN_ANSWER := ⟨_, PySem.W.mg_of X G y_MOST_IN_ANSWER, r_MOST_IN_ANSWER⟩
    c_MOST_QUESTIONS := ⟨_, PySem.W.mg_of X G y_MOST_QUESTIONS, r_MOST_QUESTIONS⟩
    c_MOST_DUE := ⟨_, PySem.W.mg_of X G y_MOST_DUE, r_MOST_DUE⟩
    c_MOST_WEIGHT := ⟨_, PySem.W.mg_of X G y_MOST_WEIGHT, r_MOST_WEIGHT⟩
    g_HallError := PySem.W.mg_of X G g_HallError
    g_BadQuestion := PySem.W.mg_of X G g_BadQuestion
    g_BadSeed := PySem.W.mg_of X G g_BadSeed
    g_BadName := PySem.W.mg_of X G g_BadName
    g_TooMany := PySem.W.mg_of X G g_TooMany
    g_Taken := PySem.W.mg_of X G g_Taken
    g_NoMachine := PySem.W.mg_of X G g_NoMachine
    g_NoTask := PySem.W.mg_of X G g_NoTask
    g_BadScore := PySem.W.mg_of X G g_BadScore
    g_NoRun := PySem.W.mg_of X G g_NoRun
    g_NotRanked := PySem.W.mg_of X G g_NotRanked
    g_BadShare := PySem.W.mg_of X G g_BadShare
    g_NotAhead := PySem.W.mg_of X G g_NotAhead
    g_NoPage := PySem.W.mg_of X G g_NoPage
    g_BadMachine := PySem.W.mg_of X G g_BadMachine
    g_BadText := PySem.W.mg_of X G g_BadText
    g_BadTask := PySem.W.mg_of X G g_BadTask
    g_BadDeed := PySem.W.mg_of X G g_BadDeed
    x_BadQuestion := x_BadQuestion
    x_BadSeed := x_BadSeed
    law_c := cc_law
    is_number := ⟨F0, PySem.W.mg_of X G a0, F0.binds (ps := ["value", "low", "high"]) fun _ _ _ _ _ _ us hl => match us, hl with | [_, _, _], _ => rfl⟩
    is_question := ⟨F1, PySem.W.mg_of X G a1, F1.binds (ps := ["value"]) fun _ _ _ _ _ _ us hl => match us, hl with | [_], _ => rfl⟩
    is_seed := ⟨F2, PySem.W.mg_of X G a2, F2.binds (ps := ["value"]) fun _ _ _ _ _ _ us hl => match us, hl with | [_], _ => rfl⟩
    is_divisor := ⟨F3, PySem.W.mg_of X G a3, F3.binds (ps := ["value"]) fun _ _ _ _ _ _ us hl => match us, hl with | [_], _ => rfl⟩
    is_known := ⟨F4, PySem.W.mg_of X G a4, F4.binds (ps := ["numbers"]) fun _ _ _ _ _ _ us hl => match us, hl with | [_], _ => rfl⟩
    is_test := ⟨F5, PySem.W.mg_of X G a5, F5.binds (ps := ["test"]) fun _ _ _ _ _ _ us hl => match us, hl with | [_], _ => rfl⟩
    is_answer := ⟨F6, PySem.W.mg_of X G a6, F6.binds (ps := ["answer"]) fun _ _ _ _ _ _ us hl => match us, hl with | [_], _ => rfl⟩
    is_row := ⟨F7, PySem.W.mg_of X G a7, F7.binds (ps := ["row"]) fun _ _ _ _ _ _ us hl => match us, hl with | [_], _ => rfl⟩
    check_machine := ⟨F8, PySem.W.mg_of X G a8, F8.binds (ps := ["machine"]) fun _ _ _ _ _ _ us hl => match us, hl with | [_], _ => rfl⟩
    check_question := ⟨F9, PySem.W.mg_of X G a9, F9.binds (ps := ["question"]) fun _ _ _ _ _ _ us hl => match us, hl with | [_], _ => rfl⟩
    check_seed := ⟨F10, PySem.W.mg_of X G a10, F10.binds (ps := ["seed"]) fun _ _ _ _ _ _ us hl => match us, hl with | [_], _ => rfl⟩
    does_hold := ⟨F11, PySem.W.mg_of X G a11, F11.binds (ps := ["test", "question", "seed"]) fun _ _ _ _ _ _ us hl => match us, hl with | [_, _, _], _ => rfl⟩
    outcome := ⟨F12, PySem.W.mg_of X G a12, F12.binds (ps := ["answer", "question"]) fun _ _ _ _ _ _ us hl => match us, hl with | [_, _], _ => rfl⟩
    run := ⟨F13, PySem.W.mg_of X G a13, F13.binds (ps := ["machine", "question", "seed"]) fun _ _ _ _ _ _ us hl => match us, hl with | [_, _, _], _ => rfl⟩
    answered := ⟨F14, PySem.W.mg_of X G a14, ⟨fun s us ws _ h1 h2 => match us, ws, h1, h2 with | [_, _], [_], _, _ => .of_eq rfl, fun r q => r.append q⟩, b14, v14⟩
    is_due := ⟨F15, PySem.W.mg_of X G a15, F15.binds (ps := ["value"]) fun _ _ _ _ _ _ us hl => match us, hl with | [_], _ => rfl⟩
    is_twin := ⟨F16, PySem.W.mg_of X G a16, F16.binds (ps := ["twin"]) fun _ _ _ _ _ _ us hl => match us, hl with | [_], _ => rfl⟩
    is_asked := ⟨F17, PySem.W.mg_of X G a17, F17.binds (ps := ["asked"]) fun _ _ _ _ _ _ us hl => match us, hl with | [_], _ => rfl⟩
    is_framed := ⟨F18, PySem.W.mg_of X G a18, F18.binds (ps := ["task"]) fun _ _ _ _ _ _ us hl => match us, hl with | [_], _ => rfl⟩
    check_task := ⟨F19, PySem.W.mg_of X G a19, F19.binds (ps := ["task"]) fun _ _ _ _ _ _ us hl => match us, hl with | [_], _ => rfl⟩
    right_ones := ⟨F20, PySem.W.mg_of X G a20, F20.binds (ps := ["machine", "task", "seed"]) fun _ _ _ _ _ _ us hl => match us, hl with | [_, _, _], _ => rfl⟩
    count_right := ⟨F21, PySem.W.mg_of X G a21, F21.binds (ps := ["machine", "task", "seed"]) fun _ _ _ _ _ _ us hl => match us, hl with | [_, _, _], _ => rfl⟩
    check_run := ⟨F22, PySem.W.mg_of X G a22, F22.binds (ps := ["machine", "task", "seed"]) fun _ _ _ _ _ _ us hl => match us, hl with | [_, _, _], _ => rfl⟩
    right := ⟨F23, PySem.W.mg_of X G a23, ⟨fun s us ws _ h1 h2 => match us, ws, h1, h2 with | [_, _], [_], _, _ => .of_eq rfl, fun r q => r.append q⟩⟩
    score := ⟨F24, PySem.W.mg_of X G a24, ⟨fun s us ws _ h1 h2 => match us, ws, h1, h2 with | [_, _], [_], _, _ => .of_eq rfl, fun r q => r.append q⟩⟩
    heart := ⟨F25, PySem.W.mg_of X G a25, ⟨fun s us ws _ h1 h2 => match us, ws, h1, h2 with | [_, _], [_], _, _ => .of_eq rfl, fun r q => r.append q⟩⟩
    dice := ⟨F26, PySem.W.mg_of X G a26, F26.binds (ps := ["_law_script", "_law_k"]) fun _ _ _ _ _ _ us hl => match us, hl with | [_, _], _ => rfl⟩
    off := ⟨F27, PySem.W.mg_of X G a27, F27.binds (ps := ["_law_d", "_law_upto"]) fun _ _ _ _ _ _ us hl => match us, hl with | [_, _], _ => rfl⟩
    mixed := ⟨F28, PySem.W.mg_of X G a28, F28.binds (ps := ["_law_d", "_law_row"]) fun _ _ _ _ _ _ us hl => match us, hl with | [_, _], _ => rfl⟩
    word_of := ⟨F29, PySem.W.mg_of X G a29, F29.binds (ps := ["_law_work"]) fun _ _ _ _ _ _ us hl => match us, hl with | [_], _ => rfl⟩
    are := ⟨F30, PySem.W.mg_of X G a30, F30.binds (ps := ["_law_works", "_law_name"]) fun _ _ _ _ _ _ us hl => match us, hl with | [_, _], _ => rfl⟩
    test := ⟨F31, PySem.W.mg_of X G a31, F31.binds (ps := ["_law_d"]) fun _ _ _ _ _ _ us hl => match us, hl with | [_], _ => rfl⟩
    answer := ⟨F32, PySem.W.mg_of X G a32, F32.binds (ps := ["_law_d"]) fun _ _ _ _ _ _ us hl => match us, hl with | [_], _ => rfl⟩
    machine := ⟨F33, PySem.W.mg_of X G a33, F33.binds (ps := ["_law_d"]) fun _ _ _ _ _ _ us hl => match us, hl with | [_], _ => rfl⟩
    told := ⟨F34, PySem.W.mg_of X G a34, F34.binds (ps := ["_law_machine_here", "_law_question", "_law_grain"]) fun _ _ _ _ _ _ us hl => match us, hl with | [_, _, _], _ => rfl⟩
    task := ⟨F35, PySem.W.mg_of X G a35, F35.binds (ps := ["_law_d", "_law_machine_here"]) fun _ _ _ _ _ _ us hl => match us, hl with | [_, _], _ => rfl⟩
    law := ⟨F36, PySem.W.mg_of X G a36, F36.binds (ps := ["_law_script"]) fun _ _ _ _ _ _ us hl => match us, hl with | [_], _ => rfl⟩
  }
  exact ⟨_, fun s v => .of_eq rfl, fun base _ _ TB_law => ok_law (A := A) T TB_law⟩
noncomputable section
theorem h_int {K : PySem.W.Frag} {x : Str} {i : Int} (c : (He.Fa.int x i).ok K = true) : ∃ v, PySem.W.nsIn K mainGlobals x = some (some v) ∧ RelV (.int i) v := by
  have c2 : (match PySem.W.nsIn K mainGlobals x with
    | some (some (.int j _)) => decide (j = i)
    | _ => false) = true := c
  cases e : PySem.W.nsIn K mainGlobals x with
  | none =>
    rw [e] at c2
    cases c2
  | some o =>
    rw [e] at c2
    cases o with
    | none => cases c2
    | some v =>
      cases v with
      | int j t =>
        have ej : j = i := of_decide_eq_true c2
        exact ⟨_, rfl, t, by rw [ej]⟩
      | _ => cases c2
theorem h_str {K : PySem.W.Frag} {x z : Str} (c : (He.Fa.str x z).ok K = true) : ∃ v, PySem.W.nsIn K mainGlobals x = some (some v) ∧ RelV (.str z) v := by
  have c2 : (match PySem.W.nsIn K mainGlobals x with
    | some (some (.str y _)) => decide (y = z)
    | _ => false) = true := c
  cases e : PySem.W.nsIn K mainGlobals x with
  | none =>
    rw [e] at c2
    cases c2
  | some o =>
    rw [e] at c2
    cases o with
    | none => cases c2
    | some v =>
      cases v with
      | str y t =>
        have ej : y = z := of_decide_eq_true c2
        exact ⟨_, rfl, t, by rw [ej]⟩
      | _ => cases c2
theorem hfacts {l : PySem.W.OpenLaw} {w : World} {K : PySem.W.Frag} {h : Heap} {mg : Str → Option Value} {fa : Addr} (X : K.In h) (G : h.Ns mainGlobals mg) (hm : mg "law" = some (.ref fa)) (c : He.SaysE hfa hfn K) (ex : hex K = true)
    : ∃ fd : FuncData, (∀ (s : Shared) (v : Value), BindsTo s fd ⟨[v], []⟩ [("_law_script", v)]) ∧ ∀ base : Heap, K.In base → base.Ns mainGlobals mg → LamX.TabB base mg (He.cT K ("law", none)).1 (He.cT K ("law", none)).2 → FnOk l.prog w K mg base CX0 15 fa fd ["_law_script"] (spLawT K (He.cT K ("law", none)).2) := by
  obtain ⟨ex, exx⟩ := He.ba ex
  obtain ⟨exx, ox_answered⟩ := He.ba exx
  obtain ⟨xg, xr0⟩ := He.ba exx
  obtain ⟨xx_BadQuestion, xr1⟩ := He.ba xr0
  obtain ⟨xx_BadSeed, xr2⟩ := He.ba xr1
  obtain ⟨_, _, _, _, _, _, _, _, _, l0, c0⟩ := c.def_ 0 (d := hd_is_number) rfl
  obtain ⟨_, _, _, _, _, _, _, _, _, l1, c1⟩ := c.def_ 1 (d := hd_is_question) rfl
  obtain ⟨_, _, _, _, _, _, _, _, _, l2, c2⟩ := c.def_ 2 (d := hd_is_seed) rfl
  obtain ⟨_, _, _, _, _, _, _, _, _, l3, c3⟩ := c.def_ 3 (d := hd_is_divisor) rfl
  obtain ⟨_, _, _, _, _, _, _, _, _, l4, c4⟩ := c.def_ 4 (d := hd_is_known) rfl
  obtain ⟨_, _, _, _, _, _, _, _, _, l5, c5⟩ := c.def_ 5 (d := hd_is_test) rfl
  obtain ⟨_, _, _, _, _, _, _, _, _, l6, c6⟩ := c.def_ 6 (d := hd_is_answer) rfl
  obtain ⟨_, _, _, _, _, _, _, _, _, l7, c7⟩ := c.def_ 7 (d := hd_is_row) rfl
  obtain ⟨_, _, _, _, _, _, _, _, _, l8, c8⟩ := c.def_ 8 (d := hd_check_machine) rfl
  obtain ⟨_, _, _, _, _, _, _, _, _, l9, c9⟩ := c.def_ 9 (d := hd_check_question) rfl
  obtain ⟨_, _, _, _, _, _, _, _, _, l10, c10⟩ := c.def_ 10 (d := hd_check_seed) rfl
  obtain ⟨_, _, _, _, _, _, _, _, _, l11, c11⟩ := c.def_ 11 (d := hd_does_hold) rfl
  obtain ⟨_, _, _, _, _, _, _, _, _, l12, c12⟩ := c.def_ 12 (d := hd_outcome) rfl
  obtain ⟨_, _, _, _, _, _, _, _, _, l13, c13⟩ := c.def_ 13 (d := hd_run) rfl
  obtain ⟨_, _, _, _, _, _, _, _, _, l14, c14⟩ := c.def_ 14 (d := hd_answered) rfl
  obtain ⟨_, _, ek14, q14, r14⟩ := omB_ok ox_answered l14
  rw [ek14] at l14
  obtain ⟨_, _, _, _, _, _, _, _, _, l15, c15⟩ := c.def_ 15 (d := hd_is_due) rfl
  obtain ⟨_, _, _, _, _, _, _, _, _, l16, c16⟩ := c.def_ 16 (d := hd_is_twin) rfl
  obtain ⟨_, _, _, _, _, _, _, _, _, l17, c17⟩ := c.def_ 17 (d := hd_is_asked) rfl
  obtain ⟨_, _, _, _, _, _, _, _, _, l18, c18⟩ := c.def_ 18 (d := hd_is_framed) rfl
  obtain ⟨_, _, _, _, _, _, _, _, _, l19, c19⟩ := c.def_ 19 (d := hd_check_task) rfl
  obtain ⟨_, _, _, _, _, _, _, _, _, l20, c20⟩ := c.def_ 20 (d := hd_right_ones) rfl
  obtain ⟨_, _, _, _, _, _, _, _, _, l21, c21⟩ := c.def_ 21 (d := hd_count_right) rfl
  obtain ⟨_, _, _, _, _, _, _, _, _, l22, c22⟩ := c.def_ 22 (d := hd_check_run) rfl
  obtain ⟨_, _, _, _, _, _, _, _, _, l23, c23⟩ := c.def_ 23 (d := hd_right) rfl
  obtain ⟨_, _, _, _, _, _, _, _, _, l24, c24⟩ := c.def_ 24 (d := hd_score) rfl
  obtain ⟨_, _, _, _, _, _, _, _, _, l25, c25⟩ := c.def_ 25 (d := hd_heart) rfl
  obtain ⟨_, _, _, _, _, _, _, _, _, l26, c26⟩ := c.def_ 26 (d := hd_dice) rfl
  obtain ⟨_, _, _, _, _, _, _, _, _, l27, c27⟩ := c.def_ 27 (d := hd_off) rfl
  obtain ⟨_, _, _, _, _, _, _, _, _, l28, c28⟩ := c.def_ 28 (d := hd_mixed) rfl
  obtain ⟨_, _, _, _, _, _, _, _, _, l29, c29⟩ := c.def_ 29 (d := hd_word_of) rfl
  obtain ⟨_, _, _, _, _, _, _, _, _, l30, c30⟩ := c.def_ 30 (d := hd_are) rfl
  obtain ⟨_, _, _, _, _, _, _, _, _, l31, c31⟩ := c.def_ 31 (d := hd_test) rfl
  obtain ⟨_, _, _, _, _, _, _, _, _, l32, c32⟩ := c.def_ 32 (d := hd_answer) rfl
  obtain ⟨_, _, _, _, _, _, _, _, _, l33, c33⟩ := c.def_ 33 (d := hd_machine) rfl
  obtain ⟨_, _, _, _, _, _, _, _, _, l34, c34⟩ := c.def_ 34 (d := hd_told) rfl
  obtain ⟨_, _, _, _, _, _, _, _, _, l35, c35⟩ := c.def_ 35 (d := hd_task) rfl
  obtain ⟨_, _, _, _, _, _, _, _, _, l36, c36⟩ := c.def_ 36 (d := hd_law) rfl
  obtain ⟨_, y_LAST_QUESTION, r_LAST_QUESTION⟩ := h_int (c.fact 16 (f := .int "LAST_QUESTION" 9999) rfl)
  obtain ⟨_, y_LAST_SEED, r_LAST_SEED⟩ := h_int (c.fact 17 (f := .int "LAST_SEED" 999) rfl)
  obtain ⟨_, y_MOST_ROWS, r_MOST_ROWS⟩ := h_int (c.fact 18 (f := .int "MOST_ROWS" 12) rfl)
  obtain ⟨_, y_MOST_KNOWN, r_MOST_KNOWN⟩ := h_int (c.fact 19 (f := .int "MOST_KNOWN" 8) rfl)
  obtain ⟨_, y_LEAST_DIVISOR, r_LEAST_DIVISOR⟩ := h_int (c.fact 20 (f := .int "LEAST_DIVISOR" 2) rfl)
  obtain ⟨_, y_MOST_DIVISOR, r_MOST_DIVISOR⟩ := h_int (c.fact 21 (f := .int "MOST_DIVISOR" 99) rfl)
  obtain ⟨_, y_MOST_IN_ANSWER, r_MOST_IN_ANSWER⟩ := h_int (c.fact 22 (f := .int "MOST_IN_ANSWER" 9999) rfl)
  obtain ⟨_, y_MOST_QUESTIONS, r_MOST_QUESTIONS⟩ := h_int (c.fact 23 (f := .int "MOST_QUESTIONS" 16) rfl)
  obtain ⟨_, y_MOST_DUE, r_MOST_DUE⟩ := h_int (c.fact 24 (f := .int "MOST_DUE" 99999999) rfl)
  obtain ⟨_, y_MOST_WEIGHT, r_MOST_WEIGHT⟩ := h_int (c.fact 25 (f := .int "MOST_WEIGHT" 9) rfl)
  exact all_mk X G hm (He.eqO_ok (c.fact 26 (f := .glo "is_number") rfl)) l0 c0 (c.fact 27 (f := .keep "is_number") rfl) (He.eqO_ok (c.fact 28 (f := .glo "is_question") rfl)) l1 c1 (c.fact 29 (f := .keep "is_question") rfl) (He.eqO_ok (c.fact 30 (f := .glo "is_seed") rfl)) l2 c2 (c.fact 31 (f := .keep "is_seed") rfl) (He.eqO_ok (c.fact 32 (f := .glo "is_divisor") rfl)) l3 c3 (c.fact 33 (f := .keep "is_divisor") rfl) (He.eqO_ok (c.fact 34 (f := .glo "is_known") rfl)) l4 c4 (c.fact 35 (f := .keep "is_known") rfl) (He.eqO_ok (c.fact 36 (f := .glo "is_test") rfl)) l5 c5 (c.fact 37 (f := .keep "is_test") rfl) (He.eqO_ok (c.fact 38 (f := .glo "is_answer") rfl)) l6 c6 (c.fact 39 (f := .keep "is_answer") rfl) (He.eqO_ok (c.fact 40 (f := .glo "is_row") rfl)) l7 c7 (c.fact 41 (f := .keep "is_row") rfl) (He.eqO_ok (c.fact 42 (f := .glo "check_machine") rfl)) l8 c8 (c.fact 43 (f := .keep "check_machine") rfl) (He.eqO_ok (c.fact 44 (f := .glo "check_question") rfl)) l9 c9 (c.fact 45 (f := .keep "check_question") rfl) (He.eqO_ok (c.fact 46 (f := .glo "check_seed") rfl)) l10 c10 (c.fact 47 (f := .keep "check_seed") rfl) (He.eqO_ok (c.fact 48 (f := .glo "does_hold") rfl)) l11 c11 (c.fact 49 (f := .keep "does_hold") rfl) (He.eqO_ok (c.fact 50 (f := .glo "outcome") rfl)) l12 c12 (c.fact 51 (f := .keep "outcome") rfl) (He.eqO_ok (c.fact 52 (f := .glo "run") rfl)) l13 c13 (c.fact 53 (f := .keep "run") rfl) (He.eqO_ok (c.fact 54 (f := .glo "answered") rfl)) l14 c14 (c.fact 55 (f := .keep "answered") rfl) q14 r14 (He.eqO_ok (c.fact 56 (f := .glo "is_due") rfl)) l15 c15 (c.fact 57 (f := .keep "is_due") rfl) (He.eqO_ok (c.fact 58 (f := .glo "is_twin") rfl)) l16 c16 (c.fact 59 (f := .keep "is_twin") rfl) (He.eqO_ok (c.fact 60 (f := .glo "is_asked") rfl)) l17 c17 (c.fact 61 (f := .keep "is_asked") rfl) (He.eqO_ok (c.fact 62 (f := .glo "is_framed") rfl)) l18 c18 (c.fact 63 (f := .keep "is_framed") rfl) (He.eqO_ok (c.fact 64 (f := .glo "check_task") rfl)) l19 c19 (c.fact 65 (f := .keep "check_task") rfl) (He.eqO_ok (c.fact 66 (f := .glo "right_ones") rfl)) l20 c20 (c.fact 67 (f := .keep "right_ones") rfl) (He.eqO_ok (c.fact 68 (f := .glo "count_right") rfl)) l21 c21 (c.fact 69 (f := .keep "count_right") rfl) (He.eqO_ok (c.fact 70 (f := .glo "check_run") rfl)) l22 c22 (c.fact 71 (f := .keep "check_run") rfl) (He.eqO_ok (c.fact 72 (f := .glo "right") rfl)) l23 c23 (c.fact 73 (f := .keep "right") rfl) (He.eqO_ok (c.fact 74 (f := .glo "score") rfl)) l24 c24 (c.fact 75 (f := .keep "score") rfl) (He.eqO_ok (c.fact 76 (f := .glo "heart") rfl)) l25 c25 (c.fact 77 (f := .keep "heart") rfl) (He.eqO_ok (c.fact 78 (f := .glo "_law_dice") rfl)) l26 c26 (c.fact 79 (f := .keep "_law_dice") rfl) (He.eqO_ok (c.fact 80 (f := .glo "_law_off") rfl)) l27 c27 (c.fact 81 (f := .keep "_law_off") rfl) (He.eqO_ok (c.fact 82 (f := .glo "_law_mixed") rfl)) l28 c28 (c.fact 83 (f := .keep "_law_mixed") rfl) (He.eqO_ok (c.fact 84 (f := .glo "_law_word_of") rfl)) l29 c29 (c.fact 85 (f := .keep "_law_word_of") rfl) (He.eqO_ok (c.fact 86 (f := .glo "_law_are") rfl)) l30 c30 (c.fact 87 (f := .keep "_law_are") rfl) (He.eqO_ok (c.fact 88 (f := .glo "_law_test") rfl)) l31 c31 (c.fact 89 (f := .keep "_law_test") rfl) (He.eqO_ok (c.fact 90 (f := .glo "_law_answer") rfl)) l32 c32 (c.fact 91 (f := .keep "_law_answer") rfl) (He.eqO_ok (c.fact 92 (f := .glo "_law_machine") rfl)) l33 c33 (c.fact 93 (f := .keep "_law_machine") rfl) (He.eqO_ok (c.fact 94 (f := .glo "_law_told") rfl)) l34 c34 (c.fact 95 (f := .keep "_law_told") rfl) (He.eqO_ok (c.fact 96 (f := .glo "_law_task") rfl)) l35 c35 (c.fact 97 (f := .keep "_law_task") rfl) (He.eqO_ok (c.fact 98 (f := .glo "law") rfl)) l36 c36 (c.fact 99 (f := .keep "law") rfl) (He.eqO_ok (c.fact 0 (f := .free "ValueError") rfl)) (He.eqO_ok (c.fact 1 (f := .free "abs") rfl)) (He.eqO_ok (c.fact 2 (f := .free "all") rfl)) (He.eqO_ok (c.fact 3 (f := .free "bool") rfl)) (He.eqO_ok (c.fact 4 (f := .free "enumerate") rfl)) (He.eqO_ok (c.fact 5 (f := .free "int") rfl)) (He.eqO_ok (c.fact 6 (f := .free "isinstance") rfl)) (He.eqO_ok (c.fact 7 (f := .free "len") rfl)) (He.eqO_ok (c.fact 8 (f := .free "list") rfl)) (He.eqO_ok (c.fact 9 (f := .free "max") rfl)) (He.eqO_ok (c.fact 10 (f := .free "range") rfl)) (He.eqO_ok (c.fact 11 (f := .free "set") rfl)) (He.eqO_ok (c.fact 12 (f := .free "sorted") rfl)) (He.eqO_ok (c.fact 13 (f := .free "sum") rfl)) (He.eqO_ok (c.fact 14 (f := .free "tuple") rfl)) (He.eqO_ok (c.fact 15 (f := .free "zip") rfl)) (He.eqO_ok ex) y_LAST_QUESTION r_LAST_QUESTION y_LAST_SEED r_LAST_SEED y_MOST_ROWS r_MOST_ROWS y_MOST_KNOWN r_MOST_KNOWN y_LEAST_DIVISOR r_LEAST_DIVISOR y_MOST_DIVISOR r_MOST_DIVISOR y_MOST_IN_ANSWER r_MOST_IN_ANSWER y_MOST_QUESTIONS r_MOST_QUESTIONS y_MOST_DUE r_MOST_DUE y_MOST_WEIGHT r_MOST_WEIGHT (He.eqO_ok (List.all_eq_true.mp xg "HallError" (List.mem_of_getElem? (i := 0) rfl))) (He.eqO_ok (List.all_eq_true.mp xg "BadQuestion" (List.mem_of_getElem? (i := 1) rfl))) (He.eqO_ok (List.all_eq_true.mp xg "BadSeed" (List.mem_of_getElem? (i := 2) rfl))) (He.eqO_ok (List.all_eq_true.mp xg "BadName" (List.mem_of_getElem? (i := 3) rfl))) (He.eqO_ok (List.all_eq_true.mp xg "TooMany" (List.mem_of_getElem? (i := 4) rfl))) (He.eqO_ok (List.all_eq_true.mp xg "Taken" (List.mem_of_getElem? (i := 5) rfl))) (He.eqO_ok (List.all_eq_true.mp xg "NoMachine" (List.mem_of_getElem? (i := 6) rfl))) (He.eqO_ok (List.all_eq_true.mp xg "NoTask" (List.mem_of_getElem? (i := 7) rfl))) (He.eqO_ok (List.all_eq_true.mp xg "BadScore" (List.mem_of_getElem? (i := 8) rfl))) (He.eqO_ok (List.all_eq_true.mp xg "NoRun" (List.mem_of_getElem? (i := 9) rfl))) (He.eqO_ok (List.all_eq_true.mp xg "NotRanked" (List.mem_of_getElem? (i := 10) rfl))) (He.eqO_ok (List.all_eq_true.mp xg "BadShare" (List.mem_of_getElem? (i := 11) rfl))) (He.eqO_ok (List.all_eq_true.mp xg "NotAhead" (List.mem_of_getElem? (i := 12) rfl))) (He.eqO_ok (List.all_eq_true.mp xg "NoPage" (List.mem_of_getElem? (i := 13) rfl))) (He.eqO_ok (List.all_eq_true.mp xg "BadMachine" (List.mem_of_getElem? (i := 14) rfl))) (He.eqO_ok (List.all_eq_true.mp xg "BadText" (List.mem_of_getElem? (i := 15) rfl))) (He.eqO_ok (List.all_eq_true.mp xg "BadTask" (List.mem_of_getElem? (i := 16) rfl))) (He.eqO_ok (List.all_eq_true.mp xg "BadDeed" (List.mem_of_getElem? (i := 17) rfl))) (exRB_ok xx_BadQuestion) (exRB_ok xx_BadSeed) (code_of l36 c36)
end
end Mh

open PySem PySem.W PyProof.Rows in
set_option maxRecDepth 100000 in
set_option maxHeartbeats 0 in
theorem PySem.Challenge.cw_measurehall_k03_questions_and_seeds_refu_holds : PySem.Challenge.rw_measurehall_k03_questions_and_seeds_refu.Holds := by
  w_on; o_law
  refine HandSHeadRun.head_imp (r := OpenLaw.row PySem.Challenge.rw_measurehall_k03_questions_and_seeds_refu) (q := Mh.hq) (H := Mh.hhook) (ob := Mh.hob) (M := 12000) (loose := Mh.hnames) (d := HandSHeadRun.topDef (OpenLaw.row PySem.Challenge.rw_measurehall_k03_questions_and_seeds_refu).prog 69) (kwd := []) Mh.hob_eq
    Mh.hrun (by kernel_rfl) (by kernel_rfl) (by kernel_rfl) (by rfl) (by first | assumption | decide +kernel) (by decide +kernel) ⟨rfl, rfl, rfl, rfl, rfl, by decide +kernel⟩ ?hw ?hc
  case hw => w_witness2
  case hc =>
    refine Mh.walk_tabE (l := PySem.Challenge.rw_measurehall_k03_questions_and_seeds_refu) (n := 63) (k := 15) (x := "_law_script") (CX := L2.CX0) rfl (by decide) (by kernel_rfl) ⟨rfl, by decide, by decide⟩ ?F (fun _ _ _ _ z => z)
    intro w mg fa h Y G hmg0
    obtain ⟨K, KX, c, tabs⟩ := Y
    obtain ⟨c1, c2⟩ := Prod.mk.inj c
    have hmg : mg ("law" : PySem.Str) = some (.ref fa) := by
      have e : (HandSHeadRun.topDef (OpenLaw.row PySem.Challenge.rw_measurehall_k03_questions_and_seeds_refu).prog 69).name = ("law" : PySem.Str) := by kernel_rfl
      rw [← e]
      exact hmg0
    obtain ⟨fd, hb, hF⟩ := Mh.hfacts (l := PySem.Challenge.rw_measurehall_k03_questions_and_seeds_refu) (w := w) KX G hmg c1 c2
    have tb := tabs ("law", none) List.mem_cons_self
    have one : ∀ p ∈ [He.cT K ("law", none)], p = He.cT K ("law", none) := fun p hp => List.mem_singleton.mp hp
    refine ⟨K, KX, fd, [He.cT K ("law", none)], Mh.spLawT K (He.cT K ("law", none)).2, fun p hp => ?_, fun p hp => ?_, fun p hp => ?_, hb, fun H a ns hl _ hT hS => ⟨a, ns, rfl, hS, hl, hT _ List.mem_cons_self, fun _ => rfl⟩, fun base hK hN hTB => hF base hK hN (hTB _ List.mem_cons_self)⟩
    · rw [one p hp]
      exact tb.2.2
    · rw [one p hp]
      exact tb.2.1
    · rw [one p hp]
      exact PySem.W.codeHd_of_K KX tb.1
