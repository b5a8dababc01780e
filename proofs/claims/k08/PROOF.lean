import PyProof.Rows.All
import Wide.All
import OpenK.AllK
import Wide.FinOn
import HandS.ForMost
import HandS.IsInst
import HandS.Strs
import HandS.SetFor
import HandS.TupAny
import HandS.Zip
import HandS.Walk
import HandS.Conv
import KE.GoesEnum
import HandS.Evl
import HandS.Defaults
import HandS.DictComp
import HandS.Gcd
import KE.RegKMathGC
import PySem.Challenge.RW_measurehall_k08_learnt_by_heart
set_option Elab.async false
set_option linter.all false
set_option maxRecDepth 100000
set_option maxHeartbeats 4000000
/-! Rules that the laws of Measurehall want beside the hand layer: match over tuples, enumerate over a tuple, set of a list of ints. -/
namespace Mh
open PySem L2

/-! ### match -/
abbrev BS := Option (List (Str × V))
/-- what is caught, by values and by the machine's values -/
def RelB : BS → Option (List (Str × Value)) → Prop
  | none, none => True
  | some l, some m => KV l m
  | _, _ => False
theorem kv_app {a b : List (Str × V)} {c d : List (Str × Value)} (h : KV a c) (g : KV b d) : KV (a ++ b) (c ++ d) := by
  induction h with
  | nil => exact g
  | cons r _ ih => exact .cons r ih
abbrev TP := V → St → Hp → (BS → Hp → Prop) → Prop
abbrev TPs := List V → St → Hp → (BS → Hp → Prop) → Prop
abbrev TC := V → TS
structure PP (X : Cx) (p : Pattern) (t : TP) : Prop where
  run : ∀ (pins : List (Addr × Obj)) (s : Shared) (σ : St) (H : Hp) (v : V) (u : Value) (Q : BS → Hp → Prop), Inv X pins σ H s → RelV v u → t v σ H Q →
    wpAny (model X.prog X.w) X.A (matchPattern p X.env u) (fun r s1 => ∃ r' H1, Inv X pins σ H1 s1 ∧ RelB r' r ∧ Q r' H1) X.xe s
structure PPq (X : Cx) (ps : List Pattern) (t : TPs) : Prop where
  run : ∀ (pins : List (Addr × Obj)) (s : Shared) (σ : St) (H : Hp) (vs : List V) (us : List Value) (Q : BS → Hp → Prop), Inv X pins σ H s → Vals vs us → vs.length = ps.length → t vs σ H Q →
    wpAny (model X.prog X.w) X.A (matchEach ps X.env us) (fun r s1 => ∃ r' H1, Inv X pins σ H1 s1 ∧ RelB r' r ∧ Q r' H1) X.xe s
structure PPo (X : Cx) (ps : List Pattern) (t : TP) : Prop where
  run : ∀ (pins : List (Addr × Obj)) (s : Shared) (σ : St) (H : Hp) (v : V) (u : Value) (Q : BS → Hp → Prop), Inv X pins σ H s → RelV v u → t v σ H Q →
    wpAny (model X.prog X.w) X.A (matchFirst ps X.env u) (fun r s1 => ∃ r' H1, Inv X pins σ H1 s1 ∧ RelB r' r ∧ Q r' H1) X.xe s
structure PCs (X : Cx) (cs : List MatchCase) (t : TC) : Prop where
  run : ∀ (fst : Bool) (pins : List (Addr × Obj)) (s : Shared) (σ : St) (H : Hp) (v : V) (u : Value) (D : Ends), Inv X pins σ H s → RelV v u → t v D σ H →
    wpAny (model X.prog X.w) X.A (matchCases cs X.env u fst) (SP X pins D) X.xe s
section
variable {X : Cx}
/-- a text as a pattern -/
def mStr (x : Str) : TP := fun v _ H Q => scal v (.str x) = true ∧ if v = .str x then Q (some []) H else Q none H
theorem ifp {c A B : Prop} [Decidable c] (h : c) (a : A) : if c then A else B := by
  rw [if_pos h]
  exact a
theorem ifn {c A B : Prop} [Decidable c] (h : ¬ c) (b : B) : if c then A else B := by
  rw [if_neg h]
  exact b
theorem pp_str {x : Str} {j : Nat} {p1 p2 : Pos} : PP X (.MatchValue (.Constant (.str x) j p1) p2) (mStr x) := by
  refine ⟨fun pins s σ H v u Q I r h => ?_⟩
  obtain ⟨hs, q⟩ := h
  refine wpAny_matchPattern_Value ?_
  refine thn ((pe_str (X := X)).run pins s σ H (fun y H1 => y = .str x ∧ H1 = H) I ⟨rfl, rfl⟩) fun c s1 ⟨y, H1, I1, r1, e1, e2⟩ => ?_
  subst e1 e2
  refine thn (op_eq (X := X) pins s1 σ H1 v (.str x) u c (fun y H2 => y = .bl (decide (v = .str x)) ∧ H2 = H1) I1 r r1 ⟨hs, rfl, rfl⟩) fun d s2 ⟨y, H2, I2, r2, e1, e2⟩ => ?_
  subst e1 e2
  cases r2
  refine wpAny_truthy_bool ?_
  by_cases hv : v = .str x
  · rw [decide_eq_true hv]
    refine ⟨some [], H2, I2, .nil, ?_⟩
    rw [if_pos hv] at q
    exact q
  · rw [decide_eq_false hv]
    refine ⟨none, H2, I2, True.intro, ?_⟩
    rw [if_neg hv] at q
    exact q
/-- a name as a pattern; _ -/
def mName (x : Str) : TP := fun v _ H Q => Q (some [(x, v)]) H
def mAny : TP := fun _ _ H Q => Q (some []) H
theorem pp_name {x : Str} {p : Pos} : PP X (.MatchAs none (some x) p) (mName x) :=
  ⟨fun pins s σ H v u Q I r h => wpAny_matchPattern_Capture ⟨some [(x, v)], H, I, .cons ⟨rfl, r⟩ .nil, h⟩⟩
theorem pp_any {p : Pos} : PP X (.MatchAs none none p) mAny :=
  ⟨fun pins s σ H v u Q I r h => wpAny_matchPattern_Capture ⟨some [], H, I, .nil, h⟩⟩
/-- one of some texts -/
def oNil : TP := fun _ _ H Q => Q none H
def oCons (t u : TP) : TP := fun v σ H Q => t v σ H fun r H1 => match r with
  | some bs => Q (some bs) H1
  | none => u v σ H1 Q
theorem ppo_nil : PPo X [] oNil := ⟨fun pins s σ H v u Q I r h => wpAny_matchFirst_nil ⟨none, H, I, True.intro, h⟩⟩
theorem ppo_cons {p : Pattern} {ps : List Pattern} {t u : TP} (hp : PP X p t) (hq : PPo X ps u) : PPo X (p :: ps) (oCons t u) := by
  refine ⟨fun pins s σ H v w' Q I r h => wpAny_matchFirst_cons (thn (hp.run pins s σ H v w' _ I r h) fun b s1 ⟨b', H1, I1, rb, q⟩ => ?_)⟩
  cases b with
  | none =>
    cases b' with
    | none => exact hq.run pins s1 σ H1 v w' Q I1 r q
    | some _ => exact (show False from rb).elim
  | some l =>
    cases b' with
    | none => exact (show False from rb).elim
    | some l' => exact ⟨some l', H1, I1, rb, q⟩
def mOr (t : TP) : TP := fun v σ H Q => t v σ H fun r H1 => match r with
  | some _ => Q (some []) H1
  | none => Q none H1
theorem pp_or {ps : List Pattern} {t : TP} {p : Pos} (hp : PPo X ps t) (hn : namesOfAll (ps.take 1) = [] := by rfl) : PP X (.MatchOr ps p) (mOr t) := by
  refine ⟨fun pins s σ H v u Q I r h => wpAny_matchPattern_Or (thn (hp.run pins s σ H v u _ I r h) fun b s1 ⟨b', H1, I1, rb, q⟩ => ?_)⟩
  cases b with
  | none =>
    cases b' with
    | none => exact ⟨none, H1, I1, True.intro, q⟩
    | some _ => exact (show False from rb).elim
  | some l =>
    cases b' with
    | none => exact (show False from rb).elim
    | some l' =>
      refine ⟨some [], H1, I1, ?_, q⟩
      rw [hn]
      exact .nil
/-- the items, from the left -/
def qNil : TPs := fun _ _ H Q => Q (some []) H
def qCons (t : TP) (u : TPs) : TPs := fun vs σ H Q => ∃ v r, vs = v :: r ∧ t v σ H fun b H1 => match b with
  | none => Q none H1
  | some bs => u r σ H1 fun c H2 => match c with
    | none => Q none H2
    | some cs => Q (some (bs ++ cs)) H2
theorem ppq_nil : PPq X [] qNil := ⟨fun pins s σ H vs us Q I r _ h => wpAny_matchEach_nil ⟨some [], H, I, .nil, h⟩⟩
theorem ppq_cons {p : Pattern} {ps : List Pattern} {t : TP} {u : TPs} (hp : PP X p t) (hq : PPq X ps u) (hs : p.isStar = false := by rfl) : PPq X (p :: ps) (qCons t u) := by
  refine ⟨fun pins s σ H vs us Q I r hl h => ?_⟩
  obtain ⟨v, vr, e, h⟩ := h
  subst e
  cases r with
  | cons r rr =>
    refine wpAny_matchEach_cons (thn (hp.run pins s σ H v _ _ I r h) fun b s1 ⟨b', H1, I1, rb, q⟩ => ?_) hs
    cases b with
    | none =>
      cases b' with
      | none => exact ⟨none, H1, I1, True.intro, q⟩
      | some _ => exact (show False from rb).elim
    | some l =>
      cases b' with
      | none => exact (show False from rb).elim
      | some l' =>
        refine thn (hq.run pins s1 σ H1 vr _ _ I1 rr (by simpa using hl) q) fun c s2 ⟨c', H2, I2, rc, q2⟩ => ?_
        cases c with
        | none =>
          cases c' with
          | none => exact ⟨none, H2, I2, True.intro, q2⟩
          | some _ => exact (show False from rc).elim
        | some m =>
          cases c' with
          | none => exact (show False from rc).elim
          | some m' => exact ⟨some (l' ++ m'), H2, I2, kv_app rb rc, q2⟩
def mSeq (K : PySem.W.Frag) (n : Nat) (t : TPs) : TP := fun v σ H Q => ∃ a xs, v = .ref a ∧ SqT K H a xs ∧ if xs.length = n then t xs σ H Q else Q none H
theorem pp_seq {ps : List Pattern} {t : TPs} {p : Pos} (hp : PPq X ps t) (hc : X.calm = true := by rfl) (hst : ps.findIdx? (·.isStar) = none := by rfl)
    (hw : (ps.all fun p => p.isWildcard || (p.isStar && p.names.isEmpty)) = false := by rfl) : PP X (.MatchSequence ps p) (mSeq X.K ps.length t) := by
  refine ⟨fun pins s σ H v u Q I r h => ?_⟩
  obtain ⟨a, xs, e, hq, h⟩ := h
  subst e
  cases r
  obtain ⟨its, rv, ht, hz⟩ := I.tuple hq
  have hlen := rv.length
  have hs : sizeLine = 16777216 := sizeLine_eq
  have hfit : ((its.toArray.size : Nat) : Int) < 2 ^ 63 := by
    simp only [List.size_toArray]
    omega
  by_cases hn : xs.length = ps.length
  · rw [if_pos hn] at h
    refine PyProof.Rows.matchSeq_tuple_hit ht hfit (by simp only [List.size_toArray]; omega) ?_ hst hw
    have hz2 : its.toArray.size = ps.length := by
      simp only [List.size_toArray]
      omega
    rw [← hz2]
    refine PyProof.Rows.unpackItems_tuple (I.ok.hd hc) ht fun h' hx => ?_
    exact hp.run pins _ σ H xs _ Q (I.kept (h' := h') fun b o e => hx b o (Nat.ne_of_lt (Heap.lt_size e)) e) (by simpa using rv) hn h
  · rw [if_neg hn] at h
    exact PyProof.Rows.matchSeq_tuple_miss ht hfit (by simp only [List.size_toArray]; omega) ⟨none, H, I.tok _, True.intro, h⟩ hst hw

/-! ### the cases -/
def setAll : St → List Nat → List V → St
  | σ, i :: is, v :: vs => setAll (σ.set i (some v)) is vs
  | σ, _, _ => σ
theorem bind_all {pins : List (Addr × Obj)} {H : Hp} {Q : Unit → Shared → Prop} : ∀ (own : List (Str × Nat)) (l : List (Str × V)) (m : List (Str × Value)) (s : Shared) (σ : St), Inv X pins σ H s → KV l m →
    l.map (·.1) = own.map (·.1) → X.N.Nodup → (∀ p ∈ own, X.N[p.2]? = some p.1 ∧ Loc X.env.scope p.1 ∧ (X.fn p.1 = true ∨ X.env.scope.names.lookup p.1 = some .local)) →
    (∀ s', Inv X pins (setAll σ (own.map (·.2)) (l.map (·.2))) H s' → Q () s') →
    wpAny (model X.prog X.w) X.A (assignInOrder (m.map fun (n, _) => bindName X.env n) (m.map (·.2))) Q X.xe s
  | [], [], _, s, σ, I, r, _, _, _, k => by
    cases r
    exact wpAny_assignInOrder_none (k s I)
  | [], _ :: _, _, _, _, _, _, e, _, _, _ => by simp at e
  | _ :: _, [], _, _, _, _, _, e, _, _, _ => by simp at e
  | (x, i) :: own, (y, v) :: l, _, s, σ, I, r, e, hN, ho, k => by
    cases r with
    | @cons _ q _ m r rr =>
      obtain ⟨z, u⟩ := q
      obtain ⟨e1, rv⟩ : y = z ∧ RelV v u := r
      have e2 : y = x ∧ l.map (·.1) = own.map (·.1) := by simpa using e
      obtain ⟨ex, el⟩ := e2
      subst e1
      subst ex
      obtain ⟨h1, h2, h3⟩ := ho (y, i) List.mem_cons_self
      refine wpAny_assignInOrder_more ?_
      show wpAny _ X.A (bindName X.env y u) _ _ _
      unfold bindName
      refine wpAny_bind (wpAny_holding (wpAny_point (wpAny_bind (store_ok I hN h1 h2 rv (fun s1 I1 => wpAny_point ?_) h3))))
      exact bind_all own l m s1 _ I1 rr el hN (fun p hp => ho p (List.mem_cons_of_mem _ hp)) k
def cNil : TC := fun _ D σ H => D.nx σ H
def cCons (t : TP) (own : List (Str × Nat)) (b : TS) (u : TC) : TC := fun v D σ H => t v σ H fun r H1 => match r with
  | none => u v D σ H1
  | some bs => bs.map (·.1) = own.map (·.1) ∧ b D (setAll σ (own.map (·.2)) (bs.map (·.2))) H1
theorem pcs_nil : PCs X [] cNil := ⟨fun _ pins s σ H v u D I r h => wpAny_matchCases_nil ⟨σ, H, I, h⟩⟩
theorem pcs_cons {p : Pattern} {body : List Stmt} {cs : List MatchCase} {t : TP} {b : TS} {u : TC} (own : List (Str × Nat)) (hN : X.N.Nodup)
    (ho : ∀ p ∈ own, X.N[p.2]? = some p.1 ∧ Loc X.env.scope p.1 ∧ (X.fn p.1 = true ∨ X.env.scope.names.lookup p.1 = some .local))
    (hp : PP X p t) (hb : PSs X body b) (hc : PCs X cs u) : PCs X (⟨p, none, body⟩ :: cs) (cCons t own b u) := by
  refine ⟨fun fst pins s σ H v w' D I r h => wpAny_matchCases_cons (thn (hp.run pins s σ H v w' _ I r h) fun c s1 ⟨c', H1, I1, rc, q⟩ => ?_)⟩
  cases c with
  | none =>
    cases c' with
    | none => exact hc.run false pins s1 σ H1 v w' D I1 r q
    | some _ => exact (show False from rc).elim
  | some m =>
    cases c' with
    | none => exact (show False from rc).elim
    | some l =>
      obtain ⟨e, q⟩ := q
      exact bind_all own l m s1 σ I1 rc e hN ho fun s2 I2 => hb.run pins s2 _ H1 D I2 q
theorem own0 {P : Str × Nat → Prop} : ∀ p ∈ ([] : List (Str × Nat)), P p := fun p hp => absurd hp (by simp)
theorem ownC {P : Str × Nat → Prop} {q : Str × Nat} {l : List (Str × Nat)} (h : P q) (hl : ∀ p ∈ l, P p) : ∀ p ∈ q :: l, P p := fun p hp => by
  rcases List.mem_cons.mp hp with e | e
  · rw [e]
    exact h
  · exact hl p e
def tMatch (te : TE) (c : TC) : TS := fun D σ H => te σ H fun v H1 => c v D σ H1
theorem ps_match {e : Expr} {cs : List MatchCase} {te : TE} {c : TC} {p : Pos} (he : PE X e te) (hc : PCs X cs c) : PS X (.Match e cs p) (tMatch te c) := by
  refine ⟨fun pins s σ H D I h => wpAny_Match (thn (he.run pins s σ H _ I h) fun u s1 ⟨v, H1, I1, r, q⟩ => ?_)⟩
  exact hc.run true pins s1 σ H1 v u D I1 r q
end
end Mh
namespace Mh
open PySem L2

/-! ### enumerate(v), v told by what its iterator draws -/
theorem meetsEnum {v : Value} {cell : Obj} {Z : Heap → Prop} (bg : Begins v cell Z) :
    Meets (Builtin.«enumerate.__new__» ⟨[.type "enumerate", v], []⟩) (fun _ R s => Z s.heap ∧
      R (.ok (.ret (.ref (s.heap.push cell).objs.size)))
        { s with heap := (s.heap.push cell).push { cls := .type "enumerate", data := .fields #[.none, .bool false, .ref s.heap.objs.size, rawInt 0, .none, .none] } }) :=
  .of_wp fun prog w A R s given => by
    obtain ⟨hp, gs, dr, tk, os⟩ := s
    obtain ⟨g1, g2⟩ := given
    have below := sub_enumerate
    have it1 : ∀ {B : Around} {E : Value → Shared → Prop} {Q : Value → Shared → Prop}, Q (.ref hp.objs.size) ⟨hp.push cell, gs, dr, tk, os⟩ → wpAny (model prog w) B (pyIter v) Q E ⟨hp, gs, dr, tk, os⟩ :=
      fun q => bg.iter prog w _ _ ⟨hp, gs, dr, tk, os⟩ _ g1 q
    wp_walk using it1
    refine wpAny_stack_any fun stk => wpAny_pure ?_
    split
    · rename_i c _ _ _ _ _
      cases (c == Value.type "enumerate") <;> (wp_walk using it1; exact ⟨_, rfl, g2⟩)
    · wp_walk using it1
      exact ⟨_, rfl, g2⟩
section
variable {prog : Program} {w : World} {A : Around} {E : Value → Shared → Prop} {s : Shared}
theorem enum1 {v : Value} {cell : Obj} {Z : Heap → Prop} {Q : Value → Shared → Prop} (bg : Begins v cell Z) (g1 : Z s.heap)
    (k : ∀ h', IsEnum h' (s.heap.objs.size + 1) s.heap.objs.size 0 .none → h'.get? s.heap.objs.size = some cell → h'.objs.size = s.heap.objs.size + 2 →
      (∀ b o, s.heap.get? b = some o → h'.get? b = some o) → Q (.ref (s.heap.objs.size + 1)) { s with heap := h' }) :
    wpAny (model prog w) A (call (.type "enumerate") [v]) Q E s := by
  refine callType_new F.called_enumerate (by decide) (F.typeCall_enumerate_1 _) (F.newCall_enumerate_1 _) (fun obj => F.args_object_init_2 obj _) F.entry_enumerate_new (meetsEnum bg) ⟨g1, ?_⟩
  have size1 : (s.heap.push cell).objs.size = s.heap.objs.size + 1 := Heap.size_push ..
  show _ ∧ _
  rw [size1]
  have made : IsEnum ((s.heap.push cell).push { cls := .type "enumerate", data := .fields #[.none, .bool false, .ref s.heap.objs.size, rawInt 0, .none, .none] }) (s.heap.objs.size + 1) s.heap.objs.size 0 .none := by
    have z := Heap.get?_push_size (s.heap.push cell) (o := { cls := .type "enumerate", data := .fields #[.none, .bool false, .ref s.heap.objs.size, rawInt 0, .none, .none] }) rfl
    rw [size1] at z
    exact z
  exact ⟨⟨_, made, rfl⟩, k _ made (Heap.get?_push_of_some _ (Heap.get?_push_size _ bg.free)) (by rw [Heap.size_push, size1]) fun b o x => Heap.get?_push_of_some _ (Heap.get?_push_of_some _ x)⟩
end
/-- the tuple at a, each item in a new pair with its number -/
def IteT (K : PySem.W.Frag) (a : Addr) : It where
  go := fun i H => ∃ (xs : List V) (x : V), SqT K H a xs ∧ xs[i]? = some x
  yld := fun i H v H' => ∃ T x, v = .ref T ∧ H T = none ∧ H' = upd H T (.tup [.int (i : Nat), x]) ∧ ∀ xs, SqT K H a xs → xs[i]? = some x
  stop := fun i H => ∃ xs : List V, SqT K H a xs ∧ xs.length ≤ i
theorem turn_enumT {P : Program} {w : World} {K : PySem.W.Frag} {elts : List Expr} {kk : Nat} {tpos : Pos} (a e it : Addr) (items : Array Value) (hne : e ≠ it) (hea : e ≠ a) (hia : a ≠ it) :
    Turn P w K (.Tuple elts kk tpos) (IteT K a) [e, it] e (fun i h => (∃ old, IsEnum h e it ((i : Nat) : Int) old) ∧ h.IsTupleIter it a i) where
  mem := by simp
  obj := fun i h st b hb => by
    obtain ⟨⟨old, he⟩, o, ho, hc, hd⟩ := st
    have hb' : b = e ∨ b = it := by simpa using hb
    rcases hb' with z | z
    · rw [z]
      exact ⟨_, he, fun v q => nomatch q⟩
    · rw [z]
      exact ⟨o, ho, fun v q => by rw [hd] at q; cases q⟩
  keep := fun i h h' st k => let ⟨⟨old, he⟩, hi⟩ := st; ⟨⟨old, k e (by simp) _ he⟩, hi.at fun o q => k it (by simp) o q⟩
  item := by
    intro X hP hw hK hc i pins s σ H E I hf st hg
    subst hP hw hK
    obtain ⟨⟨old, he⟩, hit⟩ := st
    obtain ⟨xs, x, hq, hx⟩ := hg
    obtain ⟨its, rv, p, hz⟩ := I.tuple hq
    obtain ⟨u, hu, ru⟩ := rv.get hx
    have sz := rv.length
    have hil : i < its.toArray.size := by
      have z := (List.getElem?_eq_some_iff.mp hx).1
      simp only [List.size_toArray]
      omega
    have hel : e < s.heap.objs.size := Heap.lt_size he
    have hitl : it < s.heap.objs.size := by obtain ⟨_, q, _⟩ := hit; exact Heap.lt_size q
    have hh1 : X.A.in1.handled = none := I.ok.hd hc
    refine wpAny_pyNext_enum_itemD (Draws.tuple hh1 it a hia its.toArray) he ⟨hit, show s.heap.IsTuple a its.toArray from p⟩ hil hne (by simp [hne, hea]) fun y h' tk hy ho hst' hT hsz hk => ?_
    have ey : y = u := by
      rw [List.getElem?_toArray] at hy
      rw [hu] at hy
      exact (Option.some.inj hy).symm
    subst ey
    refine ⟨_, rfl, wpAny_letOwnedTupleGo_enum (s := { s with heap := h', toks := tk + 1 }) ho fun h2 he2 sb => ?_⟩
    have hT2 : h2.get? s.heap.objs.size = some { cls := .type "tuple", data := .seq #[.int i tk, y] } := (sb.2 _ (Nat.ne_of_gt hel)).trans hT
    have new : ObjOk X.prog X.w (upd H s.heap.objs.size (.tup [.int (i : Nat), x])) h2 s.heap.objs.size (.tup [.int (i : Nat), x]) :=
      ⟨by show 2 ≤ sizeLine; decide, [.int i tk, y], .cons ⟨_, rfl⟩ (.cons ru .nil), ⟨_, hT2, rfl, _, rfl⟩⟩
    have I1 : Inv X pins σ (upd H s.heap.objs.size (.tup [.int (i : Nat), x])) { s with heap := h2, toks := tk + 1 } :=
      I.turnedNew (ch := [e, it]) (fun b ob hb q => (sb.2 b (fun z => hb (by simp [z]))).trans (hk b ob (fun z => hb (by simp [z])) (fun z => hb (by simp [z])) q)) hf (Nat.le_refl _) new
    refine ⟨.ref s.heap.objs.size, _, I1, rfl, ⟨_, x, rfl, I.hok.fresh (Nat.le_refl _), rfl, fun ys hy2 => by rw [I.tuple_inj hy2 hq]; exact hx⟩, ⟨⟨y, ?_⟩, hst'.1.at fun o q => (sb.2 it (Ne.symm hne)).trans q⟩, fun b hb => ?_⟩
    · have e1 : ((i + 1 : Nat) : Int) = (i : Int) + 1 := by omega
      rw [e1]
      exact he2
    · have hb' : b = e ∨ b = it := by simpa using hb
      have hlt : b < s.heap.objs.size := by
        rcases hb' with z | z
        · rw [z]; exact hel
        · rw [z]; exact hitl
      rw [upd_ne (Nat.ne_of_lt hlt)]
      exact (hf b hb).1
  done := by
    intro X hP hw hK hc i pins s σ H E I hf st hg
    subst hP hw hK
    obtain ⟨⟨old, he⟩, hit⟩ := st
    obtain ⟨xs, hq, hx⟩ := hg
    obtain ⟨its, rv, p, hz⟩ := I.tuple hq
    have sz := rv.length
    obtain ⟨f0, f1, f2, f3, f4, f5⟩ := hf it (by simp)
    have hh1 : X.A.in1.handled = none := I.ok.hd hc
    have D0 : Draws X.prog X.w X.A.in1 it [it, a] i (fun _ _ => True) (fun j h => j = i ∧ h.IsTupleIter it a j ∧ h.IsTuple a its.toArray) := {
      live := fun _ _ z => let ⟨o, ho, _⟩ := z.2.1; ⟨o, ho⟩
      frame := fun _ _ _ z hk => ⟨z.1, z.2.1.at fun o q => hk it (by simp) o q, z.2.2.at fun o q => hk a (by simp) o q⟩
      item := fun j s2 Q E2 hj z k => absurd z.1 (Nat.ne_of_lt hj)
      done := fun s2 Q E2 z k => wpAny_nextOf_tuple_end hh1 z.2.1 z.2.2 (by simp; omega) k }
    exact wpAny_pyNext_enum_endD D0 he ⟨rfl, hit, show s.heap.IsTuple a its.toArray from p⟩ fun h' eb => ⟨rfl, I.turned (t' := s.toks) (fun b o hb q => eb b o hb q) f0 f1 f3 f4 f5⟩
  self := fun A i s Q E st h => let ⟨⟨_, he⟩, _⟩ := st; wpAny_pyIter_enum he h
def iEnumT (K : PySem.W.Frag) (ta : TA) : TI := fun σ H R => ta σ H fun vs H1 => ∃ a xs, vs = [.ref a] ∧ SqT K H1 a xs ∧ R (IteT K a) H1
theorem pi_enumT {X : Cx} {e : Expr} {ta : TA} {p pos tpos : Pos} {elts : List Expr} {kk : Nat} (hg : Gl X "enumerate") (hm : X.mg "enumerate" = none) (ha : PA X [e] ta) (hs : starEach [e] X.env = [(false, eval e X.env)] := by rfl) :
    PI X (.Tuple elts kk tpos) (.Call (.Name "enumerate" p) [e] [] pos) (iEnumT X.K ta) := by
  refine ⟨fun pins s σ H R I h => ?_⟩
  refine PyProof.Rows.Call_ (ld_blt I hg hm PyProof.Rows.boot_enumerate (PyProof.Rows.callWith_type1 (thn (ha.run pos pins s σ H _ I h) fun us s1 ⟨vs, H1, I1, r1, q1⟩ => ?_) hs rfl))
  obtain ⟨a, xs, ex, hq, q⟩ := q1
  subst ex
  cases r1 with
  | cons r rr =>
    cases rr
    cases r
    obtain ⟨its, rv, p', hz⟩ := I1.tuple hq
    have hta : s1.heap.IsTuple a its.toArray := p'
    have hal : a < s1.heap.objs.size := by obtain ⟨o, q, _⟩ := hta; exact Heap.lt_size q
    refine enum1 (begins_tuple a its.toArray) hta fun h' he hcell hsz hk => wpAny_pyIter_enum he ?_
    have I2 : Inv X pins σ H1 { s1 with heap := h' } := I1.kept (t' := s1.toks) hk
    refine ⟨s1.heap.objs.size + 1, [s1.heap.objs.size + 1, s1.heap.objs.size], _, _, H1, rfl, I2,
      turn_enumT a (s1.heap.objs.size + 1) s1.heap.objs.size its.toArray (Nat.succ_ne_self _) (Nat.ne_of_gt (Nat.lt_succ_of_lt hal)) (Nat.ne_of_lt hal), ⟨⟨.none, he⟩, ⟨_, hcell, rfl, rfl⟩⟩, fun b hb => ?_, q⟩
    have hb' : b = s1.heap.objs.size + 1 ∨ b = s1.heap.objs.size := by simpa using hb
    have hle : s1.heap.objs.size ≤ b := by
      rcases hb' with z | z
      · rw [z]; exact Nat.le_add_right _ _
      · rw [z]; exact Nat.le_refl _
    exact I1.fpOk hle (I1.hok.fresh hle)
theorem walk_enumT {K : PySem.W.Frag} {a : Addr} {xs : List V} : Walk (IteT K a) xs.length (fun H => SqT K H a xs) (YPair (fun i => some (.int (i : Nat))) (fun i => xs[i]?)) := by
  refine ⟨fun i _ hi q => ⟨xs, xs[i], q, by simp [hi]⟩, fun _ q => ⟨xs, q, Nat.le_refl _⟩, fun i H v H' _ q y => ?_⟩
  obtain ⟨T, x, h1, h2, h3, h4⟩ := y
  exact ⟨T, .int (i : Nat), x, h1, h2, h3, rfl, h4 xs q⟩
end Mh
namespace Mh
open PySem L2
/-- a set as it is made -/
abbrev freshSet (w : World) : Obj := { cls := .type "set", dict := none, data := .set #[] 0 (.fresh 0 0 (!w.params.followText "set-order")) }
section
variable {P : Program} {w : World} {A : Around} {E : Value → Shared → Prop} {s : Shared}
/-- set(xs), xs a list of ints -/
theorem callSetL {a : Addr} {its : Array Value} (ns : List Int) {Q : Value → Shared → Prop} (calm : A.handled = none) (isL : s.heap.IsList a its) (allInt : PyProof.Rows.IntsAre its.toList ns) (few : ns.length + 1 < scanBound)
    (k : ∀ (h' : Heap) (tk c : Nat), SetR w h' s.heap.objs.size (fun j => decide (j ∈ ns)) c → c ≤ ns.length → (∀ b o, s.heap.get? b = some o → h'.get? b = some o) → Q (.ref s.heap.objs.size) { s with heap := h', toks := tk }) :
    wpAny (model P w) A (call (.type "set") [.ref a]) Q E s := by
  have size0 : its.size = ns.length := by
    have z := PyProof.Rows.IntsAre.length allInt
    rwa [Array.length_toList] at z
  obtain ⟨cc, tl, mro⟩ := F.called_set.mro
  have made := F.called_set.made
  have below := F.called_set.sub
  refine wpAny_call (codeAny_of_tree ?_)
  show wpAny (model P w) _ (callAny (.type "set") _) _ _ s
  refine wpAny_pure ⟨Code.quiet_builtin _ (by decide +kernel), codeAny_builtin F.entry_type_call ?_⟩
  rw [Around.under_plain (weight_type_call_type "set" [.ref a] []) rfl]
  have p1 := F.called_set.notType
  have p2 := F.called_set.canCreate
  have p3 := F.typeCall_set_1 (.ref a)
  repeat (any_goals (first | assumption | wp_step))
  refine codeAny_mono (code_set_led1 (.ref a) (E := E)
    (Q₁ := fun obj s₁ => obj = .ref s.heap.objs.size ∧ s₁ = { s with heap := s.heap.push (freshSet w) }) ⟨rfl, rfl⟩) fun r s₁ hr => ?_
  rcases r with e | fl
  · exact hr
  rcases fl with _ | _ | _ | obj
  · exact hr.elim
  · exact hr.elim
  · exact hr.elim
  obtain ⟨rfl, rfl⟩ := hr
  have at0 : (s.heap.push (freshSet w)).get? s.heap.objs.size = some (freshSet w) := Heap.get?_push_size _ rfl
  have ty0 : Shared.TypeIs { s with heap := s.heap.push (freshSet w) } (.ref s.heap.objs.size) "set" := ⟨_, at0, rfl⟩
  have p4 := F.called_set.init.lookup
  have p5 := F.called_set.init.bind (.ref s.heap.objs.size)
  repeat (any_goals (first | assumption | wp_step))
  refine codeAny_mono (codeAny_call_builtin (R := wants (fun r s₂ => r = .none ∧ ∃ h' tk c, s₂ = { s with heap := h', toks := tk } ∧ SetR w h' s.heap.objs.size (fun j => decide (j ∈ ns)) c ∧ c ≤ ns.length ∧
    (∀ b o, s.heap.get? b = some o → h'.get? b = some o)) E) F.called_set.init.plain F.entry_set_init (check_set_init_1 ty0 ?_)) fun r₂ s₂ hr₂ => ?_
  · obtain ⟨⟨c0, d0, dt0, sl0⟩, got, cls0, cnt0, data0⟩ := isL
    simp only at cls0 data0
    subst cls0 data0
    have got1 : (s.heap.push (freshSet w)).get? a = some { cls := .type "list", dict := d0, data := .seq its cnt0, slots := sl0 } := Heap.get?_push_of_some _ got
    have q1 := F.sub_list_set
    have q2 := F.sub_list_frozenset
    have q3 : (Value.type "list" == Value.type "dict") = false := by decide
    have isL1 : (s.heap.push (freshSet w)).IsList a its := ⟨_, got1, rfl, cnt0, rfl⟩
    unfold Builtin.«set.__init__» noKeywords Builtin.Frozenset.updateFrom
    generalize frozen : pyIter = walkIt
    wp_walk
    subst frozen
    refine wpAny_pyIter_list isL1 (wpAny_bind (wpAny_runValue ?_))
    have below0 : a < s.heap.objs.size := Heap.lt_size got
    have calm3 : A.in1.in1.in1.handled = none := by simp [calm]
    have apart : a ≠ (s.heap.push (freshSet w)).objs.size := by
      rw [Heap.size_push]
      exact Nat.ne_of_lt (Nat.lt_succ_of_lt below0)
    have apart2 : s.heap.objs.size ∉ [(s.heap.push (freshSet w)).objs.size, a] := by
      rw [Heap.size_push]
      simp only [List.mem_cons, List.not_mem_nil, or_false, not_or]
      exact ⟨Nat.ne_of_lt (Nat.lt_succ_self _), Nat.ne_of_gt below0⟩
    have vals : ∀ (i : Nat) (v : Value), its[i]? = some v → ∃ z t, ns[i]? = some z ∧ v = .int z t := fun i v hv => by
      have hi : i < ns.length := by
        rw [← size0]
        exact (Array.getElem?_eq_some_iff.mp hv).1
      obtain ⟨t, e⟩ := PyProof.Rows.IntsAre.int_at allInt i v (by rw [Array.getElem?_toList]; exact hv)
      exact ⟨ns[i], t, List.getElem?_eq_getElem hi, by rw [e, List.getD_eq_getElem?_getD, List.getElem?_eq_getElem hi]; rfl⟩
    refine set_update_ints ((Walks.list calm3 _ a apart its).toS) s.heap.objs.size apart2 ns size0 few vals (its.size - 0) 0 _ (by omega) (Nat.zero_le _) ⟨⟨_, Heap.get?_push_size _ rfl, rfl, rfl⟩, isL1.push _⟩
      ⟨0, Nat.le_refl 0, setR_new_at (Heap.get?_push_of_some _ at0)⟩ ?_
    intro s3 c3 mv hc3 hS3
    obtain ⟨h3, g3, d3, tk3, os3⟩ := s3
    have e1 : g3 = s.gens := mv.gens
    have e2 : d3 = s.drawn := mv.drawn
    have e3 : os3 = s.os := mv.os
    subst e1 e2 e3
    show wpAny (model P w) _ _ _ _ _
    refine wpAny_pure ?_
    show wpAny (model P w) _ (ret Value.none) _ _ _
    rw [size0] at hc3
    refine wpAny_pure ⟨rfl, h3, tk3, c3, rfl, hS3, hc3, fun b o e => ?_⟩
    have hb0 : b < s.heap.objs.size := Heap.lt_size e
    refine mv.heap b o ?_ (Heap.get?_push_of_some _ (Heap.get?_push_of_some _ e))
    simp only [List.mem_cons, List.not_mem_nil, or_false, not_or]
    refine ⟨Nat.ne_of_lt hb0, ?_⟩
    rw [Heap.size_push]
    exact Nat.ne_of_lt (Nat.lt_succ_of_lt hb0)
  · rcases r₂ with e | fl
    · exact hr₂
    rcases fl with _ | _ | _ | r
    · exact hr₂.elim
    · exact hr₂.elim
    · exact hr₂.elim
    obtain ⟨rfl, h', tk, c', rfl, hS', hc', hk'⟩ := hr₂
    repeat (any_goals (first | assumption | wp_step))
    exact k _ _ _ hS' hc' hk'
end
/-- set(xs) by values -/
def rSetL (K : PySem.W.Frag) (w : World) : List V → Hp → VK → Prop := fun vs H Q => ∃ (a : Addr) (ns : List Int), vs = [V.ref a] ∧ SqL K H a (ns.map V.int) ∧ ns.length ≤ 1000 ∧
  ∀ (p : Addr) (c : Nat), H p = none → c ≤ ns.length → Q (.ref p) (upd H p (SetO w p (fun j => decide (j ∈ ns)) c))
theorem ints_of_vals : ∀ {ns : List Int} {us : List Value}, Vals (ns.map V.int) us → PyProof.Rows.IntsAre us ns
  | [], _, .nil => .nil
  | n :: ns, _, .cons r t => by
    obtain ⟨tk, rfl⟩ := r
    exact .cons n tk (ints_of_vals t)
theorem cr_setL {X : Cx} (hc : X.calm = true) : CallR X (.type "set") (rSetL X.K X.w) := by
  intro pins s σ H vs us Q I r h
  obtain ⟨a, ns, rfl, hq, few, k⟩ := h
  obtain ⟨its, rv, p, hz⟩ := I.list hq
  rw [Vals.ref1 r]
  refine callSetL ns (I.ok.hd hc) p.isList (ints_of_vals rv) (by unfold scanBound; omega) fun h' tk c hS hcl hk => ?_
  refine ⟨.ref s.heap.objs.size, upd H s.heap.objs.size (SetO X.w s.heap.objs.size (fun j => decide (j ∈ ns)) c), I.laid (t' := tk) hk (Nat.le_refl _) (setO_new hS), rfl, k _ c (I.hok.fresh (Nat.le_refl _)) hcl⟩
end Mh
/-! What the laws draw, told as data; what stays. -/
namespace Mh
open PySem L2

/-! ### all stays but what is named -/
def Bt (S : List Addr) (H H' : Hp) : Prop := ∀ b o, b ∉ S → H b = some o → H' b = some o
section
variable {S S' : List Addr} {H H1 H2 : Hp} {p : Addr} {o : HO} {K : PySem.W.Frag}
theorem Bt.refl : Bt S H H := fun _ _ _ h => h
theorem Bt.trans (a : Bt S H H1) (b : Bt S H1 H2) : Bt S H H2 := fun c u n h => b c u n (a c u n h)
theorem Bt.new (h : H p = none) : Bt S H (upd H p o) := fun b u _ e => by rw [upd_ne (ne_of_none e h)]; exact e
/-- an object that was not there, or that is named, is written -/
theorem Bt.put (a : Bt S H H1) (h : H p = none) : Bt S H (upd H1 p o) := fun b u n e => by rw [upd_ne (ne_of_none e h)]; exact a b u n e
theorem Bt.set (a : Bt S H H1) (h : p ∈ S) : Bt S H (upd H1 p o) := fun b u n e => by rw [upd_ne (fun z => n (by rw [z]; exact h))]; exact a b u n e
theorem Bt.mono (a : Bt S H H1) (h : ∀ b ∈ S, b ∈ S') : Bt S' H H1 := fun b u n e => a b u (fun z => n (h b z)) e
theorem Bt.of_same (a : Same H H1) : Bt S H H1 := fun b u _ e => a b u e
theorem Bt.same (a : Bt [] H H1) : Same H H1 := fun b u e => a b u (by simp) e
/-- what was free behind was free ahead -/
theorem Bt.free (a : Bt S H H1) (h : p ∉ S) (e : H1 p = none) : H p = none := by
  cases q : H p with
  | none => rfl
  | some u =>
    rw [a p u h q] at e
    cases e
/-- all tuples stay -/
def KT (K : PySem.W.Frag) (H H' : Hp) : Prop := ∀ a xs, SqT K H a xs → SqT K H' a xs
theorem KT.refl : KT K H H := fun _ _ h => h
theorem KT.trans (a : KT K H H1) (b : KT K H1 H2) : KT K H H2 := fun c xs h => b c xs (a c xs h)
theorem Bt.kt (a : Bt S H H1) (h : ∀ b ∈ S, ∀ xs, ¬ Rd H b (.tup xs)) : KT K H H1 := fun c xs e => by
  rcases e with e | e
  · have n : c ∉ S := fun z => h c z xs e
    rcases e with e | ⟨u, e⟩
    · exact .inl (.inl (a c _ n e))
    · exact .inl (.inr ⟨u, a c _ n e⟩)
  · exact .inr e
theorem norm_tup {xs : List V} {d : Addr} (h : H d = some (.lst xs)) : ∀ ys, ¬ Rd H d (.tup ys) := fun ys z => by
  rcases z with z | ⟨u, z⟩ <;> (rw [h] at z; cases z)
theorem Bt.kt1 {d : Addr} {xs : List V} (a : Bt [d] H H1) (h : H d = some (.lst xs)) : KT K H H1 := a.kt fun b hb ys => by
  have e : b = d := by simpa using hb
  rw [e]
  exact norm_tup h ys
theorem KT.same (a : Same H H1) : KT K H H1 := (Bt.of_same (S := []) a).kt fun b hb => absurd hb (by simp)
theorem KT.new (h : H p = none) : KT K H (upd H p o) := (Bt.new (S := []) h).kt fun b hb => absurd hb (by simp)
end

/-! ### data of tuples -/
mutual
def TD : PyData → Bool
  | .none => true
  | .bool _ => true
  | .int _ => true
  | .str _ => true
  | .tuple ds => TDs ds
  | _ => false
def TDs : List PyData → Bool
  | [] => true
  | d :: ds => TD d && TDs ds
end
theorem tds_mem : ∀ {ds : List PyData}, TDs ds = true ↔ ∀ d ∈ ds, TD d = true
  | [] => by simp [TDs]
  | d :: ds => by simp [TDs, tds_mem (ds := ds)]
section
variable {K : PySem.W.Frag} {H H' : Hp}
mutual
theorem dp_keep (kt : KT K H H') : ∀ (d : PyData) (v : V), TD d = true → Dp K H v d → Dp K H' v d
  | .none, _, _, h => by cases h; exact .non
  | .bool b, _, _, h => by cases h; exact .bl b
  | .int i, _, _, h => by cases h; exact .int i
  | .str x, _, _, h => by cases h; exact .str x
  | .list _, _, t, _ => by simp [TD] at t
  | .dict _, _, t, _ => by simp [TD] at t
  | .tuple ds, _, t, h => by
    cases h with
    | tup hs ha => exact .tup (kt _ _ hs) (dps_keep kt ds _ (by simpa [TD] using t) ha)
theorem dps_keep (kt : KT K H H') : ∀ (ds : List PyData) (vs : List V), TDs ds = true → DpAll K H vs ds → DpAll K H' vs ds
  | [], _, _, h => by cases h; exact .nil
  | d :: ds, _, t, h => by
    have t' : TD d = true ∧ TDs ds = true := by simpa [TDs] using t
    cases h with
    | cons h1 h2 => exact .cons (dp_keep kt d _ t'.1 h1) (dps_keep kt ds _ t'.2 h2)
end
theorem dp_int {v : V} {i : Int} (h : Dp K H v (.int i)) : v = .int i := by cases h; rfl
theorem dp_str {v : V} {x : Str} (h : Dp K H v (.str x)) : v = .str x := by cases h; rfl
theorem dp_tup {v : V} {ds : List PyData} (h : Dp K H v (.tuple ds)) : ∃ a xs, v = .ref a ∧ SqT K H a xs ∧ DpAll K H xs ds := by
  cases h with
  | tup hs ha => exact ⟨_, _, rfl, hs, ha⟩
theorem dps_nil {vs : List V} (h : DpAll K H vs []) : vs = [] := by cases h; rfl
theorem dps_cons {vs : List V} {d : PyData} {ds : List PyData} (h : DpAll K H vs (d :: ds)) : ∃ v r, vs = v :: r ∧ Dp K H v d ∧ DpAll K H r ds := by
  cases h with
  | cons h1 h2 => exact ⟨_, _, rfl, h1, h2⟩
theorem dps_len : ∀ {vs : List V} {ds : List PyData}, DpAll K H vs ds → vs.length = ds.length
  | _, _, .nil => rfl
  | _, _, .cons _ t => by simp [dps_len t]
theorem dps_get : ∀ {vs : List V} {ds : List PyData} {i : Nat} {v : V}, DpAll K H vs ds → vs[i]? = some v → ∃ d, ds[i]? = some d ∧ Dp K H v d
  | _, _, _, _, .nil, e => by simp at e
  | _, _, 0, _, .cons h _, e => by
    simp at e
    subst e
    exact ⟨_, rfl, h⟩
  | _, _, i + 1, v, .cons _ t, e => by
    obtain ⟨d, h1, h2⟩ := dps_get (i := i) (v := v) t (by simpa using e)
    exact ⟨d, by simpa using h1, h2⟩
theorem dps_ints : ∀ {ns : List Int} {vs : List V}, DpAll K H vs (ns.map .int) → vs = ns.map .int
  | [], _, h => dps_nil h
  | n :: ns, _, h => by
    obtain ⟨v, r, rfl, h1, h2⟩ := dps_cons h
    rw [dp_int h1, dps_ints h2]
    rfl
theorem dps_of_ints : ∀ (ns : List Int), DpAll K H (ns.map V.int) (ns.map .int)
  | [] => .nil
  | n :: ns => .cons (.int n) (dps_of_ints ns)
theorem dps_snoc : ∀ {vs : List V} {ds : List PyData} {v : V} {d : PyData}, DpAll K H vs ds → Dp K H v d → DpAll K H (vs ++ [v]) (ds ++ [d])
  | _, _, _, _, .nil, h => .cons h .nil
  | _, _, _, _, .cons a t, h => .cons a (dps_snoc t h)
end

/-! ### machines -/
inductive Tst where
  | any | below (n : Int) | rest (m r : Int) | chance (m r : Int) | known (ks : List Int)
inductive Asw where
  | num (n : Int) | plus (n : Int) | times (n : Int) | rest (m : Int) | non
def Tst.dt : Tst → PyData
  | .any => .tuple [.str "any"]
  | .below n => .tuple [.str "below", .int n]
  | .rest m r => .tuple [.str "rest", .int m, .int r]
  | .chance m r => .tuple [.str "chance", .int m, .int r]
  | .known ks => .tuple [.str "known", .tuple (ks.map .int)]
def Asw.dt : Asw → PyData
  | .num n => .tuple [.str "num", .int n]
  | .plus n => .tuple [.str "plus", .int n]
  | .times n => .tuple [.str "times", .int n]
  | .rest m => .tuple [.str "rest", .int m]
  | .non => .tuple [.str "none"]
abbrev Mach := List (Tst × Asw)
def rowDt (r : Tst × Asw) : PyData := .tuple [r.1.dt, r.2.dt]
def machDt (m : Mach) : PyData := .tuple (m.map rowDt)
def Tst.Ok : Tst → Prop
  | .any => True
  | .below n => 0 ≤ n ∧ n ≤ 9999
  | .rest m r => 2 ≤ m ∧ m ≤ 99 ∧ 0 ≤ r ∧ r < m
  | .chance m r => 2 ≤ m ∧ m ≤ 99 ∧ 0 ≤ r ∧ r < m
  | .known ks => 1 ≤ ks.length ∧ ks.length ≤ 8 ∧ ks.Pairwise (· < ·) ∧ ∀ k ∈ ks, 0 ≤ k ∧ k ≤ 9999
def Asw.Ok : Asw → Prop
  | .num n => -9999 ≤ n ∧ n ≤ 9999
  | .plus n => -9999 ≤ n ∧ n ≤ 9999
  | .times n => -9999 ≤ n ∧ n ≤ 9999
  | .rest m => 2 ≤ m ∧ m ≤ 99
  | .non => True
def MachOk (m : Mach) : Prop := 1 ≤ m.length ∧ m.length ≤ 12 ∧ ∀ r ∈ m, r.1.Ok ∧ r.2.Ok
def Tst.holds (q s : Int) : Tst → Bool
  | .any => true
  | .below n => decide (q < n)
  | .rest m r => decide (q % m = r)
  | .chance m r => decide ((7 * q + 13 * s) % m = r)
  | .known ks => decide (q ∈ ks)
def Asw.out (q : Int) : Asw → Option Int
  | .num n => some n
  | .plus n => some (q + n)
  | .times n => some (q * n)
  | .rest m => some (q % m)
  | .non => none
def tell (q s : Int) : Mach → Option Int
  | [] => none
  | (t, a) :: r => if t.holds q s then a.out q else tell q s r
def oV : Option Int → V
  | none => .non
  | some i => .int i
theorem Tst.td (t : Tst) : TD t.dt = true := by
  cases t with
  | known ks =>
    have h : TDs (ks.map PyData.int) = true := tds_mem.mpr fun d hd => by
      obtain ⟨k, _, rfl⟩ := List.mem_map.mp hd
      rfl
    simp [Tst.dt, TD, TDs, h]
  | _ => simp [Tst.dt, TD, TDs]
theorem Asw.td (a : Asw) : TD a.dt = true := by cases a <;> simp [Asw.dt, TD, TDs]
theorem row_td (r : Tst × Asw) : TD (rowDt r) = true := by simp [rowDt, TD, TDs, r.1.td, r.2.td]
theorem mach_td (m : Mach) : TD (machDt m) = true := by
  have h : TDs (m.map rowDt) = true := tds_mem.mpr fun d hd => by
    obtain ⟨r, _, rfl⟩ := List.mem_map.mp hd
    exact row_td r
  simp [machDt, TD, h]

/-! ### dice -/
def Dice (xs : List V) : Prop := ∃ (a b : Int) (r : List Int), xs = .int a :: .int b :: r.map V.int ∧ 0 ≤ a ∧ a < 2147483647 ∧ 0 ≤ b ∧ r.length ≤ 63 ∧ ∀ z ∈ r, 0 ≤ z
end Mh
namespace Mh
open PySem L2
/-! ### defs of the text -/
structure Df (K : PySem.W.Frag) (mg : Str → Option Value) (x : Str) (st : Stmt) (ps : List Str) (f : Addr) (fd : FuncData) : Prop where
  F : Fun K x x st f fd
  n : mg x = some (.ref f)
  b : Binds K fd ps []
/-- with keyword-only parameters behind the first m, all told -/
structure DfK (K : PySem.W.Frag) (mg : Str → Option Value) (x : Str) (st : Stmt) (ps : List Str) (m : Nat) (ks : List Str) (f : Addr) (fd : FuncData) : Prop where
  F : Fun K x x st f fd
  n : mg x = some (.ref f)
  kb : KBn K fd ps m ks (fun us ws => us ++ ws) (fun vs zs => vs ++ zs)
/-- with keyword-only parameters that some calls leave out: dvs their values -/
structure DfS (K : PySem.W.Frag) (mg : Str → Option Value) (x : Str) (st : Stmt) (ps : List Str) (m : Nat) (ks : List Str) (dvs : List V) (f : Addr) (fd : FuncData) (ds : List Value) : Prop where
  F : Fun K x x st f fd
  n : mg x = some (.ref f)
  kb : KBn K fd ps m ks (fun us ws => us ++ ws) (fun vs zs => vs ++ zs)
  b0 : Binds K fd ps ds
  v0 : Vals dvs ds
/-- a module's value -/
def GV (mg : Str → Option Value) (x : Str) (v : V) : Prop := ∃ u, mg x = some u ∧ RelV v u
theorem pe_gv {X : Cx} {x : Str} {v : V} {pos : Pos} (hg : Gl X x) (h : GV X.mg x v) (hd : (x == ("__debug__" : Str)) = false := by decide) : PE X (.Name x pos) (tC v) := by
  obtain ⟨u, h1, h2⟩ := h
  exact pe_glob hg h1 h2 hd
theorem at0 {x : V} {r : List V} : atI (x :: r) 0 = some x := atI_nat (j := 0) rfl
theorem at1 {x y : V} {r : List V} : atI (x :: y :: r) 1 = some y := atI_nat (j := 1) rfl
theorem at2 {x y z : V} {r : List V} : atI (x :: y :: z :: r) 2 = some z := atI_nat (j := 2) rfl
def spLaw (K : PySem.W.Frag) : Sp := fun vs H Q _ => ∃ (a : Addr) (ns : List Int), vs = [.ref a] ∧ SqL K H a (ns.map V.int) ∧ ns.length ≤ 63 ∧ ∀ H', Q (.bl true) H'
end Mh
namespace Mh
open PySem L2
theorem execs_app (env : Env) (bs : List Stmt) : ∀ as : List Stmt, execs (as ++ bs) env = (do
    match ← execs as env with
    | .next => execs bs env
    | f => pure f)
  | [] => by
    show execs bs env = (pure Flow.next >>= _)
    rw [pure_bind]
  | a :: as => by
    show execs (a :: (as ++ bs)) env = _
    rw [arm_execs_cons, arm_execs_cons, bind_assoc]
    congr 1
    funext f
    cases f with
    | next => exact execs_app env bs as
    | brk => rw [pure_bind]
    | cont => rw [pure_bind]
    | ret v => rw [pure_bind]
/-- a block in two parts, with a word between them -/
theorem pss_at {X : Cx} {l : List Stmt} (n : Nat) {t u : TS} (h1 : PSs X (l.take n) t) (h2 : PSs X (l.drop n) u) : PSs X l (Evl.tCut t u) := by
  refine ⟨fun pins s σ H D I h => ?_⟩
  obtain ⟨Mid, hm, hu⟩ := h
  rw [← List.take_append_drop n l, execs_app]
  refine wpAny_bind (thn (h1.run pins s σ H { D with nx := Mid } I hm) fun f s1 q => ?_)
  cases f with
  | next =>
    obtain ⟨σ', H', I', q⟩ := q
    exact h2.run pins s1 σ' H' D I' (hu σ' H' q)
  | ret v => exact wpAny_pure q
  | brk => exact wpAny_pure q
  | cont => exact wpAny_pure q
end Mh
/-! Tasks as data; how deep data are. -/
namespace Mh
open PySem L2
structure Qn where
  q : Int
  due : Int
  twin : Option (Int × Int)
structure Task where
  qs : List Qn
  wt : Int
def twinDt : Option (Int × Int) → PyData
  | none => .none
  | some (y, e) => .tuple [.int y, .int e]
def Qn.dt (r : Qn) : PyData := .tuple [.int r.q, .int r.due, twinDt r.twin]
def Task.dt (t : Task) : PyData := .tuple [.tuple (t.qs.map Qn.dt), .int t.wt]
def dueOk (i : Int) : Prop := -99999999 ≤ i ∧ i ≤ 99999999
def Qn.Ok (r : Qn) : Prop := 0 ≤ r.q ∧ r.q ≤ 9999 ∧ dueOk r.due ∧ ∀ y e, r.twin = some (y, e) → 0 ≤ y ∧ y ≤ 9999 ∧ dueOk e
def Task.Ok (t : Task) : Prop := 1 ≤ t.qs.length ∧ t.qs.length ≤ 16 ∧ (∀ r ∈ t.qs, r.Ok) ∧ (t.qs.map Qn.q).Nodup ∧ 1 ≤ t.wt ∧ t.wt ≤ 9
theorem twin_td (o : Option (Int × Int)) : TD (twinDt o) = true := by
  cases o with
  | none => rfl
  | some p => rfl
theorem qn_td (r : Qn) : TD r.dt = true := by simp [Qn.dt, TD, TDs, twin_td]
theorem tds_map {α : Type} {f : α → PyData} (h : ∀ a, TD (f a) = true) (l : List α) : TDs (l.map f) = true := tds_mem.mpr fun d hd => by
  obtain ⟨r, _, rfl⟩ := List.mem_map.mp hd
  exact h r
theorem task_td (t : Task) : TD t.dt = true := by simp [Task.dt, TD, TDs, tds_map qn_td]
/-- data no deeper than n, no list longer than 1000 -/
def deep : Nat → PyData → Bool
  | _, .none => true
  | _, .bool _ => true
  | _, .int _ => true
  | _, .str _ => true
  | n + 1, .list ds => decide (ds.length ≤ 1000) && ds.all (deep n)
  | n + 1, .tuple ds => decide (ds.length ≤ 1000) && ds.all (deep n)
  | _, _ => false
theorem ty_lst {K : PySem.W.Frag} {H : Hp} {a : Addr} {xs : List V} (h : SqL K H a xs) : TyX K H (.ref a) (.type "list") := by
  rcases h with h | h
  · rcases h with h | ⟨o, h⟩
    · exact .base (.lst h)
    · exact .base (.frz h)
  · obtain ⟨o, its, n, h1, h2, _⟩ := h
    exact .kList h1 h2
/-- all lists and tuples stay -/
theorem same_sql {K : PySem.W.Frag} {H H' : Hp} {a : Addr} {xs : List V} (e : Same H H') (h : SqL K H a xs) : SqL K H' a xs := e.seq h
mutual
theorem dp_same {K : PySem.W.Frag} {H H' : Hp} (e : Same H H') : ∀ (d : PyData) (v : V), Dp K H v d → Dp K H' v d
  | .none, _, h => by cases h; exact .non
  | .bool b, _, h => by cases h; exact .bl b
  | .int i, _, h => by cases h; exact .int i
  | .str x, _, h => by cases h; exact .str x
  | .dict _, _, h => by cases h
  | .list ds, _, h => by
    cases h with
    | lst hs ha => exact .lst (e.seq hs) (dps_same e ds _ ha)
  | .tuple ds, _, h => by
    cases h with
    | tup hs ha => exact .tup (KT.same e _ _ hs) (dps_same e ds _ ha)
theorem dps_same {K : PySem.W.Frag} {H H' : Hp} (e : Same H H') : ∀ (ds : List PyData) (vs : List V), DpAll K H vs ds → DpAll K H' vs ds
  | [], _, h => by cases h; exact .nil
  | d :: ds, _, h => by
    cases h with
    | cons h1 h2 => exact .cons (dp_same e d _ h1) (dps_same e ds _ h2)
end
theorem dps_at {K : PySem.W.Frag} {H : Hp} : ∀ {vs : List V} {ds : List PyData} {i : Nat} {d : PyData}, DpAll K H vs ds → ds[i]? = some d → ∃ v, vs[i]? = some v ∧ Dp K H v d
  | _, _, _, _, .nil, e => by simp at e
  | _, _, 0, _, .cons h _, e => by
    simp at e
    subst e
    exact ⟨_, rfl, h⟩
  | _, _, i + 1, d, .cons _ t, e => by
    obtain ⟨v, h1, h2⟩ := dps_at (i := i) (d := d) t (by simpa using e)
    exact ⟨v, by simpa using h1, h2⟩
/-- what a task's right answers are -/
def Qn.good (m : Mach) (s : Int) (r : Qn) : Bool := decide (tell r.q s m = some r.due)
/-- bounds of what a machine tells -/
theorem tell_bound {q s : Int} : ∀ {m : Mach} {i : Int}, (∀ r ∈ m, r.1.Ok ∧ r.2.Ok) → 0 ≤ q → q ≤ 9999 → tell q s m = some i → dueOk i
  | [], _, _, _, _, h => by cases h
  | (t, a) :: m, i, ho, h0, h1, h => by
    have o1 := (ho _ List.mem_cons_self).2
    unfold tell at h
    split at h
    · cases a with
      | num n =>
        have e : n = i := Option.some.inj h
        subst e
        exact ⟨by have := o1.1; omega, by have := o1.2; omega⟩
      | plus n =>
        have e : q + n = i := Option.some.inj h
        subst e
        exact ⟨by have := o1.1; omega, by have := o1.2; omega⟩
      | times n =>
        have e : q * n = i := Option.some.inj h
        subst e
        have n0 := o1.1
        have n1 := o1.2
        have p1 : q * n ≤ q * 9999 := Int.mul_le_mul_of_nonneg_left n1 h0
        have p2 : q * (-9999) ≤ q * n := Int.mul_le_mul_of_nonneg_left n0 h0
        exact ⟨by omega, by omega⟩
      | rest n =>
        have e : q % n = i := Option.some.inj h
        subst e
        have n0 := o1.1
        have n1 := o1.2
        have p1 := Int.emod_nonneg q (b := n) (by omega)
        have p2 := Int.emod_lt_of_pos q (b := n) (by omega)
        exact ⟨by omega, by omega⟩
      | non => cases h
    · exact tell_bound (fun r hr => ho r (List.mem_cons_of_mem _ hr)) h0 h1 h
end Mh
namespace Mh
open PySem L2
/-- data that may be compared -/
def Sh (n : Nat) (d : PyData) : Prop := d.canLay0 = true ∧ d.depth ≤ n
theorem sh_int {n : Nat} (i : Int) : Sh n (.int i) := ⟨by simp [PyData.canLay0], by simp [PyData.depth]⟩
theorem sh_non {n : Nat} : Sh n .none := ⟨by simp [PyData.canLay0], by simp [PyData.depth]⟩
theorem sh_all {n : Nat} : ∀ {ds : List PyData}, (∀ d ∈ ds, Sh n d) → PyData.canLayAll0 ds = true ∧ PyData.depthAll ds ≤ n
  | [], _ => ⟨by simp [PyData.canLayAll0], by simp [PyData.depthAll]⟩
  | d :: ds, h => by
    obtain ⟨h1, h2⟩ := sh_all (n := n) (ds := ds) fun x hx => h x (List.mem_cons_of_mem _ hx)
    obtain ⟨h3, h4⟩ := h d List.mem_cons_self
    exact ⟨by simp [PyData.canLayAll0, h1, h3], by simp only [PyData.depthAll]; omega⟩
theorem sh_list {n : Nat} {ds : List PyData} (h : ∀ d ∈ ds, Sh n d) : Sh (n + 1) (.list ds) := by
  obtain ⟨h1, h2⟩ := sh_all h
  exact ⟨by simpa [PyData.canLay0] using h1, by simp only [PyData.depth]; omega⟩
theorem sh_tuple {n : Nat} {ds : List PyData} (h : ∀ d ∈ ds, Sh n d) : Sh (n + 1) (.tuple ds) := by
  obtain ⟨h1, h2⟩ := sh_all h
  exact ⟨by simpa [PyData.canLay0] using h1, by simp only [PyData.depth]; omega⟩
theorem Sh.mono {n m : Nat} {d : PyData} (h : Sh n d) (l : n ≤ m) : Sh m d := ⟨h.1, Nat.le_trans h.2 l⟩
theorem Sh.shaped {n : Nat} {d : PyData} (h : Sh n d) (l : n ≤ 64) : SeqAt.shaped d = true := by
  unfold SeqAt.shaped
  rw [h.1, decide_eq_true (Nat.le_trans h.2 l)]
  rfl
theorem eqv_nil {ds : List PyData} : PyData.eqv (.list ds) (.list []) = ds.isEmpty := by
  cases ds <;> simp [PyData.eqv, PyData.eqvAll]
theorem dps_zip {K : PySem.W.Frag} {H : Hp} : ∀ {zs : List (V × PyData)}, (∀ z ∈ zs, Dp K H z.1 z.2) → DpAll K H (zs.map (·.1)) (zs.map (·.2))
  | [], _ => .nil
  | z :: zs, h => .cons (h z List.mem_cons_self) (dps_zip fun y hy => h y (List.mem_cons_of_mem _ hy))
theorem eraseIdx_map {α β : Type} (f : α → β) : ∀ (l : List α) (i : Nat), (l.map f).eraseIdx i = (l.eraseIdx i).map f
  | [], _ => rfl
  | _ :: _, 0 => rfl
  | a :: l, i + 1 => by simp [eraseIdx_map f l i]
theorem perm_erase {α : Type} : ∀ {l : List α} {i : Nat} {a : α}, l[i]? = some a → (a :: l.eraseIdx i).Perm l
  | [], i, a, h => by simp at h
  | b :: l, 0, a, h => by
    simp at h
    subst h
    exact List.Perm.refl _
  | b :: l, i + 1, a, h => by
    have h2 := perm_erase (l := l) (i := i) (a := a) (by simpa using h)
    show (a :: b :: l.eraseIdx i).Perm (b :: l)
    exact (List.Perm.swap b a _).trans (List.Perm.cons b h2)
end Mh
/-! The same rules within a comprehension, where the written part is told by its name. -/
namespace Mh
open PySem L2
section
variable {X : Cx} {K : PySem.W.Frag}
theorem ixK_list (e : X.K = K) : IxR X (rIxL K) := by subst e; exact ix_list
theorem ixK_tup (e : X.K = K) : IxR X (rIxT K) := by subst e; exact ix_tup
theorem ixK_seq (e : X.K = K) : IxR X (rIx K) := by subst e; exact ix_seq
theorem opK_in_seq (e : X.K = K) : OpR X (compareOp .In) (rIn K false) := by subst e; exact op_in_seq
theorem opK_notIn_seq (e : X.K = K) : OpR X (compareOp .NotIn) (rIn K true) := by subst e; exact op_notIn_seq
theorem opK_eqD (e : X.K = K) (hu : X.A.units + 64 < cLine) : OpR X (compareOp .Eq) (rEqD K) := by subst e; exact op_eqD hu
theorem opK_neD (e : X.K = K) (hu : X.A.units + 64 < cLine) : OpR X (compareOp .NotEq) (rNeD K) := by subst e; exact op_neD hu
theorem opK_catA (e : X.K = K) : OpR X (binaryOp .Add) (rCatA K) := by subst e; exact op_catA
def rLenQ (K : PySem.W.Frag) : List V → Hp → VK → Prop := fun xs H Q => ∃ p ys, xs = [.ref p] ∧ (SqL K H p ys ∨ SqT K H p ys) ∧ Q (.int ys.length) H
theorem callK_len_seq (e : X.K = K) : CallR X (.builtin "len") (rLenQ K) := by subst e; exact call_len_seq
theorem crK_sum (e : X.K = K) (hc : X.calm = true) : CallR X (.builtin "sum") (rSum K) := by subst e; exact cr_sum hc
theorem crK_all (e : X.K = K) (hc : X.calm = true) : CallR X (.builtin "all") (rAll K) := by subst e; exact cr_all hc
theorem crK_any (e : X.K = K) (hc : X.calm = true) : CallR X (.builtin "any") (rAny K) := by subst e; exact cr_any hc
def rListQ (K : PySem.W.Frag) : List V → Hp → VK → Prop := fun xs H Q => ∃ p ys, xs = [.ref p] ∧ (SqL K H p ys ∨ SqT K H p ys) ∧ ∀ l, H l = none → Q (.ref l) (upd H l (.lst ys))
theorem callK_list_of (e : X.K = K) : CallR X (.type "list") (rListQ K) := by subst e; exact call_list_of
def rTupleQ (K : PySem.W.Frag) : List V → Hp → VK → Prop := fun xs H Q => ∃ p ys, xs = [.ref p] ∧ ((SqL K H p ys ∧ ∀ l, H l = none → Q (.ref l) (upd H l (.tup ys))) ∨ (SqT K H p ys ∧ Q (.ref p) H))
theorem callK_tuple_of (e : X.K = K) : CallR X (.type "tuple") (rTupleQ K) := by subst e; exact call_tuple_of
theorem slK_list (e : X.K = K) : SlR X (rSlL K) := by subst e; exact sl_list
theorem slK_tup (e : X.K = K) : SlR X (rSlT K) := by subst e; exact sl_tup
end
end Mh
/-! A dict of names compared with one that is empty. -/
namespace Mh
open PySem L2
section
variable {X : Cx}
def rEqD0 : R2 := fun x y H Q => ∃ a b ks, x = .ref a ∧ y = .ref b ∧ H a = some (.dK ks) ∧ H b = some (.dK []) ∧ Q (.bl (ks.length == 0)) H
def rNeD0 : R2 := fun x y H Q => ∃ a b ks, x = .ref a ∧ y = .ref b ∧ H a = some (.dK ks) ∧ H b = some (.dK []) ∧ Q (.bl (!(ks.length == 0))) H
theorem op_eq_dict0 (hu : X.A.units < cLine) : OpR X (compareOp .Eq) rEqD0 := by
  intro pins s σ H x y v u Q I rx ry h
  obtain ⟨a, b, ks, rfl, rfl, ea, eb, q⟩ := h
  obtain rfl : v = Value.ref a := rx
  obtain rfl : u = Value.ref b := ry
  obtain ⟨_, ya, va, ra, da⟩ := (show ObjOk X.prog X.w H s.heap a (.dK ks) from I.hok a _ ea)
  obtain ⟨_, yb, vb, rb, db⟩ := (show ObjOk X.prog X.w H s.heap b (.dK []) from I.hok b _ eb)
  have hb : vb.length = 0 := by rw [← rb.length]; rfl
  have ha : va.length = ks.length := ra.length.symm
  refine PySem.W.keq_eq (knd := mixKind X.prog X.w) (r := true) ya yb da db hu (fun e => ?_) (fin_bl I q (by rw [ha, hb, Bool.and_true]))
  have k0 : ks = [] := List.length_eq_zero_iff.mp (by omega)
  subst k0
  exact hits_all rb ra (by simp)
theorem op_ne_dict0 (hu : X.A.units < cLine) : OpR X (compareOp .NotEq) rNeD0 := by
  intro pins s σ H x y v u Q I rx ry h
  obtain ⟨a, b, ks, rfl, rfl, ea, eb, q⟩ := h
  obtain rfl : v = Value.ref a := rx
  obtain rfl : u = Value.ref b := ry
  obtain ⟨_, ya, va, ra, da⟩ := (show ObjOk X.prog X.w H s.heap a (.dK ks) from I.hok a _ ea)
  obtain ⟨_, yb, vb, rb, db⟩ := (show ObjOk X.prog X.w H s.heap b (.dK []) from I.hok b _ eb)
  have hb : vb.length = 0 := by rw [← rb.length]; rfl
  have ha : va.length = ks.length := ra.length.symm
  refine PySem.W.keq_ne (knd := mixKind X.prog X.w) (r := true) ya yb da db hu (fun e => ?_) (fin_bl I q (by rw [ha, hb, Bool.and_true]))
  have k0 : ks = [] := List.length_eq_zero_iff.mp (by omega)
  subst k0
  exact hits_all rb ra (by simp)
end
end Mh
/-! Two sorted lists of the same texts are one. -/
namespace Mh
open PySem L2
def leS (a b : Str) : Prop := ¬ b.cps.toList < a.cps.toList
theorem leS_of {a b : Str} (h : PySem.Spec.ltCps b.cps.toList a.cps.toList = false) : leS a b := by
  intro z
  rw [PyProof.Rows.ltCps_eq, decide_eq_false_iff_not] at h
  exact h z
theorem leS_trans {a b c : Str} (h1 : leS a b) (h2 : leS b c) : leS a c := by
  have q : a.cps.toList ≤ c.cps.toList := List.le_trans (show a.cps.toList ≤ b.cps.toList from h1) (show b.cps.toList ≤ c.cps.toList from h2)
  exact q
theorem leS_antisymm {a b : Str} (h1 : leS a b) (h2 : leS b a) : a = b := by
  have q : a.cps.toList = b.cps.toList := List.le_antisymm (show a.cps.toList ≤ b.cps.toList from h1) (show b.cps.toList ≤ a.cps.toList from h2)
  cases a
  cases b
  have q := Array.toList_inj.mp q
  simp at q
  rw [q]
theorem rising_pw : ∀ {p : Str} {l : List Str}, PyProof.Rows.risingS p l = true → (p :: l).Pairwise leS
  | p, [], _ => by simp
  | p, x :: r, h => by
    have h : (!PySem.Spec.ltCps x.cps.toList p.cps.toList && PyProof.Rows.risingS x r) = true := h
    rw [Bool.and_eq_true, Bool.not_eq_true'] at h
    have px := leS_of h.1
    have ih := rising_pw h.2
    refine List.pairwise_cons.mpr ⟨fun y hy => ?_, ih⟩
    rcases List.mem_cons.mp hy with rfl | hy
    · exact px
    · exact leS_trans px ((List.pairwise_cons.mp ih).1 y hy)
theorem sorted_pw {l : List Str} (h : PyProof.Rows.sortedS l = true) : l.Pairwise leS := by
  cases l with
  | nil => exact List.Pairwise.nil
  | cons x r => exact rising_pw h
theorem pw_uniq : ∀ {l m : List Str}, l.Perm m → l.Pairwise leS → m.Pairwise leS → l = m
  | [], m, p, _, _ => (List.nil_perm.mp p).symm
  | a :: l, [], p, _, _ => absurd p.length_eq (by simp)
  | a :: l, b :: m, p, h1, h2 => by
    have e : a = b := by
      rcases List.mem_cons.mp (p.mem_iff.mp (List.mem_cons_self (a := a) (l := l))) with e | e
      · exact e
      · rcases List.mem_cons.mp (p.mem_iff.mpr (List.mem_cons_self (a := b) (l := m))) with q | q
        · exact q.symm
        · exact leS_antisymm ((List.pairwise_cons.mp h1).1 b q) ((List.pairwise_cons.mp h2).1 a e)
    subst e
    rw [pw_uniq (List.Perm.cons_inv p) (List.pairwise_cons.mp h1).2 (List.pairwise_cons.mp h2).2]
theorem sorted_uniq {l m : List Str} (p : l.Perm m) (h1 : PyProof.Rows.sortedS l = true) (h2 : PyProof.Rows.sortedS m = true) : l = m := pw_uniq p (sorted_pw h1) (sorted_pw h2)
/-- the names, sorted -/
instance (a b : Str) : Decidable (leS a b) := inferInstanceAs (Decidable (¬ b.cps.toList < a.cps.toList))
def sortN (l : List Str) : List Str := l.mergeSort fun a b => decide (leS a b)
theorem sortN_perm (l : List Str) : (sortN l).Perm l := List.mergeSort_perm l _
theorem sortN_pw (l : List Str) : (sortN l).Pairwise leS := by
  have h := List.pairwise_mergeSort (le := fun a b => decide (leS a b)) (fun a b c h1 h2 => decide_eq_true (leS_trans (of_decide_eq_true h1) (of_decide_eq_true h2)))
    (fun a b => by
      have t : a.cps.toList ≤ b.cps.toList ∨ b.cps.toList ≤ a.cps.toList := List.le_total _ _
      rcases t with t | t
      · rw [decide_eq_true (show leS a b from t)]
        rfl
      · rw [decide_eq_true (show leS b a from t), Bool.or_true]) l
  exact h.imp fun h => of_decide_eq_true h
theorem sortN_eq {ys l : List Str} (p : ys.Perm l) (h : PyProof.Rows.sortedS ys = true) : ys = sortN l := pw_uniq (p.trans (sortN_perm l).symm) (sorted_pw h) (sortN_pw l)
theorem sortN_len (l : List Str) : (sortN l).length = l.length := (sortN_perm l).length_eq
end Mh
/-! isinstance of data; math.comb. -/
namespace Mh
open PySem L2
theorem ty_tupD {K : PySem.W.Frag} {H : Hp} {a : Addr} {xs : List V} (h : SqT K H a xs) : TyX K H (.ref a) (.type "tuple") := by
  rcases h with h | h
  · rcases h with h | ⟨o, h⟩
    · exact .base (.tup h)
    · exact .fTuple h
  · obtain ⟨o, its, n, h1, h2, _⟩ := h
    exact .kTuple h1 h2
def tyD : PyData → String
  | .none => "NoneType"
  | .bool _ => "bool"
  | .int _ => "int"
  | .str _ => "str"
  | .list _ => "list"
  | .tuple _ => "tuple"
  | .dict _ => "dict"
theorem dp_ty {K : PySem.W.Frag} {H : Hp} {v : V} {d : PyData} (h : Dp K H v d) : TyX K H v (.type (tyD d)) := by
  cases h with
  | non => exact .base .non
  | bl b => exact .base (.bl b)
  | int i => exact .base (.int i)
  | str x => exact .base (.str x)
  | lst h _ => exact ty_lst h
  | tup h _ => exact ty_tupD h
def isTup : PyData → Bool
  | .tuple _ => true
  | _ => false
def isLst : PyData → Bool
  | .list _ => true
  | _ => false
def isStrD : PyData → Bool
  | .str _ => true
  | _ => false
def isBool : PyData → Bool
  | .bool _ => true
  | _ => false
def isIntD : PyData → Bool
  | .int _ => true
  | .bool _ => true
  | _ => false
section
variable {K : PySem.W.Frag}
theorem kit_tup (d : PyData) : PySem.W.kitOne K (.type (tyD d)) (.type "tuple") = some (isTup d) := by
  cases d <;> exact kit_ty (by dsimp only [tyD, isTup, isLst, isStrD, isBool, isIntD]; decide +kernel)
theorem kit_str (d : PyData) : PySem.W.kitOne K (.type (tyD d)) (.type "str") = some (isStrD d) := by
  cases d <;> exact kit_ty (by dsimp only [tyD, isTup, isLst, isStrD, isBool, isIntD]; decide +kernel)
theorem kit_lst (d : PyData) : PySem.W.kitOne K (.type (tyD d)) (.type "list") = some (isLst d) := by
  cases d <;> exact kit_ty (by dsimp only [tyD, isTup, isLst, isStrD, isBool, isIntD]; decide +kernel)
theorem kit_bool (d : PyData) : PySem.W.kitOne K (.type (tyD d)) (.type "bool") = some (isBool d) := by
  cases d <;> exact kit_ty (by dsimp only [tyD, isTup, isLst, isStrD, isBool, isIntD]; decide +kernel)
theorem kit_int (d : PyData) : PySem.W.kitOne K (.type (tyD d)) (.type "int") = some (isIntD d) := by
  cases d <;> exact kit_ty (by dsimp only [tyD, isTup, isLst, isStrD, isBool, isIntD]; decide +kernel)
end
/-- in how many ways j are taken of n -/
def binom : Nat → Nat → Nat
  | _, 0 => 1
  | 0, _ + 1 => 0
  | n + 1, k + 1 => binom n k + binom n (k + 1)
theorem comb_step : ∀ n, n < 33 → ∀ k, k < 34 → PySem.W.mcComb ((n + 1 : Nat) : Int) ((k + 1 : Nat) : Int) = PySem.W.mcComb (n : Int) (k : Int) + PySem.W.mcComb (n : Int) ((k + 1 : Nat) : Int) := by decide +kernel
theorem comb_binom : ∀ {n k : Nat}, n ≤ 33 → k ≤ 34 → PySem.W.mcComb (n : Int) (k : Int) = ((binom n k : Nat) : Int)
  | n, 0, _, _ => by
    have e := PySem.W.mcComb_ends (a := (n : Int)) (b := ((0 : Nat) : Int)) (by omega) (by omega) (.inl rfl)
    rw [e]
    cases n <;> rfl
  | 0, k + 1, _, _ => PySem.W.mcComb_above (by omega)
  | n + 1, k + 1, hn, hk => by
    rw [comb_step n (by omega) k (by omega), comb_binom (n := n) (k := k) (by omega) (by omega), comb_binom (n := n) (k := k + 1) (by omega) (by omega)]
    rfl
section
variable {X : Cx}
def rComb : List V → Hp → VK → Prop := fun vs H Q => ∃ a b : Nat, vs = [.int a, .int b] ∧ a ≤ 33 ∧ b ≤ 34 ∧ Q (.int ((binom a b : Nat) : Int)) H
theorem cr_comb : CallR X (.builtin "math.comb") rComb := by
  intro pins s σ H vs us Q I r h
  obtain ⟨a, b, rfl, ha, hb, q⟩ := h
  obtain ⟨t, u, rfl⟩ := Vals.int2 r
  exact PySem.W.mc_comb (by omega) (by omega) (by omega) (.inl (by omega)) fun _ => by
    rw [comb_binom ha hb]
    exact ⟨.int _, H, I.tok _, ⟨_, rfl⟩, q⟩
end
end Mh
namespace Mh
open PySem L2
def top (i : Nat) : Stmt := PySem.Challenge.pw_measurehall_k08_learnt_by_heart.main.body.getD i (.Pass ⟨0, 0, 0, 0⟩)
abbrev s_is_number : Stmt := top 14
abbrev N_is_number : List Str := ["value", "low", "high"]
theorem sc_is_number : FnScope N_is_number ["value", "low", "high"] (defScope s_is_number) := ⟨rfl, rfl, rfl, by decide +kernel, rfl, by decide +kernel, by decide +kernel⟩
abbrev s_is_question : Stmt := top 15
abbrev N_is_question : List Str := ["value"]
theorem sc_is_question : FnScope N_is_question ["value"] (defScope s_is_question) := ⟨rfl, rfl, rfl, by decide +kernel, rfl, by decide +kernel, by decide +kernel⟩
abbrev s_is_seed : Stmt := top 16
abbrev N_is_seed : List Str := ["value"]
theorem sc_is_seed : FnScope N_is_seed ["value"] (defScope s_is_seed) := ⟨rfl, rfl, rfl, by decide +kernel, rfl, by decide +kernel, by decide +kernel⟩
abbrev s_is_divisor : Stmt := top 17
abbrev N_is_divisor : List Str := ["value"]
theorem sc_is_divisor : FnScope N_is_divisor ["value"] (defScope s_is_divisor) := ⟨rfl, rfl, rfl, by decide +kernel, rfl, by decide +kernel, by decide +kernel⟩
abbrev s_is_known : Stmt := top 18
abbrev N_is_known : List Str := ["numbers", "one", "other", "number"]
theorem sc_is_known : FnScope N_is_known ["numbers"] (defScope s_is_known) := ⟨rfl, rfl, rfl, by decide +kernel, rfl, by decide +kernel, by decide +kernel⟩
abbrev s_is_test : Stmt := top 19
abbrev N_is_test : List Str := ["test", "bound", "divisor", "rest", "numbers"]
theorem sc_is_test : FnScope N_is_test ["test"] (defScope s_is_test) := ⟨rfl, rfl, rfl, by decide +kernel, rfl, by decide +kernel, by decide +kernel⟩
abbrev s_is_answer : Stmt := top 20
abbrev N_is_answer : List Str := ["answer", "number", "divisor"]
theorem sc_is_answer : FnScope N_is_answer ["answer"] (defScope s_is_answer) := ⟨rfl, rfl, rfl, by decide +kernel, rfl, by decide +kernel, by decide +kernel⟩
abbrev s_is_row : Stmt := top 21
abbrev N_is_row : List Str := ["row"]
theorem sc_is_row : FnScope N_is_row ["row"] (defScope s_is_row) := ⟨rfl, rfl, rfl, by decide +kernel, rfl, by decide +kernel, by decide +kernel⟩
abbrev s_check_machine : Stmt := top 22
abbrev N_check_machine : List Str := ["machine", "at", "row"]
theorem sc_check_machine : FnScope N_check_machine ["machine"] (defScope s_check_machine) := ⟨rfl, rfl, rfl, by decide +kernel, rfl, by decide +kernel, by decide +kernel⟩
abbrev s_check_seed : Stmt := top 23
abbrev N_check_seed : List Str := ["seed"]
theorem sc_check_seed : FnScope N_check_seed ["seed"] (defScope s_check_seed) := ⟨rfl, rfl, rfl, by decide +kernel, rfl, by decide +kernel, by decide +kernel⟩
abbrev s_does_hold : Stmt := top 24
abbrev N_does_hold : List Str := ["test", "question", "seed", "bound", "divisor", "rest", "numbers"]
theorem sc_does_hold : FnScope N_does_hold ["test", "question", "seed"] (defScope s_does_hold) := ⟨rfl, rfl, rfl, by decide +kernel, rfl, by decide +kernel, by decide +kernel⟩
abbrev s_outcome : Stmt := top 25
abbrev N_outcome : List Str := ["answer", "question", "number", "divisor"]
theorem sc_outcome : FnScope N_outcome ["answer", "question"] (defScope s_outcome) := ⟨rfl, rfl, rfl, by decide +kernel, rfl, by decide +kernel, by decide +kernel⟩
abbrev s_run : Stmt := top 26
abbrev N_run : List Str := ["machine", "question", "seed", "test", "answer"]
theorem sc_run : FnScope N_run ["machine", "question", "seed"] (defScope s_run) := ⟨rfl, rfl, rfl, by decide +kernel, rfl, by decide +kernel, by decide +kernel⟩
abbrev s_is_due : Stmt := top 31
abbrev N_is_due : List Str := ["value"]
theorem sc_is_due : FnScope N_is_due ["value"] (defScope s_is_due) := ⟨rfl, rfl, rfl, by decide +kernel, rfl, by decide +kernel, by decide +kernel⟩
abbrev s_is_twin : Stmt := top 32
abbrev N_is_twin : List Str := ["twin"]
theorem sc_is_twin : FnScope N_is_twin ["twin"] (defScope s_is_twin) := ⟨rfl, rfl, rfl, by decide +kernel, rfl, by decide +kernel, by decide +kernel⟩
abbrev s_is_asked : Stmt := top 33
abbrev N_is_asked : List Str := ["asked"]
theorem sc_is_asked : FnScope N_is_asked ["asked"] (defScope s_is_asked) := ⟨rfl, rfl, rfl, by decide +kernel, rfl, by decide +kernel, by decide +kernel⟩
abbrev s_is_framed : Stmt := top 34
abbrev N_is_framed : List Str := ["task", "questions", "weight"]
theorem sc_is_framed : FnScope N_is_framed ["task"] (defScope s_is_framed) := ⟨rfl, rfl, rfl, by decide +kernel, rfl, by decide +kernel, by decide +kernel⟩
abbrev s_check_task : Stmt := top 35
abbrev N_check_task : List Str := ["task", "found", "at", "asked"]
theorem sc_check_task : FnScope N_check_task ["task"] (defScope s_check_task) := ⟨rfl, rfl, rfl, by decide +kernel, rfl, by decide +kernel, by decide +kernel⟩
abbrev s_check_run : Stmt := top 36
abbrev N_check_run : List Str := ["machine", "task", "seed"]
theorem sc_check_run : FnScope N_check_run ["machine", "task", "seed"] (defScope s_check_run) := ⟨rfl, rfl, rfl, by decide +kernel, rfl, by decide +kernel, by decide +kernel⟩
abbrev s_heart : Stmt := top 37
abbrev N_heart : List Str := ["machine", "task", "seed", "paired", "many", "here", "there", "ways", "question", "due", "twin", "laid", "_"]
theorem sc_heart : FnScope N_heart ["machine", "task", "seed"] (defScope s_heart) := ⟨rfl, rfl, rfl, by decide +kernel, rfl, by decide +kernel, by decide +kernel⟩
abbrev s_dice : Stmt := top 39
abbrev N_dice : List Str := ["_law_script", "_law_k", "_law_found", "_law_cell"]
theorem sc_dice : FnScope N_dice ["_law_script", "_law_k"] (defScope s_dice) := ⟨rfl, rfl, rfl, by decide +kernel, rfl, by decide +kernel, by decide +kernel⟩
abbrev s_off : Stmt := top 40
abbrev N_off : List Str := ["_law_d", "_law_upto", "_law_found"]
theorem sc_off : FnScope N_off ["_law_d", "_law_upto"] (defScope s_off) := ⟨rfl, rfl, rfl, by decide +kernel, rfl, by decide +kernel, by decide +kernel⟩
abbrev s_alike : Stmt := top 41
abbrev N_alike : List Str := ["_law_found", "_law_due", "_law_k"]
theorem sc_alike : FnScope N_alike ["_law_found", "_law_due"] (defScope s_alike) := ⟨rfl, rfl, rfl, by decide +kernel, rfl, by decide +kernel, by decide +kernel⟩
abbrev s_mixed : Stmt := top 42
abbrev N_mixed : List Str := ["_law_d", "_law_row", "_law_left", "_law_found"]
theorem sc_mixed : FnScope N_mixed ["_law_d", "_law_row"] (defScope s_mixed) := ⟨rfl, rfl, rfl, by decide +kernel, rfl, by decide +kernel, by decide +kernel⟩
abbrev s_test : Stmt := top 43
abbrev N_test : List Str := ["_law_d", "_law_kind", "_law_m", "_law_k"]
theorem sc_test : FnScope N_test ["_law_d"] (defScope s_test) := ⟨rfl, rfl, rfl, by decide +kernel, rfl, by decide +kernel, by decide +kernel⟩
abbrev s_answer : Stmt := top 44
abbrev N_answer : List Str := ["_law_d", "_law_kind", "_law_n"]
theorem sc_answer : FnScope N_answer ["_law_d"] (defScope s_answer) := ⟨rfl, rfl, rfl, by decide +kernel, rfl, by decide +kernel, by decide +kernel⟩
abbrev s_machine : Stmt := top 45
abbrev N_machine : List Str := ["_law_d", "_law_k"]
theorem sc_machine : FnScope N_machine ["_law_d"] (defScope s_machine) := ⟨rfl, rfl, rfl, by decide +kernel, rfl, by decide +kernel, by decide +kernel⟩
abbrev s_told : Stmt := top 46
abbrev N_told : List Str := ["_law_machine_here", "_law_question", "_law_grain", "_law_test_here", "_law_answer_here", "_law_word", "_law_good", "_law_whole", "_law_told_here"]
theorem sc_told : FnScope N_told ["_law_machine_here", "_law_question", "_law_grain"] (defScope s_told) := ⟨rfl, rfl, rfl, by decide +kernel, rfl, by decide +kernel, by decide +kernel⟩
abbrev s_task : Stmt := top 47
abbrev N_task : List Str := ["_law_d", "_law_machine_here", "_law_numbers", "_law_often", "_law_rows", "_law_x", "_law_due", "_law_twin", "_law_y"]
theorem sc_task : FnScope N_task ["_law_d", "_law_machine_here"] (defScope s_task) := ⟨rfl, rfl, rfl, by decide +kernel, rfl, by decide +kernel, by decide +kernel⟩
abbrev s_ways : Stmt := top 48
abbrev N_ways : List Str := ["_law_many", "_law_row", "_law_turn", "_law_one", "_law_other"]
theorem sc_ways : FnScope N_ways ["_law_many"] (defScope s_ways) := ⟨rfl, rfl, rfl, by decide +kernel, rfl, by decide +kernel, by decide +kernel⟩
abbrev s_law : Stmt := top 49
abbrev N_law : List Str := ["_law_script", "_law_d", "_law_turn", "_law_machine_here", "_law_task_here", "_law_grain", "_law_some", "_law_here", "_law_there", "_law_row", "_law_ways_here", "_law_k", "_law_due", "_law_one"]
theorem sc_law : FnScope N_law ["_law_script"] (defScope s_law) := ⟨rfl, rfl, rfl, by decide +kernel, rfl, by decide +kernel, by decide +kernel⟩
structure Adr where
  is_number : Addr
  is_number_ : FuncData
  is_question : Addr
  is_question_ : FuncData
  is_seed : Addr
  is_seed_ : FuncData
  is_divisor : Addr
  is_divisor_ : FuncData
  is_known : Addr
  is_known_ : FuncData
  is_test : Addr
  is_test_ : FuncData
  is_answer : Addr
  is_answer_ : FuncData
  is_row : Addr
  is_row_ : FuncData
  check_machine : Addr
  check_machine_ : FuncData
  check_seed : Addr
  check_seed_ : FuncData
  does_hold : Addr
  does_hold_ : FuncData
  outcome : Addr
  outcome_ : FuncData
  run : Addr
  run_ : FuncData
  is_due : Addr
  is_due_ : FuncData
  is_twin : Addr
  is_twin_ : FuncData
  is_asked : Addr
  is_asked_ : FuncData
  is_framed : Addr
  is_framed_ : FuncData
  check_task : Addr
  check_task_ : FuncData
  check_run : Addr
  check_run_ : FuncData
  heart : Addr
  heart_ : FuncData
  dice : Addr
  dice_ : FuncData
  off : Addr
  off_ : FuncData
  alike : Addr
  alike_ : FuncData
  mixed : Addr
  mixed_ : FuncData
  test : Addr
  test_ : FuncData
  answer : Addr
  answer_ : FuncData
  machine : Addr
  machine_ : FuncData
  told : Addr
  told_ : FuncData
  task : Addr
  task_ : FuncData
  ways : Addr
  ways_ : FuncData
  law : Addr
  law_ : FuncData
structure Txt (K : PySem.W.Frag) (mg : Str → Option Value) (A : Adr) : Prop where
  n_abs : mg "abs" = none
  n_all : mg "all" = none
  n_bool : mg "bool" = none
  n_enumerate : mg "enumerate" = none
  n_int : mg "int" = none
  n_isinstance : mg "isinstance" = none
  n_len : mg "len" = none
  n_list : mg "list" = none
  n_max : mg "max" = none
  n_range : mg "range" = none
  n_set : mg "set" = none
  n_sorted : mg "sorted" = none
  n_str : mg "str" = none
  n_sum : mg "sum" = none
  n_tuple : mg "tuple" = none
  n_zip : mg "zip" = none
  c_LAST_QUESTION : GV mg "LAST_QUESTION" (.int 9999)
  c_LAST_SEED : GV mg "LAST_SEED" (.int 999)
  c_MOST_ROWS : GV mg "MOST_ROWS" (.int 12)
  c_MOST_KNOWN : GV mg "MOST_KNOWN" (.int 8)
  c_LEAST_DIVISOR : GV mg "LEAST_DIVISOR" (.int 2)
  c_MOST_DIVISOR : GV mg "MOST_DIVISOR" (.int 99)
  c_MOST_IN_ANSWER : GV mg "MOST_IN_ANSWER" (.int 9999)
  c_MOST_QUESTIONS : GV mg "MOST_QUESTIONS" (.int 16)
  c_MOST_DUE : GV mg "MOST_DUE" (.int 99999999)
  c_MOST_WEIGHT : GV mg "MOST_WEIGHT" (.int 9)
  m_comb : mg "comb" = some (.builtin "math.comb")
  is_number : Df K mg "is_number" s_is_number ["value", "low", "high"] A.is_number A.is_number_
  is_question : Df K mg "is_question" s_is_question ["value"] A.is_question A.is_question_
  is_seed : Df K mg "is_seed" s_is_seed ["value"] A.is_seed A.is_seed_
  is_divisor : Df K mg "is_divisor" s_is_divisor ["value"] A.is_divisor A.is_divisor_
  is_known : Df K mg "is_known" s_is_known ["numbers"] A.is_known A.is_known_
  is_test : Df K mg "is_test" s_is_test ["test"] A.is_test A.is_test_
  is_answer : Df K mg "is_answer" s_is_answer ["answer"] A.is_answer A.is_answer_
  is_row : Df K mg "is_row" s_is_row ["row"] A.is_row A.is_row_
  check_machine : Df K mg "check_machine" s_check_machine ["machine"] A.check_machine A.check_machine_
  check_seed : Df K mg "check_seed" s_check_seed ["seed"] A.check_seed A.check_seed_
  does_hold : Df K mg "does_hold" s_does_hold ["test", "question", "seed"] A.does_hold A.does_hold_
  outcome : Df K mg "outcome" s_outcome ["answer", "question"] A.outcome A.outcome_
  run : Df K mg "run" s_run ["machine", "question", "seed"] A.run A.run_
  is_due : Df K mg "is_due" s_is_due ["value"] A.is_due A.is_due_
  is_twin : Df K mg "is_twin" s_is_twin ["twin"] A.is_twin A.is_twin_
  is_asked : Df K mg "is_asked" s_is_asked ["asked"] A.is_asked A.is_asked_
  is_framed : Df K mg "is_framed" s_is_framed ["task"] A.is_framed A.is_framed_
  check_task : Df K mg "check_task" s_check_task ["task"] A.check_task A.check_task_
  check_run : Df K mg "check_run" s_check_run ["machine", "task", "seed"] A.check_run A.check_run_
  heart : DfK K mg "heart" s_heart ["machine", "task", "seed"] 2 ["seed"] A.heart A.heart_
  dice : Df K mg "_law_dice" s_dice ["_law_script", "_law_k"] A.dice A.dice_
  off : Df K mg "_law_off" s_off ["_law_d", "_law_upto"] A.off A.off_
  alike : Df K mg "_law_alike" s_alike ["_law_found", "_law_due"] A.alike A.alike_
  mixed : Df K mg "_law_mixed" s_mixed ["_law_d", "_law_row"] A.mixed A.mixed_
  test : Df K mg "_law_test" s_test ["_law_d"] A.test A.test_
  answer : Df K mg "_law_answer" s_answer ["_law_d"] A.answer A.answer_
  machine : Df K mg "_law_machine" s_machine ["_law_d"] A.machine A.machine_
  told : Df K mg "_law_told" s_told ["_law_machine_here", "_law_question", "_law_grain"] A.told A.told_
  task : Df K mg "_law_task" s_task ["_law_d", "_law_machine_here"] A.task A.task_
  ways : Df K mg "_law_ways" s_ways ["_law_many"] A.ways A.ways_
  law : Df K mg "law" s_law ["_law_script"] A.law A.law_
end Mh
namespace Mh
open PySem L2
local macro_rules | `(tactic| walk_at "g") => `(tactic| repeat (first
  | refine ⟨_, rfl, ?_⟩
  | refine ⟨_, _, rfl, rfl, ?_⟩
  | refine ⟨_, _, _, _, rfl, rfl, SqL.of (by assumption), at0, ?_⟩
  | refine ⟨_, _, _, _, rfl, rfl, SqL.of (by assumption), at1, ?_⟩
  | refine ⟨_, _, _, _, rfl, rfl, SqT.of (by assumption), at0, ?_⟩
  | refine ⟨_, _, _, _, rfl, rfl, SqT.of (by assumption), at1, ?_⟩
  | refine ⟨_, _, rfl, .inl (SqL.of (by assumption)), ?_⟩
  | refine ⟨rfl, ?_⟩
  | refine iteT ?_
  | refine iteF ?_))
/-- what may be handed in: none, truths, numbers, texts, lists, tuples -/
inductive Odd (K : PySem.W.Frag) (H : Hp) : V → Prop where
  | non : Odd K H .non
  | bl (b : Bool) : Odd K H (.bl b)
  | int (i : Int) : Odd K H (.int i)
  | str (x : Str) : Odd K H (.str x)
  | lst {a : Addr} {xs : List V} (h : SqL K H a xs) : Odd K H (.ref a)
  | tup {a : Addr} {xs : List V} (h : SqT K H a xs) : Odd K H (.ref a)
theorem Odd.of {K : PySem.W.Frag} {H : Hp} {v : V} {d : PyData} (h : Dp K H v d) : Odd K H v := by
  cases h with
  | non => exact .non
  | bl b => exact .bl b
  | int i => exact .int i
  | str x => exact .str x
  | lst h _ => exact .lst h
  | tup h _ => exact .tup h
def isNum (lo hi : Int) : V → Bool
  | .int i => decide (lo ≤ i) && decide (i ≤ hi)
  | _ => false
def spIsNum (K : PySem.W.Frag) : Sp := fun vs H Q _ => ∃ (v : V) (lo hi : Int), vs = [v, .int lo, .int hi] ∧ Odd K H v ∧ Q (.bl (isNum lo hi v)) H
def spIs (K : PySem.W.Frag) (lo hi : Int) : Sp := fun vs H Q _ => ∃ (v : V), vs = [v] ∧ Odd K H v ∧ Q (.bl (isNum lo hi v)) H
section
variable {P : Program} {w : World} {K : PySem.W.Frag} {mg : Str → Option Value} {base : Heap} {A : Adr}
theorem ok_is_number (T : Txt K mg A) : FnOk P w K mg base CX0 1 A.is_number A.is_number_ ["value", "low", "high"] (spIsNum K) := by
  refine T.is_number.F.ok sc_is_number (fun vs H Q E h => ?_) (fun cdv Ar outer s H vs Q E hr h => ?_)
  · obtain ⟨v, lo, hi, rfl, _⟩ := h
    rfl
  · obtain ⟨v, lo, hi, rfl, od, k⟩ := h
    refine ⟨_, (pss_cons (ps_if (PW.pt (pw_or (pt_val (pe_callB call_isi (by rfl) T.n_isinstance PyProof.Rows.boot_isinstance (pa_cons (pv 0) (pa_cons (pe_bltn (v := .ty "bool") (by rfl) T.n_bool (by decide +kernel) rfl) pa_nil)))) (pw_or1 (pt_not (pt_val (pe_callB call_isi (by rfl) T.n_isinstance PyProof.Rows.boot_isinstance (pa_cons (pv 0) (pa_cons (pe_bltn (v := .ty "int") (by rfl) T.n_int (by decide +kernel) rfl) pa_nil))))))))
    (pss_one (ps_ret pe_bl))
    pss_nil)
    (pss_one (ps_ret (pe_chain op_le op_le (pv 1) (pv 0) (pv 2))))), ?_⟩
    refine ⟨v, rfl, ?_⟩
    cases od with
    | non =>
      refine ⟨_, _, .type "NoneType", _, false, rfl, .ty _, .base .non, kit_ty (by decide +kernel), _, rfl, ?_⟩
      refine ⟨_, rfl, _, _, .type "NoneType", _, false, rfl, .ty _, .base .non, kit_ty (by decide +kernel), _, rfl, ?_⟩
      exact k
    | bl b =>
      refine ⟨_, _, .type "bool", _, true, rfl, .ty _, .base (.bl b), kit_ty (by decide +kernel), _, rfl, ?_⟩
      exact k
    | int i =>
      refine ⟨_, _, .type "int", _, false, rfl, .ty _, .base (.int i), kit_ty (by decide +kernel), _, rfl, ?_⟩
      refine ⟨_, rfl, _, _, .type "int", _, true, rfl, .ty _, .base (.int i), kit_ty (by decide +kernel), _, rfl, ?_⟩
      refine iteF ?_
      refine ⟨_, rfl, _, rfl, _, _, rfl, rfl, _, rfl, ?_⟩
      have e : isNum lo hi (.int i) = (decide (lo ≤ i) && decide (i ≤ hi)) := rfl
      rw [e] at k
      cases h1 : decide (lo ≤ i) with
      | true =>
        rw [h1] at k
        refine ite2 (fun _ => ?_) (fun z => absurd rfl z)
        refine ⟨_, rfl, _, _, rfl, rfl, ?_⟩
        exact k
      | false =>
        rw [h1] at k
        exact iteF k
    | str x =>
      refine ⟨_, _, .type "str", _, false, rfl, .ty _, .base (.str x), kit_ty (by decide +kernel), _, rfl, ?_⟩
      refine ⟨_, rfl, _, _, .type "str", _, false, rfl, .ty _, .base (.str x), kit_ty (by decide +kernel), _, rfl, ?_⟩
      exact k
    | lst hl =>
      refine ⟨_, _, .type "list", _, false, rfl, .ty _, (ty_lst hl), kit_ty (by decide +kernel), _, rfl, ?_⟩
      refine ⟨_, rfl, _, _, .type "list", _, false, rfl, .ty _, (ty_lst hl), kit_ty (by decide +kernel), _, rfl, ?_⟩
      exact k
    | tup hl =>
      refine ⟨_, _, .type "tuple", _, false, rfl, .ty _, (ty_tupD hl), kit_ty (by decide +kernel), _, rfl, ?_⟩
      refine ⟨_, rfl, _, _, .type "tuple", _, false, rfl, .ty _, (ty_tupD hl), kit_ty (by decide +kernel), _, rfl, ?_⟩
      exact k
theorem ok_is_question (T : Txt K mg A) : FnOk P w K mg base CX0 2 A.is_question A.is_question_ ["value"] (spIs K 0 9999) := by
  refine T.is_question.F.ok sc_is_question (fun vs H Q E h => ?_) (fun cdv Ar outer s H vs Q E hr h => ?_)
  · obtain ⟨v, rfl, _⟩ := h
    rfl
  · obtain ⟨v, rfl, od, k⟩ := h
    refine ⟨_, (pss_one (ps_ret (pe_call (ok_is_number T) (hr.mono (by decide)) (by rfl) T.is_number.n T.is_number.F.kp T.is_number.b .nil pass0 (pa_cons (pv 0) (pa_cons pe_int (pa_cons (pe_gv (by rfl) T.c_LAST_QUESTION) pa_nil)))))), ?_⟩
    exact ⟨_, rfl, v, 0, 9999, rfl, od, k⟩
theorem ok_is_seed (T : Txt K mg A) : FnOk P w K mg base CX0 2 A.is_seed A.is_seed_ ["value"] (spIs K 0 999) := by
  refine T.is_seed.F.ok sc_is_seed (fun vs H Q E h => ?_) (fun cdv Ar outer s H vs Q E hr h => ?_)
  · obtain ⟨v, rfl, _⟩ := h
    rfl
  · obtain ⟨v, rfl, od, k⟩ := h
    refine ⟨_, (pss_one (ps_ret (pe_call (ok_is_number T) (hr.mono (by decide)) (by rfl) T.is_number.n T.is_number.F.kp T.is_number.b .nil pass0 (pa_cons (pv 0) (pa_cons pe_int (pa_cons (pe_gv (by rfl) T.c_LAST_SEED) pa_nil)))))), ?_⟩
    exact ⟨_, rfl, v, 0, 999, rfl, od, k⟩
theorem ok_is_divisor (T : Txt K mg A) : FnOk P w K mg base CX0 2 A.is_divisor A.is_divisor_ ["value"] (spIs K 2 99) := by
  refine T.is_divisor.F.ok sc_is_divisor (fun vs H Q E h => ?_) (fun cdv Ar outer s H vs Q E hr h => ?_)
  · obtain ⟨v, rfl, _⟩ := h
    rfl
  · obtain ⟨v, rfl, od, k⟩ := h
    refine ⟨_, (pss_one (ps_ret (pe_call (ok_is_number T) (hr.mono (by decide)) (by rfl) T.is_number.n T.is_number.F.kp T.is_number.b .nil pass0 (pa_cons (pv 0) (pa_cons (pe_gv (by rfl) T.c_LEAST_DIVISOR) (pa_cons (pe_gv (by rfl) T.c_MOST_DIVISOR) pa_nil)))))), ?_⟩
    exact ⟨_, rfl, v, 2, 99, rfl, od, k⟩
end
end Mh
namespace Mh
open PySem L2
local macro_rules | `(tactic| walk_at "g") => `(tactic| repeat (first
  | refine ⟨_, rfl, ?_⟩
  | refine ⟨_, _, rfl, rfl, ?_⟩
  | refine ⟨rfl, ?_⟩))
/-- a pattern of another length; of this length; another text; this text; a name -/
local macro_rules | `(tactic| walk_at "len-") => `(tactic| (refine ⟨_, _, rfl, (by assumption), ifn (by simp) ?_⟩))
local macro_rules | `(tactic| walk_at "len+") => `(tactic| (refine ⟨_, _, rfl, (by assumption), ifp rfl ?_⟩))
local macro_rules | `(tactic| walk_at "str-") => `(tactic| (refine ⟨_, _, rfl, rfl, ifn (by decide +kernel) ?_⟩))
local macro_rules | `(tactic| walk_at "str+") => `(tactic| (refine ⟨_, _, rfl, rfl, ifp rfl ?_⟩))
local macro_rules | `(tactic| walk_at "name") => `(tactic| (refine ⟨_, _, rfl, ?_⟩))
section
variable {K : PySem.W.Frag} {H : Hp}
/-! what stands at an address, test by test -/
theorem dp_1 {v : V} {x : Str} (h : Dp K H v (.tuple [.str x])) : ∃ a, v = .ref a ∧ SqT K H a [.str x] := by
  obtain ⟨a, xs, rfl, hs, ha⟩ := dp_tup h
  obtain ⟨u, r, rfl, h1, h2⟩ := dps_cons ha
  have e := dps_nil h2
  subst e
  have e := dp_str h1
  subst e
  exact ⟨a, rfl, hs⟩
theorem dp_2 {v : V} {x : Str} {d : PyData} (h : Dp K H v (.tuple [.str x, d])) : ∃ a u, v = .ref a ∧ SqT K H a [.str x, u] ∧ Dp K H u d := by
  obtain ⟨a, xs, rfl, hs, ha⟩ := dp_tup h
  obtain ⟨u, r, rfl, h1, h2⟩ := dps_cons ha
  obtain ⟨u2, r2, rfl, h3, h4⟩ := dps_cons h2
  have e := dps_nil h4
  subst e
  have e := dp_str h1
  subst e
  exact ⟨a, u2, rfl, hs, h3⟩
theorem dp_2i {v : V} {x : Str} {i : Int} (h : Dp K H v (.tuple [.str x, .int i])) : ∃ a, v = .ref a ∧ SqT K H a [.str x, .int i] := by
  obtain ⟨a, u, rfl, hs, h1⟩ := dp_2 h
  have e := dp_int h1
  subst e
  exact ⟨a, rfl, hs⟩
theorem dp_3i {v : V} {x : Str} {i j : Int} (h : Dp K H v (.tuple [.str x, .int i, .int j])) : ∃ a, v = .ref a ∧ SqT K H a [.str x, .int i, .int j] := by
  obtain ⟨a, xs, rfl, hs, ha⟩ := dp_tup h
  obtain ⟨u, r, rfl, h1, h2⟩ := dps_cons ha
  obtain ⟨u2, r2, rfl, h3, h4⟩ := dps_cons h2
  obtain ⟨u3, r3, rfl, h5, h6⟩ := dps_cons h4
  have e := dps_nil h6
  subst e
  have e := dp_str h1
  subst e
  have e := dp_int h3
  subst e
  have e := dp_int h5
  subst e
  exact ⟨a, rfl, hs⟩
theorem dp_pair {v : V} {d e : PyData} (h : Dp K H v (.tuple [d, e])) : ∃ a u z, v = .ref a ∧ SqT K H a [u, z] ∧ Dp K H u d ∧ Dp K H z e := by
  obtain ⟨a, xs, rfl, hs, ha⟩ := dp_tup h
  obtain ⟨u, r, rfl, h1, h2⟩ := dps_cons ha
  obtain ⟨u2, r2, rfl, h3, h4⟩ := dps_cons h2
  have e := dps_nil h4
  subst e
  exact ⟨a, u, u2, rfl, hs, h1, h3⟩
end
theorem dI {i j : Int} : decide (V.int i = V.int j) = decide (i = j) := by
  by_cases h : i = j
  · subst h
    rw [decide_eq_true rfl, decide_eq_true rfl]
  · rw [decide_eq_false h, decide_eq_false fun z => h (V.int.inj z)]
theorem inV_ints {ns : List Int} {q : Int} : inV (.int q) (ns.map V.int) = decide (q ∈ ns) := by
  unfold inV
  induction ns with
  | nil => simp
  | cons n ns ih =>
    rw [List.map_cons, List.any_cons, ih]
    by_cases e : q = n
    · subst e
      simp [eqV]
    · have e2 : ¬ n = q := fun z => e z.symm
      simp [eqV, e, e2]
theorem flat_ints {ns : List Int} : (ns.map V.int).all flatV = true := by
  rw [List.all_eq_true]
  intro x hx
  obtain ⟨n, _, rfl⟩ := List.mem_map.mp hx
  rfl
def spHolds (K : PySem.W.Frag) : Sp := fun vs H Q _ => ∃ (v : V) (t : Tst) (q s : Int), vs = [v, .int q, .int s] ∧ Dp K H v t.dt ∧ t.Ok ∧ Q (.bl (t.holds q s)) H
def spOut (K : PySem.W.Frag) : Sp := fun vs H Q _ => ∃ (v : V) (a : Asw) (q : Int), vs = [v, .int q] ∧ Dp K H v a.dt ∧ a.Ok ∧ Q (oV (a.out q)) H
def spRun (K : PySem.W.Frag) : Sp := fun vs H Q _ => ∃ (v : V) (m : Mach) (q s : Int), vs = [v, .int q, .int s] ∧ Dp K H v (machDt m) ∧ MachOk m ∧ Q (oV (tell q s m)) H
section
variable {P : Program} {w : World} {K : PySem.W.Frag} {mg : Str → Option Value} {base : Heap} {A : Adr}
theorem ok_does_hold (T : Txt K mg A) : FnOk P w K mg base CX0 1 A.does_hold A.does_hold_ ["test", "question", "seed"] (spHolds K) := by
  refine T.does_hold.F.ok sc_does_hold (fun vs H Q E h => ?_) (fun cdv Ar outer s H vs Q E hr h => ?_)
  · obtain ⟨v, t, q, s, rfl, _⟩ := h
    rfl
  · obtain ⟨v, t, q, z, rfl, hv, ho, k⟩ := h
    refine ⟨_, (pss_one (ps_match (pv 0) (pcs_cons [] sc_does_hold.nd own0 (pp_seq (ppq_cons pp_str ppq_nil)) (pss_one (ps_ret pe_bl))
    (pcs_cons [("bound", 3)] sc_does_hold.nd (ownC ⟨rfl, Or.inl rfl, Or.inl rfl⟩ own0) (pp_seq (ppq_cons pp_str (ppq_cons pp_name ppq_nil))) (pss_one (ps_ret (pe_cmpR op_lt (pv 1) (pv 3) (nomark _))))
    (pcs_cons [("divisor", 4), ("rest", 5)] sc_does_hold.nd (ownC ⟨rfl, Or.inl rfl, Or.inl rfl⟩ (ownC ⟨rfl, Or.inl rfl, Or.inl rfl⟩ own0)) (pp_seq (ppq_cons pp_str (ppq_cons pp_name (ppq_cons pp_name ppq_nil)))) (pss_one (ps_ret (pe_cmpR op_eq (pe_op op_mod (pv 1) (pv 4)) (pv 5) (nomark _))))
    (pcs_cons [("divisor", 4), ("rest", 5)] sc_does_hold.nd (ownC ⟨rfl, Or.inl rfl, Or.inl rfl⟩ (ownC ⟨rfl, Or.inl rfl, Or.inl rfl⟩ own0)) (pp_seq (ppq_cons pp_str (ppq_cons pp_name (ppq_cons pp_name ppq_nil)))) (pss_one (ps_ret (pe_cmpR op_eq (pe_op op_mod (pe_op op_add (pe_op op_mul pe_int (pv 1)) (pe_op op_mul pe_int (pv 2))) (pv 4)) (pv 5) (nomark _))))
    (pcs_cons [("numbers", 6)] sc_does_hold.nd (ownC ⟨rfl, Or.inl rfl, Or.inl rfl⟩ own0) (pp_seq (ppq_cons pp_str (ppq_cons pp_name ppq_nil))) (pss_one (ps_ret (pe_cmpR op_in_seq (pv 1) (pv 6) (by rfl))))
    (pcs_cons [] sc_does_hold.nd own0 pp_any (pss_one (ps_ret pe_bl))
    pcs_nil)))))))), ?_⟩
    refine ⟨_, rfl, ?_⟩
    cases t with
    | any =>
      obtain ⟨a, rfl, hs⟩ := dp_1 hv
      walk_at "len+"
      walk_at "str+"
      exact ⟨rfl, k⟩
    | below n =>
      obtain ⟨a, rfl, hs⟩ := dp_2i hv
      walk_at "len-"
      walk_at "len+"
      walk_at "str+"
      walk_at "name"
      refine ⟨rfl, ?_⟩
      walk_at "g"
      exact k
    | rest m r =>
      obtain ⟨a, rfl, hs⟩ := dp_3i hv
      walk_at "len-"
      walk_at "len-"
      walk_at "len+"
      walk_at "str+"
      walk_at "name"
      walk_at "name"
      refine ⟨rfl, ?_⟩
      walk_at "g"
      refine ⟨by have := ho.1; show 0 < m; omega, ?_⟩
      walk_at "g"
      show Q (.bl (decide (V.int (q % m) = V.int r))) H
      rw [dI]
      exact k
    | chance m r =>
      obtain ⟨a, rfl, hs⟩ := dp_3i hv
      walk_at "len-"
      walk_at "len-"
      walk_at "len+"
      walk_at "str-"
      walk_at "len+"
      walk_at "str+"
      walk_at "name"
      walk_at "name"
      refine ⟨rfl, ?_⟩
      refine ⟨_, rfl, _, _, rfl, rfl, .inl (by decide), _, rfl, _, _, rfl, rfl, .inl (by decide), ?_⟩
      walk_at "g"
      refine ⟨by have := ho.1; show 0 < m; omega, ?_⟩
      walk_at "g"
      show Q (.bl (decide (V.int ((7 * q + 13 * z) % m) = V.int r))) H
      rw [dI]
      exact k
    | known ks =>
      obtain ⟨a, u, rfl, hs, hu⟩ := dp_2 hv
      obtain ⟨b, xs, rfl, hb, hx⟩ := dp_tup hu
      have e := dps_ints hx
      subst e
      walk_at "len-"
      walk_at "len+"
      walk_at "str-"
      walk_at "len-"
      walk_at "len-"
      walk_at "len+"
      walk_at "str+"
      walk_at "name"
      refine ⟨rfl, ?_⟩
      refine ⟨_, rfl, _, rfl, b, _, rfl, .inr hb, rfl, flat_ints, ?_⟩
      show Q (.bl (inV (.int q) (ks.map V.int))) H
      rw [inV_ints]
      exact k
theorem ok_outcome (T : Txt K mg A) : FnOk P w K mg base CX0 1 A.outcome A.outcome_ ["answer", "question"] (spOut K) := by
  refine T.outcome.F.ok sc_outcome (fun vs H Q E h => ?_) (fun cdv Ar outer s H vs Q E hr h => ?_)
  · obtain ⟨v, t, q, rfl, _⟩ := h
    rfl
  · obtain ⟨v, t, q, rfl, hv, ho, k⟩ := h
    refine ⟨_, (pss_one (ps_match (pv 0) (pcs_cons [("number", 2)] sc_outcome.nd (ownC ⟨rfl, Or.inl rfl, Or.inl rfl⟩ own0) (pp_seq (ppq_cons pp_str (ppq_cons pp_name ppq_nil))) (pss_one (ps_ret (pv 2)))
    (pcs_cons [("number", 2)] sc_outcome.nd (ownC ⟨rfl, Or.inl rfl, Or.inl rfl⟩ own0) (pp_seq (ppq_cons pp_str (ppq_cons pp_name ppq_nil))) (pss_one (ps_ret (pe_op op_add (pv 1) (pv 2))))
    (pcs_cons [("number", 2)] sc_outcome.nd (ownC ⟨rfl, Or.inl rfl, Or.inl rfl⟩ own0) (pp_seq (ppq_cons pp_str (ppq_cons pp_name ppq_nil))) (pss_one (ps_ret (pe_op op_mul (pv 1) (pv 2))))
    (pcs_cons [("divisor", 3)] sc_outcome.nd (ownC ⟨rfl, Or.inl rfl, Or.inl rfl⟩ own0) (pp_seq (ppq_cons pp_str (ppq_cons pp_name ppq_nil))) (pss_one (ps_ret (pe_op op_mod (pv 1) (pv 3))))
    (pcs_cons [] sc_outcome.nd own0 pp_any (pss_one (ps_ret pe_non))
    pcs_nil))))))), ?_⟩
    refine ⟨_, rfl, ?_⟩
    cases t with
    | num n =>
      obtain ⟨a, rfl, hs⟩ := dp_2i hv
      walk_at "len+"
      walk_at "str+"
      walk_at "name"
      exact ⟨rfl, _, rfl, k⟩
    | plus n =>
      obtain ⟨a, rfl, hs⟩ := dp_2i hv
      walk_at "len+"
      walk_at "str-"
      walk_at "len+"
      walk_at "str+"
      walk_at "name"
      exact ⟨rfl, _, rfl, _, rfl, _, _, rfl, rfl, k⟩
    | times n =>
      obtain ⟨a, rfl, hs⟩ := dp_2i hv
      walk_at "len+"
      walk_at "str-"
      walk_at "len+"
      walk_at "str-"
      walk_at "len+"
      walk_at "str+"
      walk_at "name"
      exact ⟨rfl, _, rfl, _, rfl, _, _, rfl, rfl, .inr ⟨by have := ho.1; omega, by have := ho.2; omega⟩, k⟩
    | rest m =>
      obtain ⟨a, rfl, hs⟩ := dp_2i hv
      walk_at "len+"
      walk_at "str-"
      walk_at "len+"
      walk_at "str-"
      walk_at "len+"
      walk_at "str-"
      walk_at "len+"
      walk_at "str+"
      walk_at "name"
      exact ⟨rfl, _, rfl, _, rfl, _, _, rfl, rfl, (by have := ho.1; show 0 < m; omega), k⟩
    | non =>
      obtain ⟨a, rfl, hs⟩ := dp_1 hv
      walk_at "len-"
      walk_at "len-"
      walk_at "len-"
      walk_at "len-"
      exact ⟨rfl, k⟩
end
end Mh
namespace Mh
open PySem L2
local macro_rules | `(tactic| walk_at "g") => `(tactic| repeat (first
  | refine ⟨_, rfl, ?_⟩
  | refine ⟨_, _, rfl, rfl, ?_⟩
  | refine ⟨rfl, ?_⟩))
theorem row_at {K : PySem.W.Frag} {H : Hp} {vs : List V} {m : Mach} {i : Nat} {x : V} (ha : DpAll K H vs (m.map rowDt)) (hi : vs[i]? = some x) :
    ∃ t a, m[i]? = some (t, a) ∧ ∃ p u z, x = .ref p ∧ SqT K H p [u, z] ∧ Dp K H u t.dt ∧ Dp K H z a.dt := by
  obtain ⟨d, h1, h2⟩ := dps_get ha hi
  rw [List.getElem?_map] at h1
  cases e : m[i]? with
  | none =>
    rw [e] at h1
    cases h1
  | some r =>
    rw [e] at h1
    have e2 : rowDt r = d := Option.some.inj h1
    subst e2
    exact ⟨r.1, r.2, rfl, dp_pair h2⟩
theorem drop_at {α : Type} {m : List α} {i : Nat} {r : α} (h : m[i]? = some r) : m.drop i = r :: m.drop (i + 1) := by
  obtain ⟨h1, h2⟩ := List.getElem?_eq_some_iff.mp h
  rw [List.drop_eq_getElem_cons h1, h2]
section
variable {P : Program} {w : World} {K : PySem.W.Frag} {mg : Str → Option Value} {base : Heap} {A : Adr}
theorem ok_run (T : Txt K mg A) : FnOk P w K mg base CX0 2 A.run A.run_ ["machine", "question", "seed"] (spRun K) := by
  refine T.run.F.ok sc_run (fun vs H Q E h => ?_) (fun cdv Ar outer s H vs Q E hr h => ?_)
  · obtain ⟨v, t, q, z, rfl, _⟩ := h
    rfl
  · obtain ⟨v, m, q, z, rfl, hv, ho, k⟩ := h
    obtain ⟨p, vs, rfl, hs, ha⟩ := dp_tup hv
    refine ⟨_, (pss_cons (ps_for PassesOwn.never rfl (pi_tup (pv 0)) (pg_tup rfl (pgs_cons (pg_name (i := 3) sc_run.nd rfl (Or.inl rfl)) (pgs_cons (pg_name (i := 4) sc_run.nd rfl (Or.inl rfl)) pgs_nil)))
    (pss_one (ps_if (pt_val (pe_call (ok_does_hold T) (hr.mono (by decide)) (by rfl) T.does_hold.n T.does_hold.F.kp T.does_hold.b .nil pass0 (pa_cons (pv 3) (pa_cons (pv 1) (pa_cons (pv 2) pa_nil)))))
    (pss_one (ps_ret (pe_call (ok_outcome T) (hr.mono (by decide)) (by rfl) T.outcome.n T.outcome.F.kp T.outcome.b .nil pass0 (pa_cons (pv 4) (pa_cons (pv 1) pa_nil)))))
    pss_nil)))
    (pss_one (ps_ret pe_non))), ?_⟩
    refine ⟨_, rfl, p, rfl, ⟨vs, hs⟩, for_tup (K := K) (a := p) (xs := vs) (fun i σ H' => H' = H ∧ (∃ x y, σ = [some (.ref p), some (.int q), some (.int z), x, y]) ∧ tell q z m = tell q z (m.drop i)) ⟨rfl, ⟨_, _, rfl⟩, rfl⟩
      (fun i σ H' _ ⟨e, _⟩ => by rw [e]; exact hs) ?_ ?_⟩
    · rintro i x σ H' hi ⟨rfl, ⟨y1, y2, rfl⟩, et⟩
      obtain ⟨t, a, hm, b, u, y, rfl, hb, hu, hy⟩ := row_at ha hi
      obtain ⟨ok1, ok2⟩ := ho.2.2 _ (List.mem_of_getElem? hm)
      rw [drop_at hm] at et
      refine ⟨b, _, rfl, hb, rfl, _, _, rfl, _, _, rfl, rfl, ?_⟩
      refine ⟨_, rfl, _, rfl, _, rfl, u, t, q, z, rfl, hu, ok1, _, rfl, ?_⟩
      refine ite2 (fun e => ?_) (fun e => ?_)
      · refine ⟨_, rfl, _, rfl, y, a, q, rfl, hy, ok2, ?_⟩
        have e2 : tell q z m = a.out q := by
          rw [et]
          show (if t.holds q z = true then a.out q else _) = _
          rw [if_pos e]
        rw [← e2]
        exact k
      · refine ⟨rfl, ⟨_, _, rfl⟩, ?_⟩
        rw [et]
        show (if t.holds q z = true then a.out q else _) = _
        rw [if_neg e]
    · rintro σ H' ⟨rfl, ⟨y1, y2, rfl⟩, et⟩
      have hl : vs.length = m.length := by
        have e := dps_len ha
        rwa [List.length_map] at e
      rw [hl, List.drop_length] at et
      rw [et] at k
      exact k
end
def spKnown (K : PySem.W.Frag) : Sp := fun vs H Q _ => ∃ (a : Addr) (ks : List Int), vs = [.ref a] ∧ SqT K H a (ks.map V.int) ∧ (Tst.known ks).Ok ∧ ∀ H', Same H H' → Q (.bl true) H'
def spTst (K : PySem.W.Frag) : Sp := fun vs H Q _ => ∃ (v : V) (t : Tst), vs = [v] ∧ Dp K H v t.dt ∧ t.Ok ∧ ∀ H', Same H H' → Q (.bl true) H'
def spAsw (K : PySem.W.Frag) : Sp := fun vs H Q _ => ∃ (v : V) (t : Asw), vs = [v] ∧ Dp K H v t.dt ∧ t.Ok ∧ ∀ H', Same H H' → Q (.bl true) H'
def spRow (K : PySem.W.Frag) : Sp := fun vs H Q _ => ∃ (v : V) (r : Tst × Asw), vs = [v] ∧ Dp K H v (rowDt r) ∧ r.1.Ok ∧ r.2.Ok ∧ ∀ H', Same H H' → Q (.bl true) H'
end Mh
namespace Mh
open PySem L2
local macro_rules | `(tactic| walk_at "g") => `(tactic| repeat (first
  | refine ⟨_, rfl, ?_⟩
  | refine ⟨_, _, rfl, rfl, ?_⟩
  | refine ⟨rfl, ?_⟩))
theorem ty_tup {K : PySem.W.Frag} {H : Hp} {a : Addr} {xs : List V} (h : SqT K H a xs) : TyX K H (.ref a) (.type "tuple") := by
  rcases h with h | h
  · rcases h with h | ⟨o, h⟩
    · exact .base (.tup h)
    · exact .fTuple h
  · obtain ⟨o, its, n, h1, h2, _⟩ := h
    exact .kTuple h1 h2
theorem walk_zipT {K : PySem.W.Frag} {a b : Addr} {xs ys : List V} {n : Nat} (hn : n = min xs.length ys.length) : Walk (RZ.ItzT K a b) n (fun H => SqT K H a xs ∧ SqT K H b ys) (YPair (fun i => xs[i]?) (fun i => ys[i]?)) := by
  subst hn
  refine ⟨fun i _ hi q => ?_, fun _ q => ⟨xs, ys, q.1, q.2, by omega⟩, fun i H v H' _ q y => ?_⟩
  · exact ⟨xs, ys, xs[i]'(by omega), ys[i]'(by omega), q.1, q.2, by simp [show i < xs.length by omega], by simp [show i < ys.length by omega]⟩
  · obtain ⟨p, x, z, h1, h2, h3, h4, h5⟩ := y
    exact ⟨p, x, z, h1, h2, h3, h4 xs q.1, h5 ys q.2⟩
theorem yes_ {σ : St} {H : Hp} {Q : Bool → Hp → Prop} (h : Q true H) : tYes σ H Q := h
theorem int_at {ks : List Int} {i : Nat} {x : V} (h : (ks.map V.int)[i]? = some x) : ∃ z, ks[i]? = some z ∧ x = .int z := by
  rw [List.getElem?_map] at h
  cases e : ks[i]? with
  | none =>
    rw [e] at h
    cases h
  | some z =>
    rw [e] at h
    exact ⟨z, rfl, (Option.some.inj h).symm⟩
theorem same_put {H H1 : Hp} {p : Addr} {o : HO} (a : Same H H1) (h : H p = none) : Same H (upd H1 p o) := fun b u e => by
  rw [upd_ne (ne_of_none e h)]
  exact a b u e
section
variable {P : Program} {w : World} {K : PySem.W.Frag} {mg : Str → Option Value} {base : Heap} {A : Adr}
theorem ok_is_known (T : Txt K mg A) : FnOk P w K mg base CX0 3 A.is_known A.is_known_ ["numbers"] (spKnown K) := by
  refine T.is_known.F.ok sc_is_known (fun vs H Q E h => ?_) (fun cdv Ar outer s H vs Q E hr h => ?_)
  · obtain ⟨v, t, rfl, _⟩ := h
    rfl
  · obtain ⟨a, ks, rfl, hs, ⟨l1, l8, pw, hk⟩, k⟩ := h
    refine ⟨_, (pss_cons (ps_if (PW.pt (pw_or (pt_not (pt_val (pe_callB call_isi (by rfl) T.n_isinstance PyProof.Rows.boot_isinstance (pa_cons (pv 0) (pa_cons (pe_bltn (v := .ty "tuple") (by rfl) T.n_tuple PyProof.Rows.boot_tuple rfl) pa_nil))))) (pw_or1 (pt_not (pt_chain op_le op_le pe_int (pe_callB call_len_seq (by rfl) T.n_len PySem.boot_len (pa_cons (pv 0) pa_nil)) (pe_gv (by rfl) T.c_MOST_KNOWN))))))
    (pss_one (ps_ret pe_bl))
    pss_nil)
    (pss_cons (ps_if (pt_not (pt_val (pe_callB (cr_all rfl) (by rfl) T.n_all PyProof.Rows.boot_all (pa_cons (pe_lc (own := [("number", 3)]) (g := gName 3) (tt := tYes) rfl sc_is_known.nd (pi_tup (pv 0)) (blkOk_by (N := N_is_known) (sc := defScope s_is_known) (by decide +kernel)) (fun _ _ _ _ _ => pg_name (i := 3) sc_is_known.nd rfl (Or.inl rfl) (hf := Or.inr rfl)) (fun _ _ _ _ _ => pts_nil) (fun _ _ _ _ _ => (pe_call (ok_is_question T) (hr.mono (by decide)) (by rfl) T.is_question.n T.is_question.F.kp T.is_question.b .nil pass0 (pa_cons (pv 3) pa_nil)))) pa_nil))))
    (pss_one (ps_ret pe_bl))
    pss_nil)
    (pss_one (ps_ret (pe_callB (cr_all rfl) (by rfl) T.n_all PyProof.Rows.boot_all (pa_cons (pe_lc (own := [("one", 1), ("other", 2)]) (g := gTup K 2 (gCons (gName 1) (gCons (gName 2) gNil))) (tt := tYes) rfl sc_is_known.nd (RZ.pi_zipA (by rfl) T.n_zip (pa_cons (pv 0) (pa_cons (pe_slice sl_tup (pv 0) (po_some pe_int) po_none) pa_nil))) (blkOk_by (N := N_is_known) (sc := defScope s_is_known) (by decide +kernel)) (fun _ _ _ _ _ => pg_tup rfl (pgs_cons (pg_name (i := 1) sc_is_known.nd rfl (Or.inl rfl) (hf := Or.inr rfl)) (pgs_cons (pg_name (i := 2) sc_is_known.nd rfl (Or.inl rfl) (hf := Or.inr rfl)) pgs_nil))) (fun _ _ _ _ _ => pts_nil) (fun _ _ _ _ _ => (pe_cmpR op_lt (pv 1) (pv 2) (nomark _)))) pa_nil)))))), ?_⟩
    refine ⟨_, rfl, _, _, .type "tuple", _, true, rfl, .ty _, ty_tup hs, kit_ty (by decide +kernel), _, rfl, ?_⟩
    refine iteF ?_
    refine ⟨_, rfl, a, _, rfl, .inr hs, _, _, rfl, rfl, _, rfl, ?_⟩
    refine ifp (by rw [List.length_map]; exact decide_eq_true (by omega)) ?_
    refine ⟨_, _, rfl, rfl, _, rfl, ?_⟩
    refine ifn (by rw [List.length_map, decide_eq_true (show ((ks.length : Nat) : Int) ≤ 8 by omega)]; simp) ?_
    refine ⟨_, rfl, a, rfl, ⟨_, hs⟩, fun D hD => lc_tup (K := K) (a := a) (xs := ks.map V.int) (fun i H' => Same H H' ∧ H' D = some (.lst ((List.replicate i true).map V.bl))) ⟨(Bt.new (S := []) hD).same, upd_same⟩ (fun i H' _ p => KT.same p.1 _ _ hs) ?_ ?_⟩
    · rintro i x H' hi ⟨sm, hl⟩
      obtain ⟨z, hz, rfl⟩ := int_at hi
      have hz2 := hk z (List.mem_of_getElem? hz)
      have il : i < ks.length := (List.getElem?_eq_some_iff.mp hz).1
      refine ⟨rfl, ?_⟩
      refine yes_ ?_
      refine iteT ?_
      refine ⟨_, rfl, _, rfl, .int z, _, hl, ?_, same_put sm hD, ?_⟩
      · rw [List.length_map, List.length_replicate, sizeLine_eq]
        omega
      · have e : isNum 0 9999 (.int z) = true := by simp [isNum, hz2.1, hz2.2]
        rw [e, upd_same, List.replicate_succ', List.map_append]
        rfl
    · rintro H1 ⟨sm, hl⟩
      refine ⟨D, _, rfl, SqL.of hl, _, rfl, ?_⟩
      refine ifn (by simp) ?_
      have hs1 := KT.same sm _ _ hs
      refine ⟨_, rfl, _, rfl, ⟨_, rfl, a, _, rfl, hs1, ?_, fun p hp => ?_⟩⟩
      · rw [show (some (1 : Int)) = some ((1 : Nat) : Int) from rfl, HT.sIx_nat, List.length_map]
        omega
      have hc : cutV (ks.map V.int) (some 1) none = (ks.drop 1).map V.int := by
        unfold cutV
        rw [show (some (1 : Int)) = some ((1 : Nat) : Int) from rfl, HT.sIx_nat, HT.sIx_none, List.length_map, Nat.min_eq_left l1, List.map_drop]
        exact List.take_of_length_le (by simp)
      rw [hc]
      have sm2 : Same H (upd H1 p (.tup ((ks.drop 1).map V.int))) := same_put sm (sm.free hp)
      refine ⟨a, p, _, _, rfl, .inr ⟨KT.same sm2 _ _ hs, SqT.of upd_same, fun D2 hD2 => ?_⟩⟩
      have hn : ks.length - 1 = min (ks.map V.int).length ((ks.drop 1).map V.int).length := by
        simp only [List.length_map, List.length_drop]
        omega
      refine lc_it (walk_zipT hn) (fun i H' => Same (upd H1 p (.tup ((ks.drop 1).map V.int))) H' ∧ H' D2 = some (.lst ((List.replicate i true).map V.bl))) ⟨(Bt.new (S := []) hD2).same, upd_same⟩
        (fun i H' _ q => ⟨KT.same (sm2.trans q.1) _ _ hs, KT.same q.1 _ _ (SqT.of upd_same)⟩) ?_ ?_
      · rintro i x H2 H3 hi ⟨sm3, hl3⟩ ⟨b, x1, x2, rfl, hb, rfl, hx1, hx2⟩
        obtain ⟨z1, hz1, rfl⟩ := int_at hx1
        obtain ⟨z2, hz2, rfl⟩ := int_at hx2
        have hlt : z1 < z2 := by
          rw [List.getElem?_drop] at hz2
          obtain ⟨g1, e1⟩ := List.getElem?_eq_some_iff.mp hz1
          obtain ⟨g2, e2⟩ := List.getElem?_eq_some_iff.mp hz2
          have q := List.pairwise_iff_getElem.mp pw i (1 + i) g1 g2 (by omega)
          rw [e1, e2] at q
          exact q
        have nb : D2 ≠ b := ne_of_none hl3 hb
        refine ⟨b, _, rfl, SqT.of upd_same, rfl, _, _, rfl, _, _, rfl, rfl, ?_⟩
        refine ⟨rfl, ?_⟩
        refine yes_ ?_
        refine iteT ?_
        refine ⟨_, rfl, _, rfl, _, _, rfl, rfl, _, (upd_ne nb).trans hl3, ?_, same_put (same_put sm3 (sm3.free hb)) hD2, ?_⟩
        · rw [List.length_map, List.length_replicate, sizeLine_eq]
          omega
        · show upd _ D2 (.lst (_ ++ [V.bl (decide (z1 < z2))])) D2 = _
          rw [decide_eq_true hlt, upd_same, List.replicate_succ', List.map_append]
          rfl
      · rintro H2 ⟨sm3, hl3⟩
        refine ⟨D2, _, rfl, SqL.of hl3, ?_⟩
        have e : (List.replicate (ks.length - 1) true).all id = true := by simp
        rw [e]
        exact k _ (sm2.trans sm3)
end
end Mh
namespace Mh
open PySem L2
local macro_rules | `(tactic| walk_at "len-") => `(tactic| (refine ⟨_, _, rfl, (by assumption), ifn (by simp) ?_⟩))
local macro_rules | `(tactic| walk_at "len+") => `(tactic| (refine ⟨_, _, rfl, (by assumption), ifp rfl ?_⟩))
local macro_rules | `(tactic| walk_at "str-") => `(tactic| (refine ⟨_, _, rfl, rfl, ifn (by decide +kernel) ?_⟩))
local macro_rules | `(tactic| walk_at "str+") => `(tactic| (refine ⟨_, _, rfl, rfl, ifp rfl ?_⟩))
local macro_rules | `(tactic| walk_at "name") => `(tactic| (refine ⟨_, _, rfl, ?_⟩))
theorem isNum_t {lo hi i : Int} (h1 : lo ≤ i) (h2 : i ≤ hi) : isNum lo hi (.int i) = true := by simp [isNum, h1, h2]
def spMach (K : PySem.W.Frag) : Sp := fun vs H Q _ => ∃ (v : V) (m : Mach), vs = [v] ∧ Dp K H v (machDt m) ∧ MachOk m ∧ ∀ H', Same H H' → Q .non H'
def spChk (lo hi : Int) : Sp := fun vs H Q _ => ∃ (i : Int), vs = [.int i] ∧ lo ≤ i ∧ i ≤ hi ∧ Q .non H
def spAnswered (K : PySem.W.Frag) : Sp := fun vs H Q _ => ∃ (v : V) (m : Mach) (q s : Int), vs = [v, .int q, .int s] ∧ Dp K H v (machDt m) ∧ MachOk m ∧ 0 ≤ q ∧ q ≤ 9999 ∧ 0 ≤ s ∧ s ≤ 999 ∧ ∀ H', Same H H' → Q (oV (tell q s m)) H'
section
variable {P : Program} {w : World} {K : PySem.W.Frag} {mg : Str → Option Value} {base : Heap} {A : Adr}
theorem ok_is_test (T : Txt K mg A) : FnOk P w K mg base CX0 4 A.is_test A.is_test_ ["test"] (spTst K) := by
  refine T.is_test.F.ok sc_is_test (fun vs H Q E h => ?_) (fun cdv Ar outer s H vs Q E hr h => ?_)
  · obtain ⟨v, t, rfl, _⟩ := h
    rfl
  · obtain ⟨v, t, rfl, hv, ho, k⟩ := h
    have k0 := k H (Same.refl H)
    refine ⟨_, (pss_cons (ps_if (pt_not (pt_val (pe_callB call_isi (by rfl) T.n_isinstance PyProof.Rows.boot_isinstance (pa_cons (pv 0) (pa_cons (pe_bltn (v := .ty "tuple") (by rfl) T.n_tuple PyProof.Rows.boot_tuple rfl) pa_nil)))))
    (pss_one (ps_ret pe_bl))
    pss_nil)
    (pss_one (ps_match (pv 0) (pcs_cons [] sc_is_test.nd own0 (pp_seq (ppq_cons pp_str ppq_nil)) (pss_one (ps_ret pe_bl))
    (pcs_cons [("bound", 1)] sc_is_test.nd (ownC ⟨rfl, Or.inl rfl, Or.inl rfl⟩ own0) (pp_seq (ppq_cons pp_str (ppq_cons pp_name ppq_nil))) (pss_one (ps_ret (pe_call (ok_is_question T) (hr.mono (by decide)) (by rfl) T.is_question.n T.is_question.F.kp T.is_question.b .nil pass0 (pa_cons (pv 1) pa_nil))))
    (pcs_cons [("divisor", 2), ("rest", 3)] sc_is_test.nd (ownC ⟨rfl, Or.inl rfl, Or.inl rfl⟩ (ownC ⟨rfl, Or.inl rfl, Or.inl rfl⟩ own0)) (pp_seq (ppq_cons (pp_or (ppo_cons pp_str (ppo_cons pp_str ppo_nil))) (ppq_cons pp_name (ppq_cons pp_name ppq_nil)))) (pss_one (ps_ret (pe_and (pe_call (ok_is_divisor T) (hr.mono (by decide)) (by rfl) T.is_divisor.n T.is_divisor.F.kp T.is_divisor.b .nil pass0 (pa_cons (pv 2) pa_nil)) (pe_one (pe_call (ok_is_number T) (hr.mono (by decide)) (by rfl) T.is_number.n T.is_number.F.kp T.is_number.b .nil pass0 (pa_cons (pv 3) (pa_cons pe_int (pa_cons (pe_op op_sub (pv 2) pe_int) pa_nil))))))))
    (pcs_cons [("numbers", 4)] sc_is_test.nd (ownC ⟨rfl, Or.inl rfl, Or.inl rfl⟩ own0) (pp_seq (ppq_cons pp_str (ppq_cons pp_name ppq_nil))) (pss_one (ps_ret (pe_call (ok_is_known T) (hr.mono (by decide)) (by rfl) T.is_known.n T.is_known.F.kp T.is_known.b .nil pass0 (pa_cons (pv 4) pa_nil))))
    (pcs_cons [] sc_is_test.nd own0 pp_any (pss_one (ps_ret pe_bl))
    pcs_nil)))))))), ?_⟩
    cases t with
    | any =>
      obtain ⟨a, rfl, hs⟩ := dp_1 hv
      refine ⟨_, rfl, _, _, .type "tuple", _, true, rfl, .ty _, ty_tup hs, kit_ty (by decide +kernel), _, rfl, ?_⟩
      refine iteF ?_
      refine ⟨_, rfl, ?_⟩
      walk_at "len+"
      walk_at "str+"
      exact ⟨rfl, k0⟩
    | below n =>
      obtain ⟨a, rfl, hs⟩ := dp_2i hv
      refine ⟨_, rfl, _, _, .type "tuple", _, true, rfl, .ty _, ty_tup hs, kit_ty (by decide +kernel), _, rfl, ?_⟩
      refine iteF ?_
      refine ⟨_, rfl, ?_⟩
      walk_at "len-"
      walk_at "len+"
      walk_at "str+"
      walk_at "name"
      refine ⟨rfl, _, rfl, _, rfl, .int n, ?_⟩
      rw [isNum_t ho.1 ho.2]
      exact k0
    | rest m r =>
      obtain ⟨h1, h2, h3, h4⟩ := ho
      obtain ⟨a, rfl, hs⟩ := dp_3i hv
      refine ⟨_, rfl, _, _, .type "tuple", _, true, rfl, .ty _, ty_tup hs, kit_ty (by decide +kernel), _, rfl, ?_⟩
      refine iteF ?_
      refine ⟨_, rfl, ?_⟩
      walk_at "len-"
      walk_at "len-"
      walk_at "len+"
      walk_at "str+"
      walk_at "name"
      walk_at "name"
      refine ⟨rfl, _, rfl, _, rfl, .int m, ?_⟩
      rw [isNum_t h1 h2]
      refine ⟨_, rfl, ?_⟩
      refine iteT ?_
      refine ⟨_, rfl, _, rfl, _, _, rfl, rfl, _, _, _, rfl, .int r, ?_⟩
      rw [isNum_t h3 (by omega)]
      exact k0
    | chance m r =>
      obtain ⟨h1, h2, h3, h4⟩ := ho
      obtain ⟨a, rfl, hs⟩ := dp_3i hv
      refine ⟨_, rfl, _, _, .type "tuple", _, true, rfl, .ty _, ty_tup hs, kit_ty (by decide +kernel), _, rfl, ?_⟩
      refine iteF ?_
      refine ⟨_, rfl, ?_⟩
      walk_at "len-"
      walk_at "len-"
      walk_at "len+"
      walk_at "str-"
      refine ⟨rfl, ifp rfl ?_⟩
      walk_at "name"
      walk_at "name"
      refine ⟨rfl, _, rfl, _, rfl, .int m, ?_⟩
      rw [isNum_t h1 h2]
      refine ⟨_, rfl, ?_⟩
      refine iteT ?_
      refine ⟨_, rfl, _, rfl, _, _, rfl, rfl, _, _, _, rfl, .int r, ?_⟩
      rw [isNum_t h3 (by omega)]
      exact k0
    | known ks =>
      obtain ⟨a, u, rfl, hs, hu⟩ := dp_2 hv
      obtain ⟨b, xs, rfl, hb, hx⟩ := dp_tup hu
      have e := dps_ints hx
      subst e
      refine ⟨_, rfl, _, _, .type "tuple", _, true, rfl, .ty _, ty_tup hs, kit_ty (by decide +kernel), _, rfl, ?_⟩
      refine iteF ?_
      refine ⟨_, rfl, ?_⟩
      walk_at "len-"
      walk_at "len+"
      walk_at "str-"
      walk_at "len-"
      walk_at "len+"
      walk_at "str+"
      walk_at "name"
      exact ⟨rfl, _, rfl, b, ks, rfl, hb, ho, k⟩
theorem ok_is_answer (T : Txt K mg A) : FnOk P w K mg base CX0 4 A.is_answer A.is_answer_ ["answer"] (spAsw K) := by
  refine T.is_answer.F.ok sc_is_answer (fun vs H Q E h => ?_) (fun cdv Ar outer s H vs Q E hr h => ?_)
  · obtain ⟨v, t, rfl, _⟩ := h
    rfl
  · obtain ⟨v, t, rfl, hv, ho, k⟩ := h
    have k0 := k H (Same.refl H)
    refine ⟨_, (pss_cons (ps_if (pt_not (pt_val (pe_callB call_isi (by rfl) T.n_isinstance PyProof.Rows.boot_isinstance (pa_cons (pv 0) (pa_cons (pe_bltn (v := .ty "tuple") (by rfl) T.n_tuple PyProof.Rows.boot_tuple rfl) pa_nil)))))
    (pss_one (ps_ret pe_bl))
    pss_nil)
    (pss_one (ps_match (pv 0) (pcs_cons [("number", 1)] sc_is_answer.nd (ownC ⟨rfl, Or.inl rfl, Or.inl rfl⟩ own0) (pp_seq (ppq_cons (pp_or (ppo_cons pp_str (ppo_cons pp_str (ppo_cons pp_str ppo_nil)))) (ppq_cons pp_name ppq_nil))) (pss_one (ps_ret (pe_call (ok_is_number T) (hr.mono (by decide)) (by rfl) T.is_number.n T.is_number.F.kp T.is_number.b .nil pass0 (pa_cons (pv 1) (pa_cons (pe_un un_neg (pe_gv (by rfl) T.c_MOST_IN_ANSWER)) (pa_cons (pe_gv (by rfl) T.c_MOST_IN_ANSWER) pa_nil))))))
    (pcs_cons [("divisor", 2)] sc_is_answer.nd (ownC ⟨rfl, Or.inl rfl, Or.inl rfl⟩ own0) (pp_seq (ppq_cons pp_str (ppq_cons pp_name ppq_nil))) (pss_one (ps_ret (pe_call (ok_is_divisor T) (hr.mono (by decide)) (by rfl) T.is_divisor.n T.is_divisor.F.kp T.is_divisor.b .nil pass0 (pa_cons (pv 2) pa_nil))))
    (pcs_cons [] sc_is_answer.nd own0 (pp_seq (ppq_cons pp_str ppq_nil)) (pss_one (ps_ret pe_bl))
    (pcs_cons [] sc_is_answer.nd own0 pp_any (pss_one (ps_ret pe_bl))
    pcs_nil))))))), ?_⟩
    cases t with
    | num n =>
      obtain ⟨a, rfl, hs⟩ := dp_2i hv
      refine ⟨_, rfl, _, _, .type "tuple", _, true, rfl, .ty _, ty_tup hs, kit_ty (by decide +kernel), _, rfl, ?_⟩
      refine iteF ?_
      refine ⟨_, rfl, ?_⟩
      walk_at "len+"
      walk_at "str+"
      walk_at "name"
      refine ⟨rfl, _, rfl, _, rfl, _, _, _, rfl, .int n, ?_⟩
      rw [isNum_t ho.1 ho.2]
      exact k0
    | plus n =>
      obtain ⟨a, rfl, hs⟩ := dp_2i hv
      refine ⟨_, rfl, _, _, .type "tuple", _, true, rfl, .ty _, ty_tup hs, kit_ty (by decide +kernel), _, rfl, ?_⟩
      refine iteF ?_
      refine ⟨_, rfl, ?_⟩
      walk_at "len+"
      walk_at "str-"
      refine ⟨rfl, ifp rfl ?_⟩
      walk_at "name"
      refine ⟨rfl, _, rfl, _, rfl, _, _, _, rfl, .int n, ?_⟩
      rw [isNum_t ho.1 ho.2]
      exact k0
    | times n =>
      obtain ⟨a, rfl, hs⟩ := dp_2i hv
      refine ⟨_, rfl, _, _, .type "tuple", _, true, rfl, .ty _, ty_tup hs, kit_ty (by decide +kernel), _, rfl, ?_⟩
      refine iteF ?_
      refine ⟨_, rfl, ?_⟩
      walk_at "len+"
      walk_at "str-"
      refine ⟨rfl, ifn (by decide +kernel) ?_⟩
      refine ⟨rfl, ifp rfl ?_⟩
      walk_at "name"
      refine ⟨rfl, _, rfl, _, rfl, _, _, _, rfl, .int n, ?_⟩
      rw [isNum_t ho.1 ho.2]
      exact k0
    | rest m =>
      obtain ⟨a, rfl, hs⟩ := dp_2i hv
      refine ⟨_, rfl, _, _, .type "tuple", _, true, rfl, .ty _, ty_tup hs, kit_ty (by decide +kernel), _, rfl, ?_⟩
      refine iteF ?_
      refine ⟨_, rfl, ?_⟩
      walk_at "len+"
      walk_at "str-"
      refine ⟨rfl, ifn (by decide +kernel) ?_⟩
      refine ⟨rfl, ifn (by decide +kernel) ?_⟩
      walk_at "len+"
      walk_at "str+"
      walk_at "name"
      refine ⟨rfl, _, rfl, _, rfl, .int m, ?_⟩
      rw [isNum_t ho.1 ho.2]
      exact k0
    | non =>
      obtain ⟨a, rfl, hs⟩ := dp_1 hv
      refine ⟨_, rfl, _, _, .type "tuple", _, true, rfl, .ty _, ty_tup hs, kit_ty (by decide +kernel), _, rfl, ?_⟩
      refine iteF ?_
      refine ⟨_, rfl, ?_⟩
      walk_at "len-"
      walk_at "len-"
      walk_at "len+"
      walk_at "str+"
      exact ⟨rfl, k0⟩
theorem ok_is_row (T : Txt K mg A) : FnOk P w K mg base CX0 5 A.is_row A.is_row_ ["row"] (spRow K) := by
  refine T.is_row.F.ok sc_is_row (fun vs H Q E h => ?_) (fun cdv Ar outer s H vs Q E hr h => ?_)
  · obtain ⟨v, t, rfl, _⟩ := h
    rfl
  · obtain ⟨v, ⟨t, a⟩, rfl, hv, ho1, ho2, k⟩ := h
    obtain ⟨b, u, z, rfl, hs, hu, hz⟩ := dp_pair hv
    refine ⟨_, (pss_cons (ps_if (PW.pt (pw_or (pt_not (pt_val (pe_callB call_isi (by rfl) T.n_isinstance PyProof.Rows.boot_isinstance (pa_cons (pv 0) (pa_cons (pe_bltn (v := .ty "tuple") (by rfl) T.n_tuple PyProof.Rows.boot_tuple rfl) pa_nil))))) (pw_or1 (pt_cmpR op_ne (pe_callB call_len_seq (by rfl) T.n_len PySem.boot_len (pa_cons (pv 0) pa_nil)) pe_int (nomark _)))))
    (pss_one (ps_ret pe_bl))
    pss_nil)
    (pss_one (ps_ret (pe_and (pe_call (ok_is_test T) (hr.mono (by decide)) (by rfl) T.is_test.n T.is_test.F.kp T.is_test.b .nil pass0 (pa_cons (pe_ix ix_tup (pv 0) pe_int (fun _ _ => rfl)) pa_nil)) (pe_one (pe_call (ok_is_answer T) (hr.mono (by decide)) (by rfl) T.is_answer.n T.is_answer.F.kp T.is_answer.b .nil pass0 (pa_cons (pe_ix ix_tup (pv 0) pe_int (fun _ _ => rfl)) pa_nil))))))), ?_⟩
    refine ⟨_, rfl, _, _, .type "tuple", _, true, rfl, .ty _, ty_tup hs, kit_ty (by decide +kernel), _, rfl, ?_⟩
    refine iteF ?_
    refine ⟨_, rfl, b, _, rfl, .inr hs, rfl, _, rfl, ?_⟩
    refine iteF ?_
    refine ⟨_, rfl, b, _, _, _, rfl, rfl, hs, at0, u, t, rfl, hu, ho1, fun H1 s1 => ⟨_, rfl, ?_⟩⟩
    refine iteT ?_
    exact ⟨_, rfl, b, _, _, _, rfl, rfl, KT.same s1 _ _ hs, at1, z, a, rfl, dp_keep (KT.same s1) _ _ a.td hz, ho2, fun H2 s2 => k H2 (s1.trans s2)⟩
end
end Mh
namespace Mh
open PySem L2
def spDice (K : PySem.W.Frag) : Sp := fun vs H Q _ => ∃ (a : Addr) (ns : List Int) (k0 : Int), vs = [.ref a, .int k0] ∧ SqL K H a (ns.map V.int) ∧ ns.length ≤ 63 ∧ 0 ≤ k0 ∧ k0 < 2147483647 ∧
  ∀ p H' xs, H p = none → Same H H' → H' p = some (.lst xs) → Dice xs → Q (.ref p) H'
section
variable {P : Program} {w : World} {K : PySem.W.Frag} {mg : Str → Option Value} {base : Heap} {A : Adr}
theorem ok_check_machine (T : Txt K mg A) : FnOk P w K mg base CX0 6 A.check_machine A.check_machine_ ["machine"] (spMach K) := by
  refine T.check_machine.F.ok sc_check_machine (fun vs H Q E h => ?_) (fun cdv Ar outer s H vs Q E hr h => ?_)
  · obtain ⟨v, t, rfl, _⟩ := h
    rfl
  · obtain ⟨v, m, rfl, hv, ⟨l1, l12, ho⟩, k⟩ := h
    obtain ⟨p, vs, rfl, hs, ha⟩ := dp_tup hv
    have hl : vs.length = m.length := by
      have e := dps_len ha
      rwa [List.length_map] at e
    refine ⟨_, (pss_cons (ps_if (PW.pt (pw_or (pt_not (pt_val (pe_callB call_isi (by rfl) T.n_isinstance PyProof.Rows.boot_isinstance (pa_cons (pv 0) (pa_cons (pe_bltn (v := .ty "tuple") (by rfl) T.n_tuple PyProof.Rows.boot_tuple rfl) pa_nil))))) (pw_or1 (pt_cmpR op_eq (pe_callB call_len_seq (by rfl) T.n_len PySem.boot_len (pa_cons (pv 0) pa_nil)) pe_int (nomark _)))))
    (pss_one ps_never)
    pss_nil)
    (pss_one (ps_for PassesOwn.never rfl (pi_enumT (by rfl) T.n_enumerate (pa_cons (pv 0) pa_nil)) (pg_tup rfl (pgs_cons (pg_name (i := 1) sc_check_machine.nd rfl (Or.inl rfl)) (pgs_cons (pg_name (i := 2) sc_check_machine.nd rfl (Or.inl rfl)) pgs_nil)))
    (pss_one (ps_if (PW.pt (pw_or (pt_cmpR op_eq (pv 1) (pe_gv (by rfl) T.c_MOST_ROWS) (nomark _)) (pw_or1 (pt_not (pt_val (pe_call (ok_is_row T) (hr.mono (by decide)) (by rfl) T.is_row.n T.is_row.F.kp T.is_row.b .nil pass0 (pa_cons (pv 2) pa_nil)))))))
    (pss_one ps_never)
    pss_nil))))), ?_⟩
    refine ⟨_, rfl, _, _, .type "tuple", _, true, rfl, .ty _, ty_tup hs, kit_ty (by decide +kernel), _, rfl, ?_⟩
    refine iteF ?_
    refine ⟨_, rfl, p, _, rfl, .inr hs, rfl, _, rfl, ?_⟩
    refine ifn (by rw [dI, decide_eq_false (by omega)]; simp) ?_
    refine ⟨_, rfl, p, _, rfl, hs, for_it (walk_enumT (xs := vs)) (fun i σ H' => Same H H' ∧ ∃ x y, σ = [some (.ref p), x, y]) ⟨Same.refl H, _, _, rfl⟩ (fun i σ H' _ ⟨e, _⟩ => KT.same e _ _ hs) ?_ ?_⟩
    · rintro i x σ H1 H2 hi ⟨sm, y1, y2, rfl⟩ ⟨b, x1, x2, rfl, hb, rfl, hx1, hx2⟩
      have e1 := Option.some.inj hx1
      subst e1
      obtain ⟨t, a, hm, c, u, z, rfl, hc, hu, hz⟩ := row_at ha hx2
      obtain ⟨ok1, ok2⟩ := ho _ (List.mem_of_getElem? hm)
      have sm2 : Same H (upd H1 b (.tup [.int (i : Nat), .ref c])) := same_put sm (sm.free hb)
      have kt := KT.same (K := K) sm2
      refine ⟨b, _, rfl, SqT.of upd_same, rfl, _, _, rfl, _, _, rfl, rfl, ?_⟩
      refine ⟨_, rfl, rfl, _, rfl, ?_⟩
      refine ifn (by rw [dI, decide_eq_false (by omega)]; simp) ?_
      refine ⟨_, rfl, .ref c, (t, a), rfl, .tup (kt _ _ hc) (.cons (dp_keep kt _ _ t.td hu) (.cons (dp_keep kt _ _ a.td hz) .nil)), ok1, ok2, fun H3 s3 => ⟨_, rfl, ?_⟩⟩
      refine iteF ?_
      exact ⟨sm2.trans s3, _, _, rfl⟩
    · rintro σ H1 ⟨sm, _⟩
      exact k H1 sm
theorem ok_check_seed (T : Txt K mg A) : FnOk P w K mg base CX0 3 A.check_seed A.check_seed_ ["seed"] (spChk 0 999) := by
  refine T.check_seed.F.ok sc_check_seed (fun vs H Q E h => ?_) (fun cdv Ar outer s H vs Q E hr h => ?_)
  · obtain ⟨v, rfl, _⟩ := h
    rfl
  · obtain ⟨v, rfl, h0, h1, k⟩ := h
    refine ⟨_, (pss_one (ps_if (pt_not (pt_val (pe_call (ok_is_seed T) (hr.mono (by decide)) (by rfl) T.is_seed.n T.is_seed.F.kp T.is_seed.b .nil pass0 (pa_cons (pv 0) pa_nil))))
    (pss_one ps_never)
    pss_nil)), ?_⟩
    refine ⟨_, rfl, _, rfl, .int v, ?_⟩
    rw [isNum_t h0 h1]
    refine ⟨_, rfl, ?_⟩
    exact iteF k
theorem ok_dice (T : Txt K mg A) : FnOk P w K mg base CX0 1 A.dice A.dice_ ["_law_script", "_law_k"] (spDice K) := by
  refine T.dice.F.ok sc_dice (fun vs H Q E h => ?_) (fun cdv Ar outer s H vs Q E hr h => ?_)
  · obtain ⟨a, ns, k0, rfl, _⟩ := h
    rfl
  · obtain ⟨a, ns, k0, rfl, hs, hl, h0, h1, k⟩ := h
    refine ⟨_, (pss_cons (ps_set (i := 2) sc_dice.nd rfl (Or.inl rfl) (pv 1))
    (pss_cons (ps_for PassesOwn.never rfl (pi_list (pv 0)) (pg_name (i := 3) sc_dice.nd rfl (Or.inl rfl))
    (pss_one (ps_set (i := 2) sc_dice.nd rfl (Or.inl rfl) (pe_op op_mod (pe_op op_add (pe_op op_mul (pv 2) pe_int) (pe_callB call_abs (by rfl) T.n_abs PyProof.Rows.boot_abs (pa_cons (pv 3) pa_nil))) pe_int))))
    (pss_one (ps_ret (pe_op op_cat (pe_lst (pa_cons (pv 2) (pa_cons pe_int pa_nil))) (pe_lc (own := [("_law_cell", 3)]) (g := gName 3)  rfl sc_dice.nd (pi_list (pv 0)) (blkOk_by (N := N_dice) (sc := defScope s_dice) (by decide +kernel)) (fun _ _ _ _ _ => pg_name (i := 3) sc_dice.nd rfl (Or.inl rfl) (hf := Or.inr rfl)) (fun _ _ _ _ _ => (pts_one (pt_cmpR op_ge (pv 3) (pe_op op_pow pe_int pe_int) (nomark _)))) (fun _ _ _ _ _ => (pv 3)))))))), ?_⟩
    refine ⟨_, rfl, _, rfl, a, rfl, ⟨_, hs⟩, for_list (K := K) (a := a) (xs := ns.map V.int) (fun i σ H' => H' = H ∧ ∃ f y, σ = [some (.ref a), some (.int k0), some (.int f), y] ∧ 0 ≤ f ∧ f < 2147483647) ⟨rfl, _, _, rfl, h0, h1⟩
      (fun i σ H' _ ⟨e, _⟩ => by rw [e]; exact hs) ?_ ?_⟩
    · rintro i x σ H1 hi ⟨rfl, f, y, rfl, f0, f1⟩
      obtain ⟨z, hz, rfl⟩ := int_at hi
      refine ⟨_, rfl, _, _, rfl, rfl, .inl ⟨by omega, by omega⟩, _, rfl, _, rfl, _, _, rfl, rfl, _, _, rfl, rfl, (by show (0 : Int) < 2147483647; decide), ?_⟩
      exact ⟨rfl, _, _, rfl, Int.emod_nonneg _ (by decide), Int.emod_lt_of_pos _ (by decide)⟩
    · rintro σ H1 ⟨rfl, f, y, rfl, f0, f1⟩
      refine ⟨_, rfl, (by show 2 ≤ sizeLine; decide), fun p hp => ?_⟩
      have sm := same_put (Same.refl H1) (o := .lst [.int f, .int 0]) hp
      refine ⟨_, rfl, a, rfl, ⟨_, sm.seq hs⟩, fun D hD => lc_list (K := K) (a := a) (xs := ns.map V.int) (fun i H' => Same (upd H1 p (.lst [.int f, .int 0])) H' ∧ ∃ r : List Int, H' D = some (.lst (r.map V.int)) ∧ r.length ≤ i ∧ ∀ z ∈ r, 0 ≤ z)
        ⟨(Bt.new (S := []) hD).same, [], upd_same, Nat.le_refl _, by simp⟩ (fun i H' _ q => (sm.trans q.1).seq hs) ?_ ?_⟩
      · rintro i x H2 hi ⟨sm2, r, hr2, hr3, hr4⟩
        obtain ⟨z, hz, rfl⟩ := int_at hi
        have il := (List.getElem?_eq_some_iff.mp hz).1
        refine ⟨rfl, _, rfl, _, _, rfl, rfl, ⟨by decide, by decide, by decide⟩, _, _, rfl, rfl, _, rfl, ?_⟩
        refine ite2 (fun e => ?_) (fun e => ?_)
        · refine ⟨_, rfl, _, hr2, ?_, same_put sm2 hD, r ++ [z], ?_, ?_, ?_⟩
          · rw [List.length_map, sizeLine_eq]
            omega
          · rw [upd_same, List.map_append]
            rfl
          · simp
            omega
          · intro y hy
            rcases List.mem_append.mp hy with h | h
            · exact hr4 y h
            · have e2 : y = z := by simpa using h
              have e3 := of_decide_eq_true e
              rw [e2]
              have e4 : (10 : Int) ^ (18 : Int).toNat = 1000000000000000000 := by decide
              rw [e4] at e3
              omega
        · exact ⟨sm2, r, hr2, by omega, hr4⟩
      · rintro H2 ⟨sm2, r, hr2, hr3, hr4⟩
        rw [List.length_map] at hr3
        refine ⟨p, D, _, _, rfl, rfl, sm2 _ _ upd_same, hr2, ?_, fun p2 hp2 => ?_⟩
        · rw [List.length_map, sizeLine_eq]
          simp
          omega
        · have smA := sm.trans sm2
          exact k p2 _ _ (smA.free hp2) (same_put smA (smA.free hp2)) upd_same ⟨f, 0, r, rfl, f0, f1, by decide, by omega, hr4⟩
end
end Mh
namespace Mh
open PySem L2
local macro_rules | `(tactic| walk_at "g") => `(tactic| repeat (first
  | refine ⟨_, rfl, ?_⟩
  | refine ⟨_, _, rfl, rfl, ?_⟩
  | refine ⟨_, _, _, _, rfl, rfl, SqL.of (by assumption), at0, ?_⟩
  | refine ⟨_, _, _, _, rfl, rfl, SqL.of (by assumption), at1, ?_⟩
  | refine ⟨_, _, rfl, .inl (SqL.of (by assumption)), ?_⟩
  | refine ⟨rfl, ?_⟩))
def spOff : Sp := fun vs H Q _ => ∃ (d : Addr) (n : Int) (xs : List V), vs = [.ref d, .int n] ∧ H d = some (.lst xs) ∧ Dice xs ∧ 0 < n ∧ n < 1073741824 ∧
  ∀ (r : Int) (ys : List V), 0 ≤ r → r < n → Dice ys → Q (.int r) (upd H d (.lst ys))
section
variable {P : Program} {w : World} {K : PySem.W.Frag} {mg : Str → Option Value} {base : Heap} {A : Adr}
theorem ok_off (T : Txt K mg A) : FnOk P w K mg base CX0 1 A.off A.off_ ["_law_d", "_law_upto"] spOff := by
  refine T.off.F.ok sc_off (fun vs H Q E h => ?_) (fun cdv Ar outer s H vs Q E hr h => ?_)
  · obtain ⟨d, n, xs, rfl, _⟩ := h
    rfl
  · obtain ⟨d, n, xs, rfl, hd, ⟨a, b, r, rfl, a0, a1, b0, hl, hz⟩, n0, n1, k⟩ := h
    refine ⟨_, (Evl.pss_cut (ps_if (PW.pt (pw_and (pt_cmpR op_eq (pe_ix ix_list (pv 0) pe_int (fun _ _ => rfl)) pe_int (nomark _)) (pw_and1 (pt_cmpR op_gt (pe_callB call_len_seq (by rfl) T.n_len PySem.boot_len (pa_cons (pv 0) pa_nil)) pe_int (nomark _)))))
    (pss_one (ps_asg (pe_bm PySem.F.plainAttrs_list PySem.F.slot_list_pop PySem.F.type_list_pop mt_popAt (pv 0) (pa_cons pe_int pa_nil)) (pg_sub (pv 0) pe_int set_list)))
    pss_nil)
    (pss_cons (ps_if (pt_cmpR op_gt (pe_ix ix_list (pv 0) pe_int (fun _ _ => rfl)) pe_int (nomark _))
    (pss_cons (ps_set (i := 2) sc_off.nd rfl (Or.inl rfl) (pe_op op_mod (pe_ix ix_list (pv 0) pe_int (fun _ _ => rfl)) (pv 1)))
    (pss_cons (ps_asg (pe_op op_fdiv (pe_ix ix_list (pv 0) pe_int (fun _ _ => rfl)) (pv 1)) (pg_sub (pv 0) pe_int set_list))
    (pss_one (ps_ret (pv 2)))))
    pss_nil)
    (pss_cons (ps_asg (pe_op op_mod (pe_op op_add (pe_op op_mul (pe_ix ix_list (pv 0) pe_int (fun _ _ => rfl)) pe_int) pe_int) pe_int) (pg_sub (pv 0) pe_int set_list))
    (pss_one (ps_ret (pe_op op_mod (pe_op op_fdiv (pe_ix ix_list (pv 0) pe_int (fun _ _ => rfl)) pe_int) (pv 1))))))), ?_⟩
    refine ⟨fun σ H1 => σ = [some (.ref d), some (.int n), none] ∧ (∀ ys, upd H1 d (.lst ys) = upd H d (.lst ys)) ∧ ∃ (b1 : Int) (r1 : List Int), H1 d = some (.lst (.int a :: .int b1 :: r1.map V.int)) ∧ 0 ≤ b1 ∧ r1.length ≤ 63 ∧ ∀ z ∈ r1, 0 ≤ z, ?_, ?_⟩
    · have here : (∀ ys, upd H d (.lst ys) = upd H d (.lst ys)) ∧ ∃ (b1 : Int) (r1 : List Int), H d = some (.lst (.int a :: .int b1 :: r1.map V.int)) ∧ 0 ≤ b1 ∧ r1.length ≤ 63 ∧ ∀ z ∈ r1, 0 ≤ z := ⟨fun _ => rfl, b, r, hd, b0, hl, hz⟩
      walk_at "g"
      refine ite2 (fun e => ?_) (fun e => ?_)
      · walk_at "g"
        refine ite2 (fun e2 => ?_) (fun e2 => ?_)
        · have l2 := of_decide_eq_true e2
          cases r with
          | nil => simp at l2
          | cons z r =>
            refine ⟨_, rfl, .inl ⟨rfl, _, SqL.of hd⟩, ?_⟩
            refine ⟨d, _, 2, 2, .int z, rfl, rfl, hd, by decide, by decide, by simp [seqIndex?]; omega, rfl, ?_⟩
            refine ⟨_, rfl, d, _, 1, 1, rfl, rfl, upd_same, by simp [ixN]; omega, ?_⟩
            refine ⟨rfl, fun ys => ?_, z, r, ?_, hz z (by simp), by simp at hl; omega, fun y hy => hz y (by simp [hy])⟩
            · rw [upd_upd, upd_upd]
            · rw [upd_same]
              rfl
        · exact ⟨rfl, here⟩
      · exact ⟨rfl, here⟩
    · rintro σ H1 ⟨rfl, hu1, b1, r1, h1, b10, hl1, hz1⟩
      walk_at "g"
      refine ite2 (fun e => ?_) (fun e => ?_)
      · walk_at "g"
        refine ⟨n0, ?_⟩
        walk_at "g"
        refine ⟨⟨n0, n1⟩, ?_⟩
        refine ⟨_, rfl, d, _, 1, 1, rfl, rfl, h1, by simp [ixN]; omega, ?_⟩
        walk_at "g"
        rw [hu1]
        exact k _ _ (Int.emod_nonneg _ (by omega)) (Int.emod_lt_of_pos _ n0) ⟨a, b1 / n, r1, rfl, a0, a1, Int.ediv_nonneg b10 (by omega), hl1, hz1⟩
      · walk_at "g"
        refine ⟨.inr (by decide), ?_⟩
        walk_at "g"
        refine ⟨by show (0 : Int) < 2147483647; decide, ?_⟩
        refine ⟨_, rfl, d, _, 0, 0, rfl, rfl, h1, by simp [ixN]; omega, ?_⟩
        have h2 : upd H1 d (.lst ((V.int a :: V.int b1 :: r1.map V.int).set 0 (V.int ((a * 48271 + 11) % 2147483647)))) d = some (.lst (.int ((a * 48271 + 11) % 2147483647) :: .int b1 :: r1.map V.int)) := upd_same
        walk_at "g"
        refine ⟨⟨by decide, by decide⟩, ?_⟩
        walk_at "g"
        refine ⟨n0, ?_⟩
        rw [hu1]
        exact k _ _ (Int.emod_nonneg _ (by omega)) (Int.emod_lt_of_pos _ n0) ⟨(a * 48271 + 11) % 2147483647, b1, r1, rfl, Int.emod_nonneg _ (by decide), Int.emod_lt_of_pos _ (by decide), b10, hl1, hz1⟩
end

/-! ### draws, as readings -/
/-- the dice stand at d -/
def DS (d : Addr) (H : Hp) : Prop := ∃ ys, H d = some (.lst ys) ∧ Dice ys
section
variable {K : PySem.W.Frag} {σ : St} {H : Hp} {Q : VK} {d : Addr} {i : Nat}
theorem DS.kt {H' : Hp} (h : DS d H) (b : Bt [d] H H') : KT K H H' := by
  obtain ⟨ys, h1, _⟩ := h
  exact b.kt1 h1
theorem DS.ne {p : Addr} (h : DS d H) (hp : H p = none) : d ≠ p := by
  obtain ⟨ys, h1, _⟩ := h
  exact ne_of_none h1 hp
theorem DS.new {p : Addr} {o : HO} (h : DS d H) (hp : H p = none) : DS d (upd H p o) := by
  have n := h.ne hp
  obtain ⟨ys, h1, h2⟩ := h
  exact ⟨ys, (upd_ne n).trans h1, h2⟩
abbrev tOffE (i : Nat) (t : TE) : TE := tCall spOff [] E0 (tCons (tVar i) (tCons t tNil))
theorem nil_ {σ : St} {H : Hp} {Q : List V → Hp → Prop} (h : Q [] H) : tNil σ H Q := h
theorem rd_offV {x : V} {n : Int} (hx : x = .int n) (hd : DS d H) (h0 : 0 < n) (h1 : n < 1073741824) (k : ∀ (r : Int) (H' : Hp), 0 ≤ r → r < n → Bt [d] H H' → DS d H' → Q (.int r) H') :
    spOff ([.ref d, x] ++ []) H Q E0 := by
  obtain ⟨ys, h2, h3⟩ := hd
  subst hx
  exact ⟨d, n, ys, rfl, h2, h3, h0, h1, fun r zs r0 r1 dz => k r _ r0 r1 (Bt.refl.set (by simp)) ⟨zs, upd_same, dz⟩⟩
theorem rd_off {n : Int} (hσ : σ[i]? = some (some (.ref d))) (hd : DS d H) (h0 : 0 < n) (h1 : n < 1073741824) (k : ∀ (r : Int) (H' : Hp), 0 ≤ r → r < n → Bt [d] H H' → DS d H' → Q (.int r) H') :
    tOffE i (tC (.int n)) σ H Q := ⟨_, hσ, rd_offV rfl hd h0 h1 k⟩
theorem at_two {x y : V} {r : Int} (r0 : 0 ≤ r) (r1 : r < 2) : ∃ z, atI [x, y] r = some z ∧ (z = x ∨ z = y) := by
  have h : r = 0 ∨ r = 1 := by omega
  rcases h with h | h
  · subst h
    exact ⟨x, at0, .inl rfl⟩
  · subst h
    exact ⟨y, at1, .inr rfl⟩
theorem at_three {x y u : V} {r : Int} (r0 : 0 ≤ r) (r1 : r < 3) : ∃ z, atI [x, y, u] r = some z ∧ (z = x ∨ z = y ∨ z = u) := by
  have h : r = 0 ∨ r = 1 ∨ r = 2 := by omega
  rcases h with h | h | h
  · subst h
    exact ⟨x, at0, .inl rfl⟩
  · subst h
    exact ⟨y, at1, .inr (.inl rfl)⟩
  · subst h
    exact ⟨u, at2, .inr (.inr rfl)⟩
/-- [off(a), off(b)][off(2)] -/
theorem rd_pick {a b : Int} (hσ : σ[i]? = some (some (.ref d))) (hd : DS d H) (a0 : 0 < a) (a1 : a < 1073741824) (b0 : 0 < b) (b1 : b < 1073741824)
    (k : ∀ (r : Int) (H' : Hp), 0 ≤ r → (r < a ∨ r < b) → Bt [d] H H' → DS d H' → Q (.int r) H') :
    tOp (rIxL K) (tLst (tCons (tOffE i (tC (.int a))) (tCons (tOffE i (tC (.int b))) tNil))) (tOffE i (tC (.int 2))) σ H Q := by
  refine rd_off hσ hd a0 a1 fun r1 H1 r10 r11 b1' d1 => ?_
  refine rd_off hσ d1 b0 b1 fun r2 H2 r20 r21 b2' d2 => ?_
  refine ⟨by show 2 ≤ sizeLine; decide, fun l hl => ?_⟩
  refine rd_off hσ (d2.new hl) (by decide) (by decide) fun r3 H3 r30 r31 b3' d3 => ?_
  obtain ⟨z, hz, hc⟩ := at_two (x := .int r1) (y := .int r2) r30 r31
  have nl : l ∉ [d] := by
    simp only [List.mem_singleton]
    exact (d2.ne hl).symm
  refine ⟨l, _, r3, z, rfl, rfl, SqL.of (b3' _ _ nl upd_same), hz, ?_⟩
  have bt : Bt [d] H H3 := ((b1'.trans b2').trans (Bt.new hl)).trans b3'
  rcases hc with rfl | rfl
  · exact k r1 H3 r10 (.inl r11) bt d3
  · exact k r2 H3 r20 (.inr r21) bt d3
/-- [x, y][off(2)], x and y written -/
theorem rd_two {x y : V} (hσ : σ[i]? = some (some (.ref d))) (hd : DS d H)
    (k : ∀ (z : V) (H' : Hp), (z = x ∨ z = y) → Bt [d] H H' → DS d H' → Q z H') :
    tOp (rIxL K) (tLst (tCons (tC x) (tCons (tC y) tNil))) (tOffE i (tC (.int 2))) σ H Q := by
  refine ⟨by show 2 ≤ sizeLine; decide, fun l hl => ?_⟩
  refine rd_off hσ (hd.new hl) (by decide) (by decide) fun r3 H3 r30 r31 b3' d3 => ?_
  obtain ⟨z, hz, hc⟩ := at_two (x := x) (y := y) r30 r31
  have nl : l ∉ [d] := by
    simp only [List.mem_singleton]
    exact (hd.ne hl).symm
  exact ⟨l, _, r3, z, rfl, rfl, SqL.of (b3' _ _ nl upd_same), hz, k z H3 hc ((Bt.new hl).trans b3') d3⟩
end
/-- what is drawn: a value that tells some datum that can be -/
def spGen (K : PySem.W.Frag) {α : Type} (dt : α → PyData) (ok : α → Prop) : Sp := fun vs H Q _ => ∃ (d : Addr), vs = [.ref d] ∧ DS d H ∧
  ∀ (v : V) (t : α) (H' : Hp), Bt [d] H H' → DS d H' → Dp K H' v (dt t) → ok t → Q v H'
end Mh
namespace Mh
open PySem L2
section
variable {P : Program} {w : World} {K : PySem.W.Frag} {mg : Str → Option Value} {base : Heap} {A : Adr}
theorem ok_test (T : Txt K mg A) : FnOk P w K mg base CX0 2 A.test A.test_ ["_law_d"] (spGen K Tst.dt Tst.Ok) := by
  refine T.test.F.ok sc_test (fun vs H Q E h => ?_) (fun cdv Ar outer s H vs Q E hr h => ?_)
  · obtain ⟨d, rfl, _⟩ := h
    rfl
  · obtain ⟨d, rfl, hd, k⟩ := h
    refine ⟨_, (pss_cons (ps_set (i := 1) sc_test.nd rfl (Or.inl rfl) (pe_call (ok_off T) (hr.mono (by decide)) (by rfl) T.off.n T.off.F.kp T.off.b .nil pass0 (pa_cons (pv 0) (pa_cons pe_int pa_nil))))
    (pss_cons (ps_if (pt_cmpR op_eq (pv 1) pe_int (nomark _))
    (pss_one (ps_ret (pe_tup (pa_cons pe_str (pa_cons (pe_ix ix_list (pe_lst (pa_cons (pe_call (ok_off T) (hr.mono (by decide)) (by rfl) T.off.n T.off.F.kp T.off.b .nil pass0 (pa_cons (pv 0) (pa_cons pe_int pa_nil))) (pa_cons (pe_call (ok_off T) (hr.mono (by decide)) (by rfl) T.off.n T.off.F.kp T.off.b .nil pass0 (pa_cons (pv 0) (pa_cons pe_int pa_nil))) pa_nil))) (pe_call (ok_off T) (hr.mono (by decide)) (by rfl) T.off.n T.off.F.kp T.off.b .nil pass0 (pa_cons (pv 0) (pa_cons pe_int pa_nil))) (fun _ _ => rfl)) pa_nil)))))
    pss_nil)
    (pss_cons (ps_if (pt_cmpR op_lt (pv 1) pe_int (nomark _))
    (pss_cons (ps_set (i := 2) sc_test.nd rfl (Or.inl rfl) (pe_op op_add pe_int (pe_call (ok_off T) (hr.mono (by decide)) (by rfl) T.off.n T.off.F.kp T.off.b .nil pass0 (pa_cons (pv 0) (pa_cons (pe_ix ix_list (pe_lst (pa_cons pe_int (pa_cons pe_int pa_nil))) (pe_call (ok_off T) (hr.mono (by decide)) (by rfl) T.off.n T.off.F.kp T.off.b .nil pass0 (pa_cons (pv 0) (pa_cons pe_int pa_nil))) (fun _ _ => rfl)) pa_nil)))))
    (pss_one (ps_ret (pe_tup (pa_cons (pe_ix ix_list (pe_lst (pa_cons pe_str (pa_cons pe_str pa_nil))) (pe_op op_sub (pv 1) pe_int) (fun _ _ => rfl)) (pa_cons (pv 2) (pa_cons (pe_call (ok_off T) (hr.mono (by decide)) (by rfl) T.off.n T.off.F.kp T.off.b .nil pass0 (pa_cons (pv 0) (pa_cons (pv 2) pa_nil))) pa_nil)))))))
    pss_nil)
    (pss_cons (ps_if (pt_cmpR op_eq (pv 1) pe_int (nomark _))
    (pss_one (ps_ret (pe_tup (pa_cons pe_str (pa_cons (pe_callTy call_tuple_of (by rfl) T.n_tuple PyProof.Rows.boot_tuple (pa_cons (pe_callB (cr_sortedSet rfl) (by rfl) T.n_sorted PyProof.Rows.boot_sorted (pa_cons (pe_callTy (cr_setL rfl) (by rfl) T.n_set PyProof.Rows.boot_set (pa_cons (pe_lc (own := [("_law_k", 3)]) (g := gName 3) (tt := tYes) rfl sc_test.nd (pi_range1 (by rfl) T.n_range (pa_cons (pe_op op_add pe_int (pe_call (ok_off T) (hr.mono (by decide)) (by rfl) T.off.n T.off.F.kp T.off.b .nil pass0 (pa_cons (pv 0) (pa_cons pe_int pa_nil)))) pa_nil)) (blkOk_by (N := N_test) (sc := defScope s_test) (by decide +kernel)) (fun _ _ _ _ _ => pg_name (i := 3) sc_test.nd rfl (Or.inl rfl) (hf := Or.inr rfl)) (fun _ _ _ _ _ => pts_nil) (fun _ _ _ _ _ => (pe_call (ok_off T) (hr.mono (by decide)) (by rfl) T.off.n T.off.F.kp T.off.b .nil pass0 (pa_cons (pv 0) (pa_cons pe_int pa_nil))))) pa_nil)) pa_nil)) pa_nil)) pa_nil)))))
    pss_nil)
    (pss_one (ps_ret (pe_ix ix_list (pe_lst (pa_cons (pe_tup (pa_cons pe_str pa_nil)) (pa_cons (pe_tup (pa_cons pe_str (pa_cons pe_int (pa_cons (pe_call (ok_off T) (hr.mono (by decide)) (by rfl) T.off.n T.off.F.kp T.off.b .nil pass0 (pa_cons (pv 0) (pa_cons pe_int pa_nil))) pa_nil)))) pa_nil))) (pe_op op_sub (pv 1) pe_int) (fun _ _ => rfl)))))))), ?_⟩
    refine rd_off rfl hd (by decide) (by decide) fun r H1 r0 r1 b1 d1 => ?_
    refine ⟨_, rfl, rfl, _, rfl, ite2 (fun e => ?_) (fun e => ?_)⟩
    · refine rd_pick (K := K) rfl d1 (by decide) (by decide) (by decide) (by decide) fun z H2 z0 z1 b2 d2 => ?_
      refine ⟨by show 2 ≤ sizeLine; decide, fun p hp => ?_⟩
      exact k (.ref p) (.below z) _ ((b1.trans b2).trans (Bt.new hp)) (d2.new hp) (.tup (SqT.of upd_same) (.cons (.str _) (.cons (.int _) .nil))) ⟨z0, by omega⟩
    · have r2 : r ≠ 0 := fun q => e (by rw [q]; decide)
      refine ⟨_, rfl, _, _, rfl, rfl, _, rfl, ite2 (fun e => ?_) (fun e => ?_)⟩
      · have e3 := of_decide_eq_true e
        refine ⟨_, rfl, rd_two (K := K) rfl d1 fun z H2 hz b2 d2 => ?_⟩
        have hz2 : ∃ n, z = .int n ∧ 0 < n ∧ n ≤ 98 := by
          rcases hz with rfl | rfl
          · exact ⟨3, rfl, by decide, by decide⟩
          · exact ⟨98, rfl, by decide, by decide⟩
        obtain ⟨n, en, n0, n1⟩ := hz2
        refine nil_ (rd_offV en d2 n0 (by omega) fun m H3 m0 m1 b3 d3 => ?_)
        refine ⟨_, _, rfl, rfl, ?_⟩
        refine ⟨by show 2 ≤ sizeLine; decide, fun l hl => ?_⟩
        obtain ⟨y, hy, hc⟩ := at_two (x := .str "rest") (y := .str "chance") (r := r - 1) (by omega) (by omega)
        refine ⟨_, rfl, _, _, rfl, rfl, l, _, _, y, rfl, rfl, SqL.of upd_same, hy, ?_⟩
        refine ⟨_, rfl, _, rfl, _, rfl, nil_ (rd_offV rfl (d3.new hl) (by omega) (by omega) fun x H4 x0 x1 b4 d4 => ?_)⟩
        refine ⟨by show 3 ≤ sizeLine; decide, fun p hp => ?_⟩
        have bt := ((((b1.trans b2).trans b3).trans (Bt.new hl)).trans b4).trans (Bt.new (o := .tup [y, .int (2 + m), .int x]) hp)
        rcases hc with rfl | rfl
        · exact k (.ref p) (.rest (2 + m) x) _ bt (d4.new hp) (.tup (SqT.of upd_same) (.cons (.str _) (.cons (.int _) (.cons (.int _) .nil)))) ⟨by omega, by omega, x0, x1⟩
        · exact k (.ref p) (.chance (2 + m) x) _ bt (d4.new hp) (.tup (SqT.of upd_same) (.cons (.str _) (.cons (.int _) (.cons (.int _) .nil)))) ⟨by omega, by omega, x0, x1⟩
      · have e3 := of_decide_eq_false (Bool.eq_false_iff.mpr e)
        refine ⟨_, rfl, rfl, _, rfl, ite2 (fun e => ?_) (fun e => ?_)⟩
        · refine rd_off rfl d1 (by decide) (by decide) fun n H2 n0 n1 b2 d2 => ?_
          refine ⟨_, _, rfl, rfl, _, rfl, by omega, by omega, fun D hD => ?_⟩
          have nD := d2.ne hD
          refine lc_range (lo := 0) (n := (1 + n).toNat) (fun i H' => Bt [d] H2 H' ∧ DS d H' ∧ ∃ ns : List Int, H' D = some (.lst (ns.map V.int)) ∧ ns.length = i ∧ ∀ z ∈ ns, 0 ≤ z ∧ z < 12)
            ⟨Bt.new hD, d2.new hD, [], upd_same, rfl, by simp⟩ ?_ ?_
          · rintro i H3 hi ⟨b3, d3, ns, h3, l3, z3⟩
            refine ⟨rfl, ?_⟩
            refine yes_ ?_
            refine iteT ?_
            refine rd_off rfl d3 (by decide) (by decide) fun x H4 x0 x1 b4 d4 => ?_
            have nD2 : D ∉ [d] := by
              simp only [List.mem_singleton]
              exact nD.symm
            refine ⟨_, b4 _ _ nD2 h3, ?_, (b3.trans b4).put hD, ?_, ns ++ [x], ?_, by simp [l3], ?_⟩
            · rw [List.length_map, sizeLine_eq]
              omega
            · obtain ⟨ys, g1, g2⟩ := d4
              exact ⟨ys, (upd_ne nD).trans g1, g2⟩
            · rw [upd_same, List.map_append]
              rfl
            · intro y hy
              rcases List.mem_append.mp hy with h | h
              · exact z3 y h
              · have e2 : y = x := by simpa using h
                rw [e2]
                exact ⟨x0, x1⟩
          · rintro H3 ⟨b3, d3, ns, h3, l3, z3⟩
            refine ⟨D, ns, rfl, SqL.of h3, by omega, fun p c hp hc => ?_⟩
            refine ⟨p, _, _, rfl, upd_same, by omega, fun ks p2 pw mem lk hp2 => ?_⟩
            refine ⟨p2, _, rfl, .inl ⟨SqL.of upd_same, fun p3 hp3 => ?_⟩⟩
            refine ⟨by show 2 ≤ sizeLine; decide, fun p4 hp4 => ?_⟩
            have h34 : p3 ≠ p4 := fun q => by rw [← q, upd_same] at hp4; cases hp4
            refine k (.ref p4) (.known ks) _ ((((((b1.trans b2).trans b3).trans (Bt.new hp)).trans (Bt.new hp2)).trans (Bt.new hp3)).trans (Bt.new hp4)) ((((d3.new hp).new hp2).new hp3).new hp4)
              (.tup (SqT.of upd_same) (.cons (.str _) (.cons (.tup (SqT.of ((upd_ne h34).trans upd_same)) (dps_of_ints ks)) .nil))) ⟨?_, by omega, pw, ?_⟩
            · cases ns with
              | nil => simp at l3; omega
              | cons z ns =>
                have q := (mem z).2 (by simp)
                cases ks with
                | nil => simp at q
                | cons _ _ => simp
            · intro y hy
              have q := (mem y).1 hy
              have q2 := z3 y (of_decide_eq_true q)
              omega
        · have r4 : r ≠ 3 := fun q => e (by rw [q]; decide)
          refine ⟨by show 1 ≤ sizeLine; decide, fun p1 hp1 => ?_⟩
          refine rd_off rfl (d1.new hp1) (by decide) (by decide) fun x H2 x0 x1 b2 d2 => ?_
          refine ⟨by show 3 ≤ sizeLine; decide, fun p2 hp2 => ?_⟩
          refine ⟨by show 2 ≤ sizeLine; decide, fun l hl => ?_⟩
          obtain ⟨y, hy, hc⟩ := at_two (x := .ref p1) (y := .ref p2) (r := r - 4) (by omega) (by omega)
          refine ⟨_, rfl, _, _, rfl, rfl, l, _, _, y, rfl, rfl, SqL.of upd_same, hy, ?_⟩
          have bt := (((b1.trans (Bt.new hp1)).trans b2).trans (Bt.new (o := .tup [.str "chance", .int 2, .int x]) hp2)).trans (Bt.new (o := .lst [.ref p1, .ref p2]) hl)
          have n1 : p1 ∉ [d] := by
            simp only [List.mem_singleton]
            exact (d1.ne hp1).symm
          rcases hc with rfl | rfl
          · have g : H2 p1 = some (.tup [.str "any"]) := b2 _ _ n1 upd_same
            refine k (.ref p1) .any _ bt ((d2.new hp2).new hl) (.tup (SqT.of ?_) (.cons (.str _) .nil)) True.intro
            have q2 : p1 ≠ p2 := ne_of_none g hp2
            have g2 := (upd_ne (o := .tup [.str "chance", .int 2, .int x]) q2).trans g
            exact (upd_ne (ne_of_none g2 hl)).trans g2
          · refine k (.ref p2) (.chance 2 x) _ bt ((d2.new hp2).new hl) (.tup (SqT.of ?_) (.cons (.str _) (.cons (.int _) (.cons (.int _) .nil)))) ⟨by decide, by decide, x0, x1⟩
            exact (upd_ne (ne_of_none upd_same hl)).trans upd_same
end
end Mh
namespace Mh
open PySem L2
section
variable {P : Program} {w : World} {K : PySem.W.Frag} {mg : Str → Option Value} {base : Heap} {A : Adr}
theorem ok_answer (T : Txt K mg A) : FnOk P w K mg base CX0 2 A.answer A.answer_ ["_law_d"] (spGen K Asw.dt Asw.Ok) := by
  refine T.answer.F.ok sc_answer (fun vs H Q E h => ?_) (fun cdv Ar outer s H vs Q E hr h => ?_)
  · obtain ⟨d, rfl, _⟩ := h
    rfl
  · obtain ⟨d, rfl, hd, k⟩ := h
    refine ⟨_, (pss_cons (ps_set (i := 1) sc_answer.nd rfl (Or.inl rfl) (pe_call (ok_off T) (hr.mono (by decide)) (by rfl) T.off.n T.off.F.kp T.off.b .nil pass0 (pa_cons (pv 0) (pa_cons pe_int pa_nil))))
    (pss_cons (ps_set (i := 2) sc_answer.nd rfl (Or.inl rfl) (pe_ix ix_list (pe_lst (pa_cons (pe_op op_sub (pe_call (ok_off T) (hr.mono (by decide)) (by rfl) T.off.n T.off.F.kp T.off.b .nil pass0 (pa_cons (pv 0) (pa_cons pe_int pa_nil))) pe_int) (pa_cons (pe_op op_sub (pe_call (ok_off T) (hr.mono (by decide)) (by rfl) T.off.n T.off.F.kp T.off.b .nil pass0 (pa_cons (pv 0) (pa_cons pe_int pa_nil))) pe_int) pa_nil))) (pe_callTy call_int1 (by rfl) T.n_int (by decide +kernel) (pa_cons (pe_cmpR op_eq (pe_call (ok_off T) (hr.mono (by decide)) (by rfl) T.off.n T.off.F.kp T.off.b .nil pass0 (pa_cons (pv 0) (pa_cons pe_int pa_nil))) pe_int (nomark _)) pa_nil)) (fun _ _ => rfl)))
    (pss_cons (ps_if (pt_cmpR op_eq (pv 1) pe_int (nomark _))
    (pss_one (ps_ret (pe_tup (pa_cons pe_str (pa_cons (pe_op op_add pe_int (pe_call (ok_off T) (hr.mono (by decide)) (by rfl) T.off.n T.off.F.kp T.off.b .nil pass0 (pa_cons (pv 0) (pa_cons pe_int pa_nil)))) pa_nil)))))
    pss_nil)
    (pss_one (ps_ret (pe_ifExp (pt_cmpR op_eq (pv 1) pe_int (nomark _)) (pe_tup (pa_cons pe_str pa_nil)) (pe_tup (pa_cons (pe_ix ix_list (pe_lst (pa_cons pe_str (pa_cons pe_str (pa_cons pe_str pa_nil)))) (pv 1) (fun _ _ => rfl)) (pa_cons (pv 2) pa_nil))))))))), ?_⟩
    refine rd_off rfl hd (by decide) (by decide) fun r H1 r0 r1 b1 d1 => ?_
    refine rd_off rfl d1 (by decide) (by decide) fun x H2 x0 x1 b2 d2 => ?_
    refine ⟨_, _, rfl, rfl, ?_⟩
    refine rd_off rfl d2 (by decide) (by decide) fun y H3 y0 y1 b3 d3 => ?_
    refine ⟨_, _, rfl, rfl, ?_⟩
    refine ⟨by show 2 ≤ sizeLine; decide, fun l hl => ?_⟩
    refine rd_off rfl (d3.new hl) (by decide) (by decide) fun z H4 z0 z1 b4 d4 => ?_
    refine ⟨rfl, .inr ⟨_, rfl, ?_⟩⟩
    obtain ⟨n, hn, hc⟩ := at_two (x := .int (x - 2)) (y := .int (y - 9999)) (r := if decide (V.int z = V.int 0) = true then 1 else 0) (by split <;> decide) (by split <;> decide)
    have nl : l ∉ [d] := by
      simp only [List.mem_singleton]
      exact (d3.ne hl).symm
    refine ⟨l, _, _, n, rfl, rfl, SqL.of (b4 _ _ nl upd_same), hn, ?_⟩
    have bt : Bt [d] H H4 := (((b1.trans b2).trans b3).trans (Bt.new hl)).trans b4
    have hn2 : ∃ m, n = .int m ∧ -9999 ≤ m ∧ m ≤ 9999 := by
      rcases hc with rfl | rfl
      · exact ⟨_, rfl, by omega, by omega⟩
      · exact ⟨_, rfl, by omega, by omega⟩
    obtain ⟨m, rfl, m0, m1⟩ := hn2
    refine ⟨_, rfl, rfl, _, rfl, ite2 (fun e => ?_) (fun e => ?_)⟩
    · refine rd_off rfl d4 (by decide) (by decide) fun u H5 u0 u1 b5 d5 => ?_
      refine ⟨_, _, rfl, rfl, by show 2 ≤ sizeLine; decide, fun p hp => ?_⟩
      exact k (.ref p) (.rest (2 + u)) _ ((bt.trans b5).trans (Bt.new hp)) (d5.new hp) (.tup (SqT.of upd_same) (.cons (.str _) (.cons (.int _) .nil))) ⟨by omega, by omega⟩
    · have r3 : r ≠ 3 := fun q => e (by rw [q]; decide)
      refine ⟨_, rfl, rfl, _, rfl, ite2 (fun e => ?_) (fun e => ?_)⟩
      · refine ⟨by show 1 ≤ sizeLine; decide, fun p hp => ?_⟩
        exact k (.ref p) .non _ (bt.trans (Bt.new hp)) (d4.new hp) (.tup (SqT.of upd_same) (.cons (.str _) .nil)) True.intro
      · have r4 : r ≠ 4 := fun q => e (by rw [q]; decide)
        refine ⟨by show 3 ≤ sizeLine; decide, fun l2 hl2 => ?_⟩
        obtain ⟨c, hc2, hc3⟩ := at_three (x := .str "num") (y := .str "plus") (u := .str "times") (r := r) r0 (by omega)
        refine ⟨_, rfl, l2, _, _, c, rfl, rfl, SqL.of upd_same, hc2, _, rfl, by show 2 ≤ sizeLine; decide, fun p hp => ?_⟩
        have bt2 := (bt.trans (Bt.new (o := .lst [.str "num", .str "plus", .str "times"]) hl2)).trans (Bt.new (o := .tup [c, .int m]) hp)
        rcases hc3 with rfl | rfl | rfl
        · exact k (.ref p) (.num m) _ bt2 ((d4.new hl2).new hp) (.tup (SqT.of upd_same) (.cons (.str _) (.cons (.int _) .nil))) ⟨m0, m1⟩
        · exact k (.ref p) (.plus m) _ bt2 ((d4.new hl2).new hp) (.tup (SqT.of upd_same) (.cons (.str _) (.cons (.int _) .nil))) ⟨m0, m1⟩
        · exact k (.ref p) (.times m) _ bt2 ((d4.new hl2).new hp) (.tup (SqT.of upd_same) (.cons (.str _) (.cons (.int _) .nil))) ⟨m0, m1⟩
theorem ok_machine (T : Txt K mg A) : FnOk P w K mg base CX0 3 A.machine A.machine_ ["_law_d"] (spGen K machDt MachOk) := by
  refine T.machine.F.ok sc_machine (fun vs H Q E h => ?_) (fun cdv Ar outer s H vs Q E hr h => ?_)
  · obtain ⟨d, rfl, _⟩ := h
    rfl
  · obtain ⟨d, rfl, hd, k⟩ := h
    refine ⟨_, (pss_one (ps_ret (pe_callTy call_tuple_of (by rfl) T.n_tuple PyProof.Rows.boot_tuple (pa_cons (pe_lc (own := [("_law_k", 1)]) (g := gName 1) (tt := tYes) rfl sc_machine.nd (pi_range1 (by rfl) T.n_range (pa_cons (pe_op op_add pe_int (pe_call (ok_off T) (hr.mono (by decide)) (by rfl) T.off.n T.off.F.kp T.off.b .nil pass0 (pa_cons (pv 0) (pa_cons (pe_ix ix_list (pe_lst (pa_cons pe_int (pa_cons pe_int pa_nil))) (pe_call (ok_off T) (hr.mono (by decide)) (by rfl) T.off.n T.off.F.kp T.off.b .nil pass0 (pa_cons (pv 0) (pa_cons pe_int pa_nil))) (fun _ _ => rfl)) pa_nil)))) pa_nil)) (blkOk_by (N := N_machine) (sc := defScope s_machine) (by decide +kernel)) (fun _ _ _ _ _ => pg_name (i := 1) sc_machine.nd rfl (Or.inl rfl) (hf := Or.inr rfl)) (fun _ _ _ _ _ => pts_nil) (fun _ _ _ _ _ => (pe_tup (pa_cons (pe_call (ok_test T) (hr.mono (by decide)) (by rfl) T.test.n T.test.F.kp T.test.b .nil pass0 (pa_cons (pv 0) pa_nil)) (pa_cons (pe_call (ok_answer T) (hr.mono (by decide)) (by rfl) T.answer.n T.answer.F.kp T.answer.b .nil pass0 (pa_cons (pv 0) pa_nil)) pa_nil))))) pa_nil)))), ?_⟩
    refine ⟨_, rfl, rd_two (K := K) rfl hd fun z H1 hz b1 d1 => ?_⟩
    have hz2 : ∃ n, z = .int n ∧ 0 < n ∧ n ≤ 12 := by
      rcases hz with rfl | rfl
      · exact ⟨3, rfl, by decide, by decide⟩
      · exact ⟨12, rfl, by decide, by decide⟩
    obtain ⟨n, en, n0, n1⟩ := hz2
    refine nil_ (rd_offV en d1 n0 (by omega) fun m H2 m0 m1 b2 d2 => ?_)
    refine ⟨_, _, rfl, rfl, _, rfl, by omega, by omega, fun D hD => ?_⟩
    have nD := d2.ne hD
    have nD2 : D ∉ [d] := by
      simp only [List.mem_singleton]
      exact nD.symm
    refine lc_range (lo := 0) (n := (1 + m).toNat) (fun i H' => Bt [d] H2 H' ∧ DS d H' ∧ ∃ (vs : List V) (ms : Mach), H' D = some (.lst vs) ∧ DpAll K H' vs (ms.map rowDt) ∧ ms.length = i ∧ ∀ r ∈ ms, r.1.Ok ∧ r.2.Ok)
      ⟨Bt.new hD, d2.new hD, [], [], upd_same, .nil, rfl, by simp⟩ ?_ ?_
    · rintro i H3 hi ⟨b3, d3, vs, ms, h3, a3, l3, z3⟩
      refine ⟨rfl, ?_⟩
      refine yes_ ?_
      refine iteT ?_
      refine ⟨_, rfl, d, rfl, d3, fun v1 t H4 b4 d4 p4 o4 => ?_⟩
      refine ⟨_, rfl, d, rfl, d4, fun v2 a H5 b5 d5 p5 o5 => ?_⟩
      refine ⟨by show 2 ≤ sizeLine; decide, fun p hp => ?_⟩
      have h5 : H5 D = some (.lst vs) := b5 _ _ nD2 (b4 _ _ nD2 h3)
      have nDp : D ≠ p := ne_of_none h5 hp
      have vl : vs.length = i := by
        rw [← l3]
        have e := dps_len a3
        rwa [List.length_map] at e
      have kt1 : KT K H5 (upd H5 p (.tup [v1, v2])) := KT.new hp
      have kt2 : KT K H3 H5 := (d3.kt b4).trans (d4.kt b5)
      have td : TDs (ms.map rowDt) = true := tds_mem.mpr fun x hx => by
        obtain ⟨r, _, rfl⟩ := List.mem_map.mp hx
        exact row_td r
      refine ⟨vs, (upd_ne nDp).trans h5, by rw [sizeLine_eq]; omega, ?_⟩
      have b6 : Bt [d] H2 (upd (upd H5 p (.tup [v1, v2])) D (.lst (vs ++ [.ref p]))) := (((b3.trans b4).trans b5).trans (Bt.new hp)).put hD
      have kt3 : KT K (upd H5 p (.tup [v1, v2])) (upd (upd H5 p (.tup [v1, v2])) D (.lst (vs ++ [.ref p]))) :=
        (Bt.refl.set (S := [D]) (by simp)).kt1 ((upd_ne nDp).trans h5)
      refine ⟨b6, ?_, vs ++ [.ref p], ms ++ [(t, a)], upd_same, ?_, by simp [l3], ?_⟩
      · obtain ⟨ys, g1, g2⟩ := d5.new (o := .tup [v1, v2]) hp
        exact ⟨ys, (upd_ne nD).trans g1, g2⟩
      · rw [List.map_append]
        refine dps_snoc (dps_keep (kt2.trans (kt1.trans kt3)) _ _ td a3) ?_
        exact .tup (kt3 _ _ (SqT.of upd_same)) (.cons (dp_keep ((d4.kt b5).trans (kt1.trans kt3)) _ _ t.td p4) (.cons (dp_keep (kt1.trans kt3) _ _ a.td p5) .nil))
      · intro r hr2
        rcases List.mem_append.mp hr2 with h | h
        · exact z3 r h
        · have e2 : r = (t, a) := by simpa using h
          rw [e2]
          exact ⟨o4, o5⟩
    · rintro H3 ⟨b3, d3, vs, ms, h3, a3, l3, z3⟩
      refine ⟨D, vs, rfl, .inl ⟨SqL.of h3, fun p hp => ?_⟩⟩
      have td : TDs (ms.map rowDt) = true := tds_mem.mpr fun x hx => by
        obtain ⟨r, _, rfl⟩ := List.mem_map.mp hx
        exact row_td r
      exact k (.ref p) ms _ (((b1.trans b2).trans b3).trans (Bt.new hp)) (d3.new hp) (.tup (SqT.of upd_same) (dps_keep (KT.new hp) _ _ td a3)) ⟨by omega, by omega, z3⟩
end
end Mh
namespace Mh
open PySem L2
theorem putK_len {κ : Type} [DecidableEq κ] (kvs : List (κ × V)) (k : κ) (v : V) : (putK kvs k v).length ≤ kvs.length + 1 := by
  unfold putK
  split
  · simp
  · simp
theorem at_neg1 {x y : V} : atI [x, y] (-1) = some y := by simp [atI, ixN]
theorem at_neg1' {x : V} : atI [x] (-1) = some x := by simp [atI, ixN]
def spTold (K : PySem.W.Frag) : Sp := fun vs H Q _ => ∃ (v : V) (m : Mach) (q s : Int), vs = [v, .int q, .int s] ∧ Dp K H v (machDt m) ∧ MachOk m ∧ ∀ H', Same H H' → Q (oV (tell q s m)) H'
section
variable {P : Program} {w : World} {K : PySem.W.Frag} {mg : Str → Option Value} {base : Heap} {A : Adr}
/-- the dict of an answer's outcomes, behind its making -/
abbrev kNum : Key := Sum.inr "num"
abbrev kNone : Key := Sum.inr "none"
abbrev kPlus : Key := Sum.inr "plus"
abbrev kTimes : Key := Sum.inr "times"
abbrev kRest : Key := Sum.inr "rest"
def toldD (x : V) : List (Key × V) := mergeK [] [(kNum, x), (kNone, .non)]
theorem toldD_len (x : V) : (toldD x).length ≤ 2 := by
  have h1 := putK_len (putK [] kNum x) kNone V.non
  have h2 := putK_len ([] : List (Key × V)) kNum x
  have h3 : (toldD x).length = (putK (putK [] kNum x) kNone V.non).length := rfl
  rw [h3]
  simp at h2
  omega
theorem toldD_at (x : V) (k : Key) : valV (toldD x) k = if k = kNone then some .non else if k = kNum then some x else none := by
  show valV (putK (putK [] kNum x) kNone V.non) k = _
  rw [valV_put, valV_put]
  rfl
theorem ok_told (T : Txt K mg A) : FnOk P w K mg base CX0 1 A.told A.told_ ["_law_machine_here", "_law_question", "_law_grain"] (spTold K) := by
  refine T.told.F.ok sc_told (fun vs H Q E h => ?_) (fun cdv Ar outer s H vs Q E hr h => ?_)
  · obtain ⟨v, m, q, z, rfl, _⟩ := h
    rfl
  · obtain ⟨v, m, q, z, rfl, hv, ⟨l1, l12, ho⟩, k⟩ := h
    obtain ⟨p, vs, rfl, hs, ha⟩ := dp_tup hv
    refine ⟨_, (pss_cons (ps_for PassesOwn.never rfl (pi_tup (pv 0)) (pg_tup rfl (pgs_cons (pg_name (i := 3) sc_told.nd rfl (Or.inl rfl)) (pgs_cons (pg_name (i := 4) sc_told.nd rfl (Or.inl rfl)) pgs_nil)))
    (pss_at 4 (pss_cons (ps_set (i := 5) sc_told.nd rfl (Or.inl rfl) (pe_ix ix_tup (pv 3) pe_int (fun _ _ => rfl)))
    (pss_cons (ps_set (i := 6) sc_told.nd rfl (Or.inl rfl) (pe_or (pe_cmpR op_eq (pv 5) pe_str (nomark _)) (pe_one (pe_and (pe_cmpR op_eq (pv 5) pe_str (nomark _)) (pe_one (pe_cmpR op_in_seq (pv 1) (pe_ix ix_tup (pv 3) pe_int (fun _ _ => rfl)) (by rfl)))))))
    (pss_cons (ps_if (pt_cmpR op_eq (pv 5) pe_str (nomark _))
    (pss_one (ps_set (i := 6) sc_told.nd rfl (Or.inl rfl) (pe_cmpR op_lt (pv 1) (pe_ix ix_tup (pv 3) pe_int (fun _ _ => rfl)) (nomark _))))
    pss_nil)
    (pss_one (ps_if (pt_cmpR op_in_seq (pv 5) (pe_tup (pa_cons pe_str (pa_cons pe_str pa_nil))) (by rfl))
    (pss_cons (ps_set (i := 7) sc_told.nd rfl (Or.inl rfl) (pe_ifExp (pt_cmpR op_eq (pv 5) pe_str (nomark _)) (pv 1) (pe_op op_add (pe_op op_mul pe_int (pv 1)) (pe_op op_mul pe_int (pv 2)))))
    (pss_one (ps_set (i := 6) sc_told.nd rfl (Or.inl rfl) (pe_cmpR op_eq (pe_op op_sub (pv 7) (pe_op op_mul (pe_op op_fdiv (pv 7) (pe_ix ix_tup (pv 3) pe_int (fun _ _ => rfl))) (pe_ix ix_tup (pv 3) pe_int (fun _ _ => rfl)))) (pe_ix ix_tup (pv 3) pe_int (fun _ _ => rfl)) (nomark _)))))
    pss_nil)))))
    (pss_one (ps_if (pt_val (pv 6))
    (pss_cons (ps_set (i := 8) sc_told.nd rfl (Or.inl rfl) (pe_disp (pps_cons pe_str (pe_ix ix_tup (pv 4) (pe_un un_neg pe_int) (fun _ _ => rfl)) (pps_cons pe_str pe_non pps_nil)) (by rfl) (by rfl) (fun z => by cases z) (by decide)))
    (pss_cons (ps_if (pt_cmp (pc_dnotin (hu_of hr) (pe_ix ix_tup (pv 4) pe_int (fun _ _ => rfl)) (pv 8)))
    (pss_cons (ps_dput (hu_of hr) (pv 8) pe_str (pe_op op_add (pv 1) (pe_ix ix_tup (pv 4) pe_int (fun _ _ => rfl))) rfl)
    (pss_cons (ps_dput (hu_of hr) (pv 8) pe_str (pe_op op_mul (pv 1) (pe_ix ix_tup (pv 4) pe_int (fun _ _ => rfl))) rfl)
    (pss_one (ps_dput (hu_of hr) (pv 8) pe_str (pe_op op_sub (pv 1) (pe_op op_mul (pe_op op_fdiv (pv 1) (pe_callB (call_max2 rfl) (by rfl) T.n_max (by decide +kernel) (pa_cons pe_int (pa_cons (pe_ix ix_tup (pv 4) pe_int (fun _ _ => rfl)) pa_nil)))) (pe_ix ix_tup (pv 4) pe_int (fun _ _ => rfl)))) rfl))))
    pss_nil)
    (pss_one (ps_ret (pe_dget (hu_of hr) (pv 8) (pe_ix ix_tup (pv 4) pe_int (fun _ _ => rfl)) (fun _ _ => rfl))))))
    pss_nil))))
    (pss_one (ps_ret pe_non))), ?_⟩
    refine ⟨_, rfl, p, rfl, ⟨vs, hs⟩, for_tup (K := K) (a := p) (xs := vs) (fun i σ H' => Same H H' ∧ (∃ x3 x4 x5 x6 x7 x8, σ = [some (.ref p), some (.int q), some (.int z), x3, x4, x5, x6, x7, x8]) ∧ tell q z m = tell q z (m.drop i)) ⟨Same.refl H, ⟨_, _, _, _, _, _, rfl⟩, rfl⟩
      (fun i σ H' _ ⟨e, _⟩ => KT.same e _ _ hs) ?_ ?_⟩
    · rintro i x σ H1 hi ⟨sm, ⟨x3, x4, x5, x6, x7, x8, rfl⟩, et⟩
      obtain ⟨t, a, hm, b, u, y, rfl, hb, hu, hy⟩ := row_at ha hi
      obtain ⟨ok1, ok2⟩ := ho _ (List.mem_of_getElem? hm)
      rw [drop_at hm] at et
      have kt := KT.same (K := K) sm
      have hu1 := dp_keep kt _ _ t.td hu
      have hy1 := dp_keep kt _ _ a.td hy
      refine ⟨b, _, rfl, kt _ _ hb, rfl, _, _, rfl, _, _, rfl, rfl, ?_⟩
      have hw : ∃ wd ar, t.dt = .tuple (.str wd :: ar) := by cases t <;> exact ⟨_, _, rfl⟩
      have tb : ∃ b1 xs, u = .ref b1 ∧ SqT K H1 b1 xs := by
        obtain ⟨wd, ar, e⟩ := hw
        rw [e] at hu1
        obtain ⟨b1, xs, e1, e2, _⟩ := dp_tup hu1
        exact ⟨b1, xs, e1, e2⟩
      refine ⟨fun σ' H' => Same H H' ∧ ∃ x5 x7 x8, σ' = [some (.ref p), some (.int q), some (.int z), some u, some y, x5, some (.bl (t.holds q z)), x7, x8], ?_, ?_⟩
      · clear hm et ok2 hy hy1
        cases t with
        | any =>
          obtain ⟨b1, rfl, hb1⟩ := dp_1 hu1
          refine ⟨_, rfl, b1, _, _, _, rfl, rfl, hb1, at0, ?_⟩
          refine ⟨_, rfl, rfl, _, rfl, ifp (by decide +kernel) ?_⟩
          refine ⟨_, rfl, rfl, _, rfl, ifn (by decide +kernel) ?_⟩
          refine ⟨_, rfl, by show 2 ≤ sizeLine; decide, fun tp htp => ⟨tp, _, rfl, .inr (SqT.of upd_same), rfl, rfl, _, rfl, ifn (by decide +kernel) ?_⟩⟩
          exact ⟨same_put sm (sm.free htp), _, _, _, rfl⟩
        | below n =>
          obtain ⟨b1, rfl, hb1⟩ := dp_2i hu1
          refine ⟨_, rfl, b1, _, _, _, rfl, rfl, hb1, at0, ?_⟩
          refine ⟨_, rfl, rfl, _, rfl, ifn (by decide +kernel) ?_⟩
          refine ⟨_, rfl, rfl, _, rfl, ifn (by decide +kernel) ?_⟩
          refine ⟨_, rfl, rfl, _, rfl, ifp (by decide +kernel) ?_⟩
          refine ⟨_, rfl, _, rfl, b1, _, _, _, rfl, rfl, hb1, at1, _, _, rfl, rfl, ?_⟩
          refine ⟨_, rfl, by show 2 ≤ sizeLine; decide, fun tp htp => ⟨tp, _, rfl, .inr (SqT.of upd_same), rfl, rfl, _, rfl, ifn (by decide +kernel) ?_⟩⟩
          exact ⟨same_put sm (sm.free htp), _, _, _, rfl⟩
        | rest m r =>
          obtain ⟨h1, h2, h3, h4⟩ := ok1
          obtain ⟨b1, rfl, hb1⟩ := dp_3i hu1
          refine ⟨_, rfl, b1, _, _, _, rfl, rfl, hb1, at0, ?_⟩
          refine ⟨_, rfl, rfl, _, rfl, ifn (by decide +kernel) ?_⟩
          refine ⟨_, rfl, rfl, _, rfl, ifn (by decide +kernel) ?_⟩
          refine ⟨_, rfl, rfl, _, rfl, ifn (by decide +kernel) ?_⟩
          refine ⟨_, rfl, by show 2 ≤ sizeLine; decide, fun tp htp => ⟨tp, _, rfl, .inr (SqT.of upd_same), rfl, rfl, _, rfl, ifp (by decide +kernel) ?_⟩⟩
          have hb2 := KT.new (K := K) (o := .tup [.str "rest", .str "chance"]) htp _ _ hb1
          refine ⟨_, rfl, rfl, _, rfl, ifp (by decide +kernel) ?_⟩
          refine ⟨_, rfl, ?_⟩
          refine ⟨_, rfl, _, rfl, _, rfl, b1, _, _, _, rfl, rfl, hb2, at1, _, _, rfl, rfl, ⟨by omega, by omega⟩, _, rfl, b1, _, _, _, rfl, rfl, hb2, at1, _, _, rfl, rfl, .inr ⟨by omega, by omega⟩, _, _, rfl, rfl, ?_⟩
          refine ⟨_, rfl, b1, _, _, _, rfl, rfl, hb2, at2, rfl, ?_⟩
          refine ⟨same_put sm (sm.free htp), ?_⟩
          have e : decide (V.int (q - q / m * m) = V.int r) = Tst.holds q z (.rest m r) := by
            rw [dI]
            show _ = decide (q % m = r)
            rw [Int.emod_def, Int.mul_comm m]
          rw [← e]
          exact ⟨_, _, _, rfl⟩
        | chance m r =>
          obtain ⟨h1, h2, h3, h4⟩ := ok1
          obtain ⟨b1, rfl, hb1⟩ := dp_3i hu1
          refine ⟨_, rfl, b1, _, _, _, rfl, rfl, hb1, at0, ?_⟩
          refine ⟨_, rfl, rfl, _, rfl, ifn (by decide +kernel) ?_⟩
          refine ⟨_, rfl, rfl, _, rfl, ifn (by decide +kernel) ?_⟩
          refine ⟨_, rfl, rfl, _, rfl, ifn (by decide +kernel) ?_⟩
          refine ⟨_, rfl, by show 2 ≤ sizeLine; decide, fun tp htp => ⟨tp, _, rfl, .inr (SqT.of upd_same), rfl, rfl, _, rfl, ifp (by decide +kernel) ?_⟩⟩
          have hb2 := KT.new (K := K) (o := .tup [.str "rest", .str "chance"]) htp _ _ hb1
          refine ⟨_, rfl, rfl, _, rfl, ifn (by decide +kernel) ?_⟩
          refine ⟨_, rfl, _, _, rfl, rfl, .inl (by decide), _, rfl, _, _, rfl, rfl, .inl (by decide), _, _, rfl, rfl, ?_⟩
          refine ⟨_, rfl, _, rfl, _, rfl, b1, _, _, _, rfl, rfl, hb2, at1, _, _, rfl, rfl, ⟨by omega, by omega⟩, _, rfl, b1, _, _, _, rfl, rfl, hb2, at1, _, _, rfl, rfl, .inr ⟨by omega, by omega⟩, _, _, rfl, rfl, ?_⟩
          refine ⟨_, rfl, b1, _, _, _, rfl, rfl, hb2, at2, rfl, ?_⟩
          refine ⟨same_put sm (sm.free htp), ?_⟩
          have e : decide (V.int ((7 * q + 13 * z) - (7 * q + 13 * z) / m * m) = V.int r) = Tst.holds q z (.chance m r) := by
            rw [dI]
            show _ = decide ((7 * q + 13 * z) % m = r)
            rw [Int.emod_def, Int.mul_comm m]
          rw [← e]
          exact ⟨_, _, _, rfl⟩
        | known ks =>
          obtain ⟨b1, u2, rfl, hb1, hu2⟩ := dp_2 hu1
          obtain ⟨b2, xs, rfl, hb2, hx⟩ := dp_tup hu2
          have e := dps_ints hx
          subst e
          refine ⟨_, rfl, b1, _, _, _, rfl, rfl, hb1, at0, ?_⟩
          refine ⟨_, rfl, rfl, _, rfl, ifn (by decide +kernel) ?_⟩
          refine ⟨_, rfl, rfl, _, rfl, ifp (by decide +kernel) ?_⟩
          refine ⟨_, rfl, _, rfl, b1, _, _, _, rfl, rfl, hb1, at1, b2, _, rfl, .inr hb2, rfl, flat_ints, ?_⟩
          refine ⟨_, rfl, rfl, _, rfl, ifn (by decide +kernel) ?_⟩
          refine ⟨_, rfl, by show 2 ≤ sizeLine; decide, fun tp htp => ⟨tp, _, rfl, .inr (SqT.of upd_same), rfl, rfl, _, rfl, ifn (by decide +kernel) ?_⟩⟩
          refine ⟨same_put sm (sm.free htp), ?_⟩
          have e : (if false = true then !inV (.int q) (ks.map V.int) else inV (.int q) (ks.map V.int)) = Tst.holds q z (.known ks) := by
            rw [if_neg Bool.false_ne_true, inV_ints]
            rfl
          rw [← e]
          exact ⟨_, _, _, rfl⟩
      · rintro σ2 H2 ⟨sm2, x5', x7', x8', rfl⟩
        clear hw tb hu1
        have hy2 := dp_keep (KT.same (K := K) sm2) _ _ a.td hy
        refine ⟨_, rfl, _, rfl, ite2 (fun e => ?_) (fun e => ?_)⟩
        · have et2 : tell q z m = a.out q := by
            rw [et]
            show (if t.holds q z = true then a.out q else _) = _
            rw [if_pos e]
          rw [et2] at k
          have cases3 : (∃ c x, y = .ref c ∧ (∃ r, SqT K H2 c (.str "num" :: r) ∧ atI (V.str "num" :: r) (-1) = some x) ∧ oV (a.out q) = x) ∨ (∃ c, y = .ref c ∧ SqT K H2 c [.str "none"] ∧ oV (a.out q) = .non) ∨
              ∃ c wd n, y = .ref c ∧ SqT K H2 c [.str wd, .int n] ∧ -9999 ≤ n ∧ n ≤ 9999 ∧ ((wd = "plus" ∧ oV (a.out q) = .int (q + n)) ∨ (wd = "times" ∧ oV (a.out q) = .int (q * n)) ∨ (wd = "rest" ∧ oV (a.out q) = .int (q - q / (if n > 1 then n else 1) * n))) := by
            cases a with
            | num n =>
              obtain ⟨c, rfl, hc⟩ := dp_2i hy2
              exact .inl ⟨c, .int n, rfl, ⟨_, hc, at_neg1⟩, rfl⟩
            | plus n =>
              obtain ⟨c, rfl, hc⟩ := dp_2i hy2
              exact .inr (.inr ⟨c, _, n, rfl, hc, ok2.1, ok2.2, .inl ⟨rfl, rfl⟩⟩)
            | times n =>
              obtain ⟨c, rfl, hc⟩ := dp_2i hy2
              exact .inr (.inr ⟨c, _, n, rfl, hc, ok2.1, ok2.2, .inr (.inl ⟨rfl, rfl⟩)⟩)
            | rest n =>
              obtain ⟨c, rfl, hc⟩ := dp_2i hy2
              have h2 := ok2.1
              have h3 := ok2.2
              refine .inr (.inr ⟨c, _, n, rfl, hc, by omega, by omega, .inr (.inr ⟨rfl, ?_⟩)⟩)
              rw [if_pos (by omega)]
              show V.int (q % n) = _
              rw [Int.emod_def, Int.mul_comm n]
            | non =>
              obtain ⟨c, rfl, hc⟩ := dp_1 hy2
              exact .inr (.inl ⟨c, rfl, hc, rfl⟩)
          clear hy2 hy et et2
          rcases cases3 with ⟨c, x, rfl, ⟨r, hc, hx⟩, ev⟩ | ⟨c, rfl, hc, ev⟩ | ⟨c, wd, n, rfl, hc, n0, n1, ev⟩
          · rw [ev] at k
            refine fun p2 hp2 => ⟨_, rfl, _, rfl, c, _, _, _, rfl, rfl, KT.new hp2 _ _ hc, hx, upd_same, [(kNum, x), (kNone, .non)], rfl, by show 2 ≤ 15; decide, ?_⟩
            have s3 : Same H2 (upd (upd H2 p2 (.dK [])) p2 (.dK (toldD x))) := same_put (same_put (Same.refl H2) hp2) hp2
            have hd : upd (upd H2 p2 (.dK [])) p2 (.dK (toldD x)) p2 = some (.dK (toldD x)) := upd_same
            have hc3 := KT.same (K := K) s3 _ _ hc
            have ex : valV (toldD x) kNum = some x := by rw [toldD_at, if_neg (by decide +kernel), if_pos rfl]
            have gd : DGet (upd (upd H2 p2 (.dK [])) p2 (.dK (toldD x))) p2 (.str "num") (some x) := by
              have g := DGet.k (k := kNum) hd
              rwa [ex] at g
            refine ⟨_, rfl, c, _, _, _, rfl, rfl, hc3, at0, _, rfl, p2, _, rfl, gd, _, rfl, ?_⟩
            refine ifn (by simp) ?_
            exact ⟨_, rfl, _, rfl, c, _, _, _, rfl, rfl, hc3, at0, p2, x, rfl, gd, k _ (sm2.trans s3)⟩
          · rw [ev] at k
            refine fun p2 hp2 => ⟨_, rfl, _, rfl, c, _, _, _, rfl, rfl, KT.new hp2 _ _ hc, at_neg1', upd_same, [(kNum, .str "none"), (kNone, .non)], rfl, by show 2 ≤ 15; decide, ?_⟩
            have s3 : Same H2 (upd (upd H2 p2 (.dK [])) p2 (.dK (toldD (.str "none")))) := same_put (same_put (Same.refl H2) hp2) hp2
            have hd : upd (upd H2 p2 (.dK [])) p2 (.dK (toldD (.str "none"))) p2 = some (.dK (toldD (.str "none"))) := upd_same
            have hc3 := KT.same (K := K) s3 _ _ hc
            have ex : valV (toldD (.str "none")) kNone = some .non := by rw [toldD_at, if_pos rfl]
            have gd : DGet (upd (upd H2 p2 (.dK [])) p2 (.dK (toldD (.str "none")))) p2 (.str "none") (some .non) := by
              have g := DGet.k (k := kNone) hd
              rwa [ex] at g
            refine ⟨_, rfl, c, _, _, _, rfl, rfl, hc3, at0, _, rfl, p2, _, rfl, gd, _, rfl, ?_⟩
            refine ifn (by simp) ?_
            exact ⟨_, rfl, _, rfl, c, _, _, _, rfl, rfl, hc3, at0, p2, .non, rfl, gd, k _ (sm2.trans s3)⟩
          · refine fun p2 hp2 => ⟨_, rfl, _, rfl, c, _, _, _, rfl, rfl, KT.new hp2 _ _ hc, at_neg1, upd_same, [(kNum, .int n), (kNone, .non)], rfl, by show 2 ≤ 15; decide, ?_⟩
            have s3 : Same H2 (upd (upd H2 p2 (.dK [])) p2 (.dK (toldD (.int n)))) := same_put (same_put (Same.refl H2) hp2) hp2
            have hd : upd (upd H2 p2 (.dK [])) p2 (.dK (toldD (.int n))) p2 = some (.dK (toldD (.int n))) := upd_same
            have hc3 := KT.same (K := K) s3 _ _ hc
            have ex : valV (toldD (.int n)) (Sum.inr wd) = none := by
              rw [toldD_at]
              rcases ev with ⟨rfl, _⟩ | ⟨rfl, _⟩ | ⟨rfl, _⟩
              · rw [if_neg (by decide +kernel), if_neg (by decide +kernel)]
              · rw [if_neg (by decide +kernel), if_neg (by decide +kernel)]
              · rw [if_neg (by decide +kernel), if_neg (by decide +kernel)]
            have gd : DGet (upd (upd H2 p2 (.dK [])) p2 (.dK (toldD (.int n)))) p2 (.str wd) none := by
              have g := DGet.k (k := Sum.inr wd) hd
              rwa [ex] at g
            refine ⟨_, rfl, c, _, _, _, rfl, rfl, hc3, at0, _, rfl, p2, _, rfl, gd, _, rfl, ?_⟩
            refine ifp rfl ?_
            have L0 := toldD_len (.int n)
            have L1 := putK_len (toldD (.int n)) kPlus (.int (q + n))
            have L2 := putK_len (putK (toldD (.int n)) kPlus (.int (q + n))) kTimes (.int (q * n))
            have hL : sizeLine = 16777216 := sizeLine_eq
            have B1 : (putK (toldD (.int n)) kPlus (.int (q + n))).length < sizeLine := by omega
            have B2 : (putK (putK (toldD (.int n)) kPlus (.int (q + n))) kTimes (.int (q * n))).length < sizeLine := by omega
            refine ⟨_, rfl, _, rfl, c, _, _, _, rfl, rfl, hc3, at1, _, _, rfl, rfl, _, rfl, p2, _, rfl, DPut.k (k := kPlus) hd (by omega), ?_⟩
            have s4 := same_put (Same.trans (Same.refl H2) s3) (o := .dK (putK (toldD (.int n)) kPlus (.int (q + n)))) hp2
            have hc4 := KT.same (K := K) s4 _ _ hc
            refine ⟨_, rfl, _, rfl, c, _, _, _, rfl, rfl, hc4, at1, _, _, rfl, rfl, .inr ⟨by omega, by omega⟩, _, rfl, p2, _, rfl, DPut.k (k := kTimes) upd_same B1, ?_⟩
            have s5 := same_put s4 (o := .dK (putK (putK (toldD (.int n)) kPlus (.int (q + n))) kTimes (.int (q * n)))) hp2
            have hc5 := KT.same (K := K) s5 _ _ hc
            refine ⟨_, rfl, _, rfl, _, rfl, c, _, _, _, rfl, rfl, hc5, at1, _, _, rfl, _, _, rfl, rfl, ⟨by split <;> omega, by split <;> omega⟩, _, rfl, c, _, _, _, rfl, rfl, hc5, at1, _, _, rfl, rfl, .inr ⟨by omega, by omega⟩, _, _, rfl, rfl, _, rfl, p2, _, rfl,
              DPut.k (k := kRest) upd_same B2, ?_⟩
            have s6 := same_put s5 (o := .dK (putK (putK (putK (toldD (.int n)) kPlus (.int (q + n))) kTimes (.int (q * n))) kRest (.int (q - q / (if n > 1 then n else 1) * n)))) hp2
            have hc6 := KT.same (K := K) s6 _ _ hc
            have ex6 : valV (putK (putK (putK (toldD (.int n)) kPlus (.int (q + n))) kTimes (.int (q * n))) kRest (.int (q - q / (if n > 1 then n else 1) * n))) (Sum.inr wd) = some (oV (a.out q)) := by
              rw [valV_put, valV_put, valV_put]
              rcases ev with ⟨rfl, ev⟩ | ⟨rfl, ev⟩ | ⟨rfl, ev⟩
              · rw [if_neg (by decide +kernel), if_neg (by decide +kernel), if_pos rfl, ev]
              · rw [if_neg (by decide +kernel), if_pos rfl, ev]
              · rw [if_pos rfl, ev]
            have g : ∀ H9 : Hp, DGet (upd H9 p2 (.dK (putK (putK (putK (toldD (.int n)) kPlus (.int (q + n))) kTimes (.int (q * n))) kRest (.int (q - q / (if n > 1 then n else 1) * n))))) p2 (.str wd) (some (oV (a.out q))) := fun H9 => by
              have g0 := DGet.k (k := Sum.inr wd) (upd_same (H := H9) (a := p2) (o := .dK (putK (putK (putK (toldD (.int n)) kPlus (.int (q + n))) kTimes (.int (q * n))) kRest (.int (q - q / (if n > 1 then n else 1) * n)))))
              rwa [ex6] at g0
            exact ⟨_, rfl, _, rfl, c, _, _, _, rfl, rfl, hc6, at0, p2, _, rfl, g _, k _ (sm2.trans s6)⟩
        · refine ⟨sm2, ⟨_, _, _, _, _, _, rfl⟩, ?_⟩
          rw [et]
          show (if t.holds q z = true then a.out q else _) = _
          rw [if_neg e]
    · rintro σ H1 ⟨sm, _, et⟩
      have hl : vs.length = m.length := by
        have e := dps_len ha
        rwa [List.length_map] at e
      rw [hl, List.drop_length] at et
      have e := k H1 sm
      rw [et] at e
      exact e
end
end Mh
namespace Mh
open PySem L2
def spAlike (K : PySem.W.Frag) (n : Nat) : Sp := fun vs H Q _ => ∃ (x y : V) (dd : PyData), vs = [x, y] ∧ Dp K H x dd ∧ Dp K H y dd ∧ deep n dd = true ∧ ∀ H', Same H H' → Q (.bl true) H'
section
variable {P : Program} {w : World} {K : PySem.W.Frag} {mg : Str → Option Value} {base : Heap} {A : Adr}
theorem ok_alike (T : Txt K mg A) : ∀ n, FnOk P w K mg base CX0 (n + 1) A.alike A.alike_ ["_law_found", "_law_due"] (spAlike K n) := by
  intro n
  induction n with
  | zero =>
    refine T.alike.F.ok sc_alike (fun vs H Q E h => ?_) (fun cdv Ar outer s H vs Q E hr h => ?_)
    · obtain ⟨x, y, dd, rfl, _⟩ := h
      rfl
    · obtain ⟨x, y, dd, rfl, hx, hy, dp, k⟩ := h
      have k0 := k H (Same.refl H)
      refine ⟨_, (pss_cons (ps_if (pt_cmpR op_isN (pv 1) pe_non (nomark _)) (pss_one (ps_ret (pe_cmpR op_isN (pv 0) pe_non (nomark _)))) pss_nil)
        (pss_cons (ps_if (pt_val (pe_callB call_isi (by rfl) T.n_isinstance PyProof.Rows.boot_isinstance (pa_cons (pv 1) (pa_cons (pe_bltn (v := .ty "bool") (by rfl) T.n_bool (by decide +kernel) rfl) pa_nil))))
          (pss_one (ps_ret (pe_and (pe_callB call_isi (by rfl) T.n_isinstance PyProof.Rows.boot_isinstance (pa_cons (pv 0) (pa_cons (pe_bltn (v := .ty "bool") (by rfl) T.n_bool (by decide +kernel) rfl) pa_nil))) (pe_one (pe_cmpR op_eq (pv 0) (pv 1) (nomark _)))))) pss_nil)
        (pss_cons (ps_if (pt_val (pe_callB call_isi (by rfl) T.n_isinstance PyProof.Rows.boot_isinstance (pa_cons (pv 1) (pa_cons (pe_bltn (v := .ty "int") (by rfl) T.n_int (by decide +kernel) rfl) pa_nil))))
          (pss_one (ps_ret (pe_and (pe_callB call_isi (by rfl) T.n_isinstance PyProof.Rows.boot_isinstance (pa_cons (pv 0) (pa_cons (pe_bltn (v := .ty "int") (by rfl) T.n_int (by decide +kernel) rfl) pa_nil)))
            (pe_and (pe_not (pe_callB call_isi (by rfl) T.n_isinstance PyProof.Rows.boot_isinstance (pa_cons (pv 0) (pa_cons (pe_bltn (v := .ty "bool") (by rfl) T.n_bool (by decide +kernel) rfl) pa_nil)))) (pe_one (pe_cmpR op_eq (pv 0) (pv 1) (nomark _))))))) pss_nil)
        (pss_cons (ps_if (pt_val (pe_callB call_isi (by rfl) T.n_isinstance PyProof.Rows.boot_isinstance (pa_cons (pv 1) (pa_cons (pe_bltn (v := .ty "str") (by rfl) T.n_str (by decide +kernel) rfl) pa_nil))))
          (pss_one (ps_ret (pe_and (pe_callB call_isi (by rfl) T.n_isinstance PyProof.Rows.boot_isinstance (pa_cons (pv 0) (pa_cons (pe_bltn (v := .ty "str") (by rfl) T.n_str (by decide +kernel) rfl) pa_nil))) (pe_one (pe_cmpR op_eq (pv 0) (pv 1) (nomark _)))))) pss_nil)
        pss_never)))), ?_⟩
      cases hx with
      | non =>
        cases hy
        refine ⟨_, rfl, rfl, _, rfl, ifp rfl ?_⟩
        exact ⟨_, rfl, rfl, k0⟩
      | bl b =>
        cases hy
        refine ⟨_, rfl, rfl, _, rfl, ifn (by simp) ?_⟩
        refine ⟨_, rfl, _, _, .type "bool", _, true, rfl, .ty _, .base (.bl b), kit_ty (by decide +kernel), _, rfl, ?_⟩
        refine iteT ?_
        refine ⟨_, rfl, _, _, .type "bool", _, true, rfl, .ty _, .base (.bl b), kit_ty (by decide +kernel), _, rfl, ?_⟩
        refine iteT ?_
        refine ⟨_, rfl, _, rfl, rfl, ?_⟩
        show Q (.bl (decide (V.bl b = V.bl b))) H
        rw [decide_eq_true rfl]
        exact k0
      | int i =>
        cases hy
        refine ⟨_, rfl, rfl, _, rfl, ifn (by simp) ?_⟩
        refine ⟨_, rfl, _, _, .type "int", _, false, rfl, .ty _, .base (.int i), kit_ty (by decide +kernel), _, rfl, ?_⟩
        refine iteF ?_
        refine ⟨_, rfl, _, _, .type "int", _, true, rfl, .ty _, .base (.int i), kit_ty (by decide +kernel), _, rfl, ?_⟩
        refine iteT ?_
        refine ⟨_, rfl, _, _, .type "int", _, true, rfl, .ty _, .base (.int i), kit_ty (by decide +kernel), _, rfl, ?_⟩
        refine iteT ?_
        refine ⟨_, rfl, _, _, .type "int", _, false, rfl, .ty _, .base (.int i), kit_ty (by decide +kernel), _, rfl, _, rfl, ?_⟩
        refine iteT ?_
        refine ⟨_, rfl, _, rfl, rfl, ?_⟩
        show Q (.bl (decide (V.int i = V.int i))) H
        rw [decide_eq_true rfl]
        exact k0
      | str x =>
        cases hy
        refine ⟨_, rfl, rfl, _, rfl, ifn (by simp) ?_⟩
        refine ⟨_, rfl, _, _, .type "str", _, false, rfl, .ty _, .base (.str x), kit_ty (by decide +kernel), _, rfl, ?_⟩
        refine iteF ?_
        refine ⟨_, rfl, _, _, .type "str", _, false, rfl, .ty _, .base (.str x), kit_ty (by decide +kernel), _, rfl, ?_⟩
        refine iteF ?_
        refine ⟨_, rfl, _, _, .type "str", _, true, rfl, .ty _, .base (.str x), kit_ty (by decide +kernel), _, rfl, ?_⟩
        refine iteT ?_
        refine ⟨_, rfl, _, _, .type "str", _, true, rfl, .ty _, .base (.str x), kit_ty (by decide +kernel), _, rfl, ?_⟩
        refine iteT ?_
        refine ⟨_, rfl, _, rfl, rfl, ?_⟩
        show Q (.bl (decide (V.str x = V.str x))) H
        rw [decide_eq_true rfl]
        exact k0
      | lst hs ha => simp [deep] at dp
      | tup hs ha => simp [deep] at dp
  | succ n IH =>
    refine T.alike.F.ok sc_alike (fun vs H Q E h => ?_) (fun cdv Ar outer s H vs Q E hr h => ?_)
    · obtain ⟨x, y, dd, rfl, _⟩ := h
      rfl
    · obtain ⟨x, y, dd, rfl, hx, hy, dp, k⟩ := h
      have k0 := k H (Same.refl H)
      refine ⟨_, (pss_cons (ps_if (pt_cmpR op_isN (pv 1) pe_non (nomark _))
    (pss_one (ps_ret (pe_cmpR op_isN (pv 0) pe_non (nomark _))))
    pss_nil)
    (pss_cons (ps_if (pt_val (pe_callB call_isi (by rfl) T.n_isinstance PyProof.Rows.boot_isinstance (pa_cons (pv 1) (pa_cons (pe_bltn (v := .ty "bool") (by rfl) T.n_bool (by decide +kernel) rfl) pa_nil))))
    (pss_one (ps_ret (pe_and (pe_callB call_isi (by rfl) T.n_isinstance PyProof.Rows.boot_isinstance (pa_cons (pv 0) (pa_cons (pe_bltn (v := .ty "bool") (by rfl) T.n_bool (by decide +kernel) rfl) pa_nil))) (pe_one (pe_cmpR op_eq (pv 0) (pv 1) (nomark _))))))
    pss_nil)
    (pss_cons (ps_if (pt_val (pe_callB call_isi (by rfl) T.n_isinstance PyProof.Rows.boot_isinstance (pa_cons (pv 1) (pa_cons (pe_bltn (v := .ty "int") (by rfl) T.n_int (by decide +kernel) rfl) pa_nil))))
    (pss_one (ps_ret (pe_and (pe_callB call_isi (by rfl) T.n_isinstance PyProof.Rows.boot_isinstance (pa_cons (pv 0) (pa_cons (pe_bltn (v := .ty "int") (by rfl) T.n_int (by decide +kernel) rfl) pa_nil))) (pe_and (pe_not (pe_callB call_isi (by rfl) T.n_isinstance PyProof.Rows.boot_isinstance (pa_cons (pv 0) (pa_cons (pe_bltn (v := .ty "bool") (by rfl) T.n_bool (by decide +kernel) rfl) pa_nil)))) (pe_one (pe_cmpR op_eq (pv 0) (pv 1) (nomark _)))))))
    pss_nil)
    (pss_cons (ps_if (pt_val (pe_callB call_isi (by rfl) T.n_isinstance PyProof.Rows.boot_isinstance (pa_cons (pv 1) (pa_cons (pe_bltn (v := .ty "str") (by rfl) T.n_str (by decide +kernel) rfl) pa_nil))))
    (pss_one (ps_ret (pe_and (pe_callB call_isi (by rfl) T.n_isinstance PyProof.Rows.boot_isinstance (pa_cons (pv 0) (pa_cons (pe_bltn (v := .ty "str") (by rfl) T.n_str (by decide +kernel) rfl) pa_nil))) (pe_one (pe_cmpR op_eq (pv 0) (pv 1) (nomark _))))))
    pss_nil)
    (pss_cons (ps_if (PW.pt (pw_or (pt_cmpR op_ne (pe_callB call_isi (by rfl) T.n_isinstance PyProof.Rows.boot_isinstance (pa_cons (pv 1) (pa_cons (pe_bltn (v := .ty "tuple") (by rfl) T.n_tuple PyProof.Rows.boot_tuple rfl) pa_nil))) (pe_callB call_isi (by rfl) T.n_isinstance PyProof.Rows.boot_isinstance (pa_cons (pv 0) (pa_cons (pe_bltn (v := .ty "tuple") (by rfl) T.n_tuple PyProof.Rows.boot_tuple rfl) pa_nil))) (nomark _)) (pw_or1 (pt_cmpR op_ne (pe_callB call_isi (by rfl) T.n_isinstance PyProof.Rows.boot_isinstance (pa_cons (pv 1) (pa_cons (pe_bltn (v := .ty "list") (by rfl) T.n_list (by decide +kernel) rfl) pa_nil))) (pe_callB call_isi (by rfl) T.n_isinstance PyProof.Rows.boot_isinstance (pa_cons (pv 0) (pa_cons (pe_bltn (v := .ty "list") (by rfl) T.n_list (by decide +kernel) rfl) pa_nil))) (nomark _)))))
    (pss_one (ps_ret pe_bl))
    pss_nil)
    (pss_cons (ps_if (pt_cmpR op_ne (pe_callB call_len_seq (by rfl) T.n_len PySem.boot_len (pa_cons (pv 0) pa_nil)) (pe_callB call_len_seq (by rfl) T.n_len PySem.boot_len (pa_cons (pv 1) pa_nil)) (nomark _))
    (pss_one (ps_ret pe_bl))
    pss_nil)
    (pss_one (ps_ret (pe_callB (cr_all rfl) (by rfl) T.n_all PyProof.Rows.boot_all (pa_cons (pe_lc (own := [("_law_k", 2)]) (g := gName 2) (tt := tYes) rfl sc_alike.nd (pi_range1 (by rfl) T.n_range (pa_cons (pe_callB call_len_seq (by rfl) T.n_len PySem.boot_len (pa_cons (pv 1) pa_nil)) pa_nil)) (blkOk_by (N := N_alike) (sc := defScope s_alike) (by decide +kernel)) (fun _ _ _ _ _ => pg_name (i := 2) sc_alike.nd rfl (Or.inl rfl) (hf := Or.inr rfl)) (fun _ _ _ _ _ => pts_nil) (fun _ _ _ _ _ => (pe_call IH (hr.mono (Nat.le_refl _)) (by rfl) T.alike.n T.alike.F.kp T.alike.b .nil pass0 (pa_cons (pe_ix (ixK_seq (K := K) rfl) (pv 0) (pv 2) (fun _ _ => rfl)) (pa_cons (pe_ix (ixK_seq (K := K) rfl) (pv 1) (pv 2) (fun _ _ => rfl)) pa_nil))))) pa_nil)))))))))), ?_⟩
      cases hx with
      | non =>
        cases hy
        refine ⟨_, rfl, rfl, _, rfl, ifp rfl ?_⟩
        exact ⟨_, rfl, rfl, k0⟩
      | bl b =>
        cases hy
        refine ⟨_, rfl, rfl, _, rfl, ifn (by simp) ?_⟩
        refine ⟨_, rfl, _, _, .type "bool", _, true, rfl, .ty _, .base (.bl b), kit_ty (by decide +kernel), _, rfl, ?_⟩
        refine iteT ?_
        refine ⟨_, rfl, _, _, .type "bool", _, true, rfl, .ty _, .base (.bl b), kit_ty (by decide +kernel), _, rfl, ?_⟩
        refine iteT ?_
        refine ⟨_, rfl, _, rfl, rfl, ?_⟩
        show Q (.bl (decide (V.bl b = V.bl b))) H
        rw [decide_eq_true rfl]
        exact k0
      | int i =>
        cases hy
        refine ⟨_, rfl, rfl, _, rfl, ifn (by simp) ?_⟩
        refine ⟨_, rfl, _, _, .type "int", _, false, rfl, .ty _, .base (.int i), kit_ty (by decide +kernel), _, rfl, ?_⟩
        refine iteF ?_
        refine ⟨_, rfl, _, _, .type "int", _, true, rfl, .ty _, .base (.int i), kit_ty (by decide +kernel), _, rfl, ?_⟩
        refine iteT ?_
        refine ⟨_, rfl, _, _, .type "int", _, true, rfl, .ty _, .base (.int i), kit_ty (by decide +kernel), _, rfl, ?_⟩
        refine iteT ?_
        refine ⟨_, rfl, _, _, .type "int", _, false, rfl, .ty _, .base (.int i), kit_ty (by decide +kernel), _, rfl, _, rfl, ?_⟩
        refine iteT ?_
        refine ⟨_, rfl, _, rfl, rfl, ?_⟩
        show Q (.bl (decide (V.int i = V.int i))) H
        rw [decide_eq_true rfl]
        exact k0
      | str x =>
        cases hy
        refine ⟨_, rfl, rfl, _, rfl, ifn (by simp) ?_⟩
        refine ⟨_, rfl, _, _, .type "str", _, false, rfl, .ty _, .base (.str x), kit_ty (by decide +kernel), _, rfl, ?_⟩
        refine iteF ?_
        refine ⟨_, rfl, _, _, .type "str", _, false, rfl, .ty _, .base (.str x), kit_ty (by decide +kernel), _, rfl, ?_⟩
        refine iteF ?_
        refine ⟨_, rfl, _, _, .type "str", _, true, rfl, .ty _, .base (.str x), kit_ty (by decide +kernel), _, rfl, ?_⟩
        refine iteT ?_
        refine ⟨_, rfl, _, _, .type "str", _, true, rfl, .ty _, .base (.str x), kit_ty (by decide +kernel), _, rfl, ?_⟩
        refine iteT ?_
        refine ⟨_, rfl, _, rfl, rfl, ?_⟩
        show Q (.bl (decide (V.str x = V.str x))) H
        rw [decide_eq_true rfl]
        exact k0
      | @lst a xs ds hs ha =>
        cases hy with
        | @lst b ys _ hs2 ha2 =>
          obtain ⟨d1, d2⟩ : ds.length ≤ 1000 ∧ ds.all (deep n) = true := by simpa [deep] using dp
          have l1 := dps_len ha
          have l2 := dps_len ha2
          refine ⟨_, rfl, rfl, _, rfl, ifn (by simp) ?_⟩
          refine ⟨_, rfl, _, _, .type "list", _, false, rfl, .ty _, ty_lst hs2, kit_ty (by decide +kernel), _, rfl, ?_⟩
          refine iteF ?_
          refine ⟨_, rfl, _, _, .type "list", _, false, rfl, .ty _, ty_lst hs2, kit_ty (by decide +kernel), _, rfl, ?_⟩
          refine iteF ?_
          refine ⟨_, rfl, _, _, .type "list", _, false, rfl, .ty _, ty_lst hs2, kit_ty (by decide +kernel), _, rfl, ?_⟩
          refine iteF ?_
          refine ⟨_, rfl, _, _, .type "list", _, false, rfl, .ty _, ty_lst hs2, kit_ty (by decide +kernel), _, rfl, _, _, .type "list", _, false, rfl, .ty _, ty_lst hs, kit_ty (by decide +kernel), rfl, _, rfl, ?_⟩
          refine iteF ?_
          refine ⟨_, rfl, _, _, .type "list", _, true, rfl, .ty _, ty_lst hs2, kit_ty (by decide +kernel), _, rfl, _, _, .type "list", _, true, rfl, .ty _, ty_lst hs, kit_ty (by decide +kernel), rfl, _, rfl, ?_⟩
          refine iteF ?_
          refine ⟨_, rfl, a, _, rfl, .inl hs, _, rfl, b, _, rfl, .inl hs2, rfl, _, rfl, ifn (by rw [l1, l2]; simp) ?_⟩
          refine ⟨_, rfl, b, _, rfl, .inl hs2, _, rfl, by omega, by omega, fun D hD => ?_⟩
          refine lc_range (lo := 0) (n := ((ys.length : Nat) : Int).toNat) (fun i H' => Same H H' ∧ H' D = some (.lst ((List.replicate i true).map V.bl))) ⟨(Bt.new (S := []) hD).same, upd_same⟩ ?_ ?_
          · rintro i H1 hi ⟨sm, hl⟩
            have hi2 : i < ds.length := by omega
            obtain ⟨u1, g1, g2⟩ := dps_at ha (List.getElem?_eq_getElem hi2)
            obtain ⟨u2, g3, g4⟩ := dps_at ha2 (List.getElem?_eq_getElem hi2)
            have e0 : (0 : Int) + (i : Int) = ((i : Nat) : Int) := by omega
            refine ⟨rfl, ?_⟩
            refine yes_ ?_
            refine iteT ?_
            refine ⟨_, rfl, _, rfl, .inl ⟨a, _, _, u1, rfl, rfl, sm.seq hs, by rw [e0]; exact atI_nat g1, ?_⟩⟩
            refine ⟨_, rfl, _, rfl, .inl ⟨b, _, _, u2, rfl, rfl, sm.seq hs2, by rw [e0]; exact atI_nat g3, ?_⟩⟩
            refine ⟨u1, u2, ds[i], rfl, dp_same sm _ _ g2, dp_same sm _ _ g4, List.all_eq_true.mp d2 _ (List.getElem_mem hi2), fun H2 s2 => ?_⟩
            refine ⟨_, s2 _ _ hl, ?_, same_put (sm.trans s2) hD, ?_⟩
            · rw [List.length_map, List.length_replicate, sizeLine_eq]
              omega
            · rw [upd_same, List.replicate_succ', List.map_append]
              rfl
          · rintro H1 ⟨sm, hl⟩
            refine ⟨D, _, rfl, SqL.of hl, ?_⟩
            have e : (List.replicate ((ys.length : Nat) : Int).toNat true).all id = true := by simp
            rw [e]
            exact k _ sm
      | @tup a xs ds hs ha =>
        cases hy with
        | @tup b ys _ hs2 ha2 =>
          obtain ⟨d1, d2⟩ : ds.length ≤ 1000 ∧ ds.all (deep n) = true := by simpa [deep] using dp
          have l1 := dps_len ha
          have l2 := dps_len ha2
          refine ⟨_, rfl, rfl, _, rfl, ifn (by simp) ?_⟩
          refine ⟨_, rfl, _, _, .type "tuple", _, false, rfl, .ty _, ty_tup hs2, kit_ty (by decide +kernel), _, rfl, ?_⟩
          refine iteF ?_
          refine ⟨_, rfl, _, _, .type "tuple", _, false, rfl, .ty _, ty_tup hs2, kit_ty (by decide +kernel), _, rfl, ?_⟩
          refine iteF ?_
          refine ⟨_, rfl, _, _, .type "tuple", _, false, rfl, .ty _, ty_tup hs2, kit_ty (by decide +kernel), _, rfl, ?_⟩
          refine iteF ?_
          refine ⟨_, rfl, _, _, .type "tuple", _, true, rfl, .ty _, ty_tup hs2, kit_ty (by decide +kernel), _, rfl, _, _, .type "tuple", _, true, rfl, .ty _, ty_tup hs, kit_ty (by decide +kernel), rfl, _, rfl, ?_⟩
          refine iteF ?_
          refine ⟨_, rfl, _, _, .type "tuple", _, false, rfl, .ty _, ty_tup hs2, kit_ty (by decide +kernel), _, rfl, _, _, .type "tuple", _, false, rfl, .ty _, ty_tup hs, kit_ty (by decide +kernel), rfl, _, rfl, ?_⟩
          refine iteF ?_
          refine ⟨_, rfl, a, _, rfl, .inr hs, _, rfl, b, _, rfl, .inr hs2, rfl, _, rfl, ifn (by rw [l1, l2]; simp) ?_⟩
          refine ⟨_, rfl, b, _, rfl, .inr hs2, _, rfl, by omega, by omega, fun D hD => ?_⟩
          refine lc_range (lo := 0) (n := ((ys.length : Nat) : Int).toNat) (fun i H' => Same H H' ∧ H' D = some (.lst ((List.replicate i true).map V.bl))) ⟨(Bt.new (S := []) hD).same, upd_same⟩ ?_ ?_
          · rintro i H1 hi ⟨sm, hl⟩
            have hi2 : i < ds.length := by omega
            obtain ⟨u1, g1, g2⟩ := dps_at ha (List.getElem?_eq_getElem hi2)
            obtain ⟨u2, g3, g4⟩ := dps_at ha2 (List.getElem?_eq_getElem hi2)
            have e0 : (0 : Int) + (i : Int) = ((i : Nat) : Int) := by omega
            refine ⟨rfl, ?_⟩
            refine yes_ ?_
            refine iteT ?_
            refine ⟨_, rfl, _, rfl, .inr (.inl ⟨a, _, _, u1, rfl, rfl, KT.same sm _ _ hs, by rw [e0]; exact atI_nat g1, ?_⟩)⟩
            refine ⟨_, rfl, _, rfl, .inr (.inl ⟨b, _, _, u2, rfl, rfl, KT.same sm _ _ hs2, by rw [e0]; exact atI_nat g3, ?_⟩)⟩
            refine ⟨u1, u2, ds[i], rfl, dp_same sm _ _ g2, dp_same sm _ _ g4, List.all_eq_true.mp d2 _ (List.getElem_mem hi2), fun H2 s2 => ?_⟩
            refine ⟨_, s2 _ _ hl, ?_, same_put (sm.trans s2) hD, ?_⟩
            · rw [List.length_map, List.length_replicate, sizeLine_eq]
              omega
            · rw [upd_same, List.replicate_succ', List.map_append]
              rfl
          · rintro H1 ⟨sm, hl⟩
            refine ⟨D, _, rfl, SqL.of hl, ?_⟩
            have e : (List.replicate ((ys.length : Nat) : Int).toNat true).all id = true := by simp
            rw [e]
            exact k _ sm
end
end Mh
namespace Mh
open PySem L2
theorem seqIx {i : Int} {n : Nat} (h0 : 0 ≤ i) (h1 : i < n) : seqIndex? i n = some i.toNat := by
  unfold seqIndex?
  have e : (if i < 0 then i + (n : Int) else i) = i := if_neg (by omega)
  simp only [e]
  rw [if_pos (by simp [h0, h1])]
/-- what may be mixed -/
def Mixable (K : PySem.W.Frag) (H : Hp) (zs : List (V × PyData)) : Prop := ∀ z ∈ zs, Dp K H z.1 z.2 ∧ TD z.2 = true ∧ Sh 20 z.2
theorem Mixable.kt {K : PySem.W.Frag} {H H' : Hp} {zs : List (V × PyData)} (h : Mixable K H zs) (kt : KT K H H') : Mixable K H' zs := fun z hz =>
  ⟨dp_keep kt _ _ (h z hz).2.1 (h z hz).1, (h z hz).2⟩
theorem Mixable.perm {K : PySem.W.Frag} {H : Hp} {zs ys : List (V × PyData)} (h : Mixable K H zs) (p : ys.Perm zs) : Mixable K H ys := fun z hz => h z (p.mem_iff.mp hz)
def spMixed (K : PySem.W.Frag) : Sp := fun vs H Q _ => ∃ (d a : Addr) (zs : List (V × PyData)), vs = [.ref d, .ref a] ∧ DS d H ∧ SqL K H a (zs.map (·.1)) ∧ zs.length ≤ 1000 ∧ Mixable K H zs ∧
  ∀ (p : Addr) (ys : List (V × PyData)) (H' : Hp), H p = none → Bt [d] H H' → DS d H' → H' p = some (.lst (ys.map (·.1))) → ys.Perm zs → Mixable K H' ys → Q (.ref p) H'
section
variable {P : Program} {w : World} {K : PySem.W.Frag} {mg : Str → Option Value} {base : Heap} {A : Adr}
theorem ok_mixed (T : Txt K mg A) : FnOk P w K mg base CX0 2 A.mixed A.mixed_ ["_law_d", "_law_row"] (spMixed K) := by
  refine T.mixed.F.ok sc_mixed (fun vs H Q E h => ?_) (fun cdv Ar outer s H vs Q E hr h => ?_)
  · obtain ⟨d, a, zs, rfl, _⟩ := h
    rfl
  · obtain ⟨d, a, zs, rfl, hd, hs, hz, mx, k⟩ := h
    refine ⟨_, (pss_cons (ps_set (i := 2) sc_mixed.nd rfl (Or.inl rfl) (pe_callTy call_list_of (by rfl) T.n_list (by decide +kernel) (pa_cons (pv 1) pa_nil)))
    (pss_cons (ps_set (i := 3) sc_mixed.nd rfl (Or.inl rfl) (pe_lst pa_nil))
    (pss_cons (ps_while PassesOwn.never (pt_cmpR (op_neD hr.units) (pv 2) (pe_lst pa_nil) (nomark _))
    (pss_one (ps_expr (pe_bm PySem.F.plainAttrs_list PySem.F.slot_list_append PySem.F.type_list_append mt_append (pv 3) (pa_cons (pe_bm PySem.F.plainAttrs_list PySem.F.slot_list_pop PySem.F.type_list_pop mt_popAt (pv 2) (pa_cons (pe_call (ok_off T) (hr.mono (by decide)) (by rfl) T.off.n T.off.F.kp T.off.b .nil pass0 (pa_cons (pv 0) (pa_cons (pe_callB call_len_seq (by rfl) T.n_len PySem.boot_len (pa_cons (pv 2) pa_nil)) pa_nil))) pa_nil)) pa_nil)))))
    (pss_one (ps_ret (pv 3)))))), ?_⟩
    refine ⟨_, rfl, a, _, rfl, .inl hs, fun l hl => ?_⟩
    refine ⟨Nat.zero_le _, fun f hf => ?_⟩
    have ndl := hd.ne hl
    have hd1 := hd.new (o := .lst (zs.map (·.1))) hl
    have ndf := hd1.ne hf
    have nlf : l ≠ f := ne_of_none upd_same hf
    have hf0 : H f = none := (Bt.new (S := []) hl).free (by simp) hf
    refine ⟨fun m σ H' => ∃ zs1 zs2 : List (V × PyData), m = zs1.length ∧ σ = [some (.ref d), some (.ref a), some (.ref l), some (.ref f)] ∧ H' l = some (.lst (zs1.map (·.1))) ∧ H' f = some (.lst (zs2.map (·.1))) ∧ (zs2 ++ zs1).Perm zs ∧ DS d H' ∧ Bt [d] H H' ∧ Mixable K H' (zs2 ++ zs1),
      ⟨_, zs, [], rfl, rfl, (upd_ne nlf).trans upd_same, upd_same, List.Perm.refl _, hd1.new hf, (Bt.new hl).trans (Bt.new hf), mx.kt ((KT.new hl).trans (KT.new hf))⟩, ?_⟩
    rintro m σ H1 ⟨zs1, zs2, rfl, rfl, h1, h2, pm, d1, b1, mx1⟩
    have len2 : zs2.length + zs1.length ≤ 1000 := by
      have e := pm.length_eq
      rw [List.length_append] at e
      omega
    refine ⟨_, rfl, Nat.zero_le _, fun e he => ?_⟩
    have mxe := (mx1.kt (KT.new (o := .lst []) he))
    refine ⟨.list (zs1.map fun z : V × PyData => z.2), .list [], .lst (SqL.of ((upd_ne (ne_of_none h1 he)).trans h1)) (dps_zip fun z hz => (mxe z (List.mem_append_right _ hz)).1), .lst (SqL.of upd_same) .nil,
      (sh_list (n := 20) fun x hx => by
        obtain ⟨z, hz, rfl⟩ := List.mem_map.mp hx
        exact (mx1 z (List.mem_append_right _ hz)).2.2).shaped (by decide), (sh_list (n := 20) (ds := []) (by simp)).shaped (by decide), _, rfl, ?_⟩
    rw [eqv_nil]
    have h1' := (upd_ne (o := .lst []) (ne_of_none h1 he)).trans h1
    have h2' := (upd_ne (o := .lst []) (ne_of_none h2 he)).trans h2
    cases zs1 with
    | nil =>
      refine ifn (by simp) ?_
      have d1e := d1.new (o := .lst []) he
      refine ⟨_, rfl, k f zs2 _ hf0 (b1.trans (Bt.new he)) d1e h2' (by simpa using pm) (by simpa using mxe)⟩
    | cons z0 zr =>
      refine ifp (by simp) ?_
      refine ⟨fun σ H' => ∃ zs1 zs2 : List (V × PyData), zr.length = zs1.length ∧ σ = [some (.ref d), some (.ref a), some (.ref l), some (.ref f)] ∧ H' l = some (.lst (zs1.map (·.1))) ∧ H' f = some (.lst (zs2.map (·.1))) ∧ (zs2 ++ zs1).Perm zs ∧ DS d H' ∧ Bt [d] H H' ∧ Mixable K H' (zs2 ++ zs1),
        fun σ' H' w' => ⟨zr.length, by simp, w'⟩, ?_⟩
      refine ⟨_, rfl, .inl ⟨rfl, _, SqL.of h2'⟩, ?_⟩
      refine ⟨_, rfl, .inl ⟨rfl, _, SqL.of h1'⟩, ?_⟩
      simp only [List.length_cons] at len2
      refine ⟨_, rfl, _, rfl, l, _, rfl, .inl (SqL.of h1'), nil_ (rd_offV rfl (d1.new he) (by show (0 : Int) < (((z0 :: zr).map (·.1)).length : Nat); simp only [List.length_map, List.length_cons]; omega) (by simp only [List.length_map, List.length_cons]; omega) fun r H2 r0 r1 b2 d2 => ?_)⟩
      simp only [List.length_map, List.length_cons] at r1
      have nl : l ∉ [d] := by
        simp only [List.mem_singleton]
        exact ndl.symm
      have nf : f ∉ [d] := by
        simp only [List.mem_singleton]
        exact ndf.symm
      have g1 := b2 _ _ nl h1'
      have g2 := b2 _ _ nf h2'
      have hlt : r.toNat < (z0 :: zr).length := by simp only [List.length_cons]; omega
      refine ⟨l, _, r, r.toNat, ((z0 :: zr)[r.toNat]).1, rfl, rfl, g1, by omega, by omega, ?_, ?_, ?_⟩
      · exact seqIx r0 (by simp only [List.length_map, List.length_cons]; omega)
      · rw [List.getElem?_map, List.getElem?_eq_getElem hlt]
        rfl
      have g2' : upd H2 l (.lst (((z0 :: zr).map (·.1)).eraseIdx r.toNat)) f = some (.lst (zs2.map (·.1))) := (upd_ne nlf.symm).trans g2
      refine ⟨f, _, _, rfl, rfl, g2', by rw [List.length_map, sizeLine_eq]; omega, ?_⟩
      have pm2 : ((zs2 ++ [(z0 :: zr)[r.toNat]]) ++ (z0 :: zr).eraseIdx r.toNat).Perm (zs2 ++ z0 :: zr) := by
        rw [List.append_assoc]
        exact List.Perm.append_left zs2 (perm_erase (List.getElem?_eq_getElem hlt))
      have hl0 : H l = none := hl
      have btAll : Bt [d] H (upd (upd H2 l (.lst (((z0 :: zr).map (·.1)).eraseIdx r.toNat))) f (.lst (zs2.map (·.1) ++ [((z0 :: zr)[r.toNat]).1]))) :=
        (((b1.trans (Bt.new he)).trans b2).put hl0).put hf0
      have kt2 : KT K H2 (upd (upd H2 l (.lst (((z0 :: zr).map (·.1)).eraseIdx r.toNat))) f (.lst (zs2.map (·.1) ++ [((z0 :: zr)[r.toNat]).1]))) :=
        ((Bt.refl.set (S := [l]) (by simp)).kt1 g1).trans ((Bt.refl.set (S := [f]) (by simp)).kt1 g2')
      refine ⟨(z0 :: zr).eraseIdx r.toNat, zs2 ++ [(z0 :: zr)[r.toNat]], ?_, rfl, ?_, ?_, pm2.trans pm, ?_, btAll, ?_⟩
      · rw [List.length_eraseIdx_of_lt hlt]
        simp
      · rw [upd_ne nlf, upd_same, eraseIdx_map]
      · rw [upd_same, List.map_append]
        rfl
      · obtain ⟨ys, q1, q2⟩ := d2
        exact ⟨ys, by rw [upd_ne ndf, upd_ne ndl]; exact q1, q2⟩
      · exact ((mxe.kt ((d1.new he).kt b2)).kt kt2).perm pm2
end
end Mh
namespace Mh
open PySem L2
theorem DS.same {d : Addr} {H H' : Hp} (h : DS d H) (e : Same H H') : DS d H' := by
  obtain ⟨ys, h1, h2⟩ := h
  exact ⟨ys, e _ _ h1, h2⟩
theorem cut_take {xs : List V} {v : Int} (h : 0 ≤ v) : cutV xs none (some v) = xs.take v.toNat := by
  obtain ⟨k, rfl⟩ : ∃ k : Nat, v = (k : Int) := ⟨v.toNat, by omega⟩
  unfold cutV
  rw [HT.sIx_none, HT.sIx_nat, List.drop_zero, Int.toNat_natCast, Nat.sub_zero, List.take_eq_take_iff]
  omega
/-- what stands while a task's rows are drawn -/
def TaskHF (K : PySem.W.Frag) (d l rw : Addr) (nums : List Int) (v : V) (m : Mach) (H H' : Hp) (rs : List Qn) : Prop :=
  DS d H' ∧ Bt [d] H H' ∧ H' l = some (.lst (nums.map V.int)) ∧ Dp K H' v (machDt m) ∧ ∃ vs, H' rw = some (.lst vs) ∧ DpAll K H' vs (rs.map Qn.dt)
theorem TaskHF.step {K : PySem.W.Frag} {d l rw : Addr} {nums : List Int} {v : V} {m : Mach} {H H1 H2 : Hp} {rs : List Qn} (h : TaskHF K d l rw nums v m H H1 rs) (nl : l ∉ [d]) (nr : rw ∉ [d]) (b : Bt [d] H1 H2) (d2 : DS d H2) :
    TaskHF K d l rw nums v m H H2 rs := by
  obtain ⟨h1, h2, h3, h4, vs, h5, h6⟩ := h
  exact ⟨d2, h2.trans b, b _ _ nl h3, dp_keep (h1.kt b) _ _ (mach_td m) h4, vs, b _ _ nr h5, dps_keep (h1.kt b) _ _ (tds_map qn_td rs) h6⟩
section
variable {K : PySem.W.Frag} {σ : St} {H : Hp} {d : Addr} {i j : Nat}
theorem rd_orN {x : V} {n c : Int} {Q : Bool → Hp → Prop} (hj : σ[j]? = some (some x)) (hσ : σ[i]? = some (some (.ref d))) (hd : DS d H) (n0 : 0 < n) (n1 : n < 1073741824)
    (k : ∀ (b : Bool) (H' : Hp), (b = false → x ≠ .non) → Bt [d] H H' → DS d H' → Q b H') :
    tOr (tTest (tOp (fun x y H Q => y = V.non ∧ Q (.bl (decide (x = .non))) H) (tVar j) (tC .non))) (tTest (tOp rEq (tOffE i (tC (.int n))) (tC (.int c)))) σ H Q := by
  refine ⟨_, hj, rfl, _, rfl, ?_⟩
  refine ite2 (fun e => ?_) (fun e => ?_)
  · exact k true H (fun z => by cases z) Bt.refl hd
  · refine rd_off hσ hd n0 n1 fun r H1 r0 r1 b1 d1 => ⟨rfl, _, rfl, ?_⟩
    exact k _ H1 (fun _ z => e (decide_eq_true z)) b1 d1
theorem rd_orE {x : V} {n c c1 : Int} {Q : Bool → Hp → Prop} (hj : σ[j]? = some (some x)) (hx : ∃ y, x = .int y) (hσ : σ[i]? = some (some (.ref d))) (hd : DS d H) (n0 : 0 < n) (n1 : n < 1073741824)
    (k : ∀ (b : Bool) (H' : Hp), Bt [d] H H' → DS d H' → Q b H') :
    tOr (tTest (tOp rEq (tVar j) (tC (.int c1)))) (tTest (tOp rEq (tOffE i (tC (.int n))) (tC (.int c)))) σ H Q := by
  obtain ⟨y, rfl⟩ := hx
  refine ⟨_, hj, rfl, _, rfl, ?_⟩
  refine ite2 (fun e => ?_) (fun e => ?_)
  · exact k true H Bt.refl hd
  · exact rd_off hσ hd n0 n1 fun r H1 r0 r1 b1 d1 => ⟨rfl, _, rfl, k _ H1 b1 d1⟩
end
/-- a task drawn for a machine -/
def spGenTask (K : PySem.W.Frag) : Sp := fun vs H Q _ => ∃ (d : Addr) (v : V) (m : Mach), vs = [.ref d, v] ∧ DS d H ∧ Dp K H v (machDt m) ∧ MachOk m ∧
  ∀ (u : V) (t : Task) (H' : Hp), Bt [d] H H' → DS d H' → Dp K H' u t.dt → t.Ok → Q u H'
def n16 : List (V × PyData) := (List.range 16).map fun i => (V.int (0 + (i : Nat)), PyData.int (0 + (i : Nat)))
def vI : V × PyData → Int := fun z => match z.1 with
  | .int i => i
  | _ => 0
section
variable {P : Program} {w : World} {K : PySem.W.Frag} {mg : Str → Option Value} {base : Heap} {A : Adr}
theorem ok_task (T : Txt K mg A) : FnOk P w K mg base CX0 3 A.task A.task_ ["_law_d", "_law_machine_here"] (spGenTask K) := by
  refine T.task.F.ok sc_task (fun vs H Q E h => ?_) (fun cdv Ar outer s H vs Q E hr h => ?_)
  · obtain ⟨d, v, m, rfl, _⟩ := h
    rfl
  · obtain ⟨d, v, m, rfl, hd, hv, ho, k⟩ := h
    refine ⟨_, (pss_cons (ps_set (i := 2) sc_task.nd rfl (Or.inl rfl) (pe_slice sl_list (pe_call (ok_mixed T) (hr.mono (by decide)) (by rfl) T.mixed.n T.mixed.F.kp T.mixed.b .nil pass0 (pa_cons (pv 0) (pa_cons (pe_listRg rfl (by rfl) T.n_list (prg_1 (by rfl) T.n_range pe_int)) pa_nil))) po_none (po_some (pe_op op_add pe_int (pe_call (ok_off T) (hr.mono (by decide)) (by rfl) T.off.n T.off.F.kp T.off.b .nil pass0 (pa_cons (pv 0) (pa_cons (pe_ix ix_list (pe_lst (pa_cons pe_int (pa_cons pe_int pa_nil))) (pe_call (ok_off T) (hr.mono (by decide)) (by rfl) T.off.n T.off.F.kp T.off.b .nil pass0 (pa_cons (pv 0) (pa_cons pe_int pa_nil))) (fun _ _ => rfl)) pa_nil)))))))
    (pss_cons (ps_set (i := 3) sc_task.nd rfl (Or.inl rfl) (pe_call (ok_off T) (hr.mono (by decide)) (by rfl) T.off.n T.off.F.kp T.off.b .nil pass0 (pa_cons (pv 0) (pa_cons pe_int pa_nil))))
    (pss_cons (ps_set (i := 4) sc_task.nd rfl (Or.inl rfl) (pe_lst pa_nil))
    (pss_cons (ps_for PassesOwn.never rfl (pi_list (pv 2)) (pg_name (i := 5) sc_task.nd rfl (Or.inl rfl))
    (pss_cons (ps_set (i := 6) sc_task.nd rfl (Or.inl rfl) (pe_call (ok_told T) (hr.mono (by decide)) (by rfl) T.told.n T.told.F.kp T.told.b .nil pass0 (pa_cons (pv 1) (pa_cons (pv 5) (pa_cons (pe_call (ok_off T) (hr.mono (by decide)) (by rfl) T.off.n T.off.F.kp T.off.b .nil pass0 (pa_cons (pv 0) (pa_cons pe_int pa_nil))) pa_nil)))))
    (Evl.pss_cut (ps_if (PW.pt (pw_or (pt_cmpR op_isN (pv 6) pe_non (nomark _)) (pw_or1 (pt_cmpR op_eq (pe_call (ok_off T) (hr.mono (by decide)) (by rfl) T.off.n T.off.F.kp T.off.b .nil pass0 (pa_cons (pv 0) (pa_cons pe_int pa_nil))) pe_int (nomark _)))))
    (pss_one (ps_set (i := 6) sc_task.nd rfl (Or.inl rfl) (pe_op op_sub (pe_call (ok_off T) (hr.mono (by decide)) (by rfl) T.off.n T.off.F.kp T.off.b .nil pass0 (pa_cons (pv 0) (pa_cons pe_int pa_nil))) pe_int)))
    pss_nil)
    (pss_cons (ps_set (i := 7) sc_task.nd rfl (Or.inl rfl) pe_non)
    (Evl.pss_cut (ps_if (PW.pt (pw_or (pt_cmpR op_eq (pv 3) pe_int (nomark _)) (pw_or1 (pt_cmpR op_eq (pe_call (ok_off T) (hr.mono (by decide)) (by rfl) T.off.n T.off.F.kp T.off.b .nil pass0 (pa_cons (pv 0) (pa_cons pe_int pa_nil))) pe_int (nomark _)))))
    (pss_cons (ps_set (i := 8) sc_task.nd rfl (Or.inl rfl) (pe_ix ix_list (pe_lst (pa_cons (pv 5) (pa_cons (pe_call (ok_off T) (hr.mono (by decide)) (by rfl) T.off.n T.off.F.kp T.off.b .nil pass0 (pa_cons (pv 0) (pa_cons pe_int pa_nil))) pa_nil))) (pe_call (ok_off T) (hr.mono (by decide)) (by rfl) T.off.n T.off.F.kp T.off.b .nil pass0 (pa_cons (pv 0) (pa_cons pe_int pa_nil))) (fun _ _ => rfl)))
    (pss_one (ps_set (i := 7) sc_task.nd rfl (Or.inl rfl) (pe_tup (pa_cons (pv 8) (pa_cons (pe_ix ix_list (pe_lst (pa_cons (pe_call (ok_off T) (hr.mono (by decide)) (by rfl) T.off.n T.off.F.kp T.off.b .nil pass0 (pa_cons (pv 0) (pa_cons pe_int pa_nil))) (pa_cons (pv 5) pa_nil))) (pe_call (ok_off T) (hr.mono (by decide)) (by rfl) T.off.n T.off.F.kp T.off.b .nil pass0 (pa_cons (pv 0) (pa_cons pe_int pa_nil))) (fun _ _ => rfl)) pa_nil))))))
    pss_nil)
    (pss_one (ps_expr (pe_bm PySem.F.plainAttrs_list PySem.F.slot_list_append PySem.F.type_list_append mt_append (pv 4) (pa_cons (pe_tup (pa_cons (pv 5) (pa_cons (pv 6) (pa_cons (pv 7) pa_nil)))) pa_nil)))))))))
    (pss_one (ps_ret (pe_tup (pa_cons (pe_callTy call_tuple_of (by rfl) T.n_tuple PyProof.Rows.boot_tuple (pa_cons (pv 4) pa_nil)) (pa_cons (pe_op op_add pe_int (pe_call (ok_off T) (hr.mono (by decide)) (by rfl) T.off.n T.off.F.kp T.off.b .nil pass0 (pa_cons (pv 0) (pa_cons pe_int pa_nil)))) pa_nil))))))))), ?_⟩
    refine ⟨_, rfl, 16, rfl, RgOk.of_le (by decide) (by decide) (by decide) (by decide), fun q hq => nil_ ?_⟩
    have eq16 : n16.map (·.1) = rgV 0 16 := by
      unfold n16 rgV
      rw [List.map_map]
      rfl
    have mx16 : Mixable K (upd H q (.lst (rgV 0 16))) n16 := fun z hz => by
      obtain ⟨i, _, rfl⟩ := List.mem_map.mp hz
      exact ⟨.int _, rfl, sh_int _⟩
    refine ⟨d, q, n16, rfl, hd.new hq, SqL.of (by rw [eq16]; exact upd_same), by simp [n16], mx16, fun l0 ys H1 hl0 b1 d1 h1 pm mx1 => ?_⟩
    have nl0 : l0 ∉ [d] := by
      simp only [List.mem_singleton]
      exact ((hd.new (o := .lst (rgV 0 16)) hq).ne hl0).symm
    -- the numbers
    have ev : ∀ z ∈ n16, z.1 = .int (vI z) ∧ 0 ≤ vI z ∧ vI z ≤ 15 := fun z hz => by
      obtain ⟨i, hi, rfl⟩ := List.mem_map.mp hz
      have hi2 := List.mem_range.mp hi
      refine ⟨rfl, ?_, ?_⟩
      · show (0 : Int) ≤ 0 + (i : Nat)
        omega
      · show (0 : Int) + (i : Nat) ≤ 15
        omega
    have en : ys.map (·.1) = (ys.map vI).map V.int := by
      rw [List.map_map]
      exact List.map_congr_left fun z hz => (ev z (pm.mem_iff.mp hz)).1
    have nd : (ys.map vI).Nodup := by
      refine (pm.map vI).nodup_iff.mpr ?_
      have e : n16.map vI = (List.range 16).map fun i : Nat => (0 : Int) + (i : Int) := by
        unfold n16
        rw [List.map_map]
        rfl
      rw [e]
      decide
    have bd : ∀ x ∈ ys.map vI, 0 ≤ x ∧ x ≤ 15 := fun x hx => by
      obtain ⟨z, hz, rfl⟩ := List.mem_map.mp hx
      exact (ev z (pm.mem_iff.mp hz)).2
    have len16 : (ys.map vI).length = 16 := by
      rw [List.length_map, pm.length_eq]
      rfl
    rw [en] at h1
    generalize ys.map vI = ns at h1 nd bd len16
    refine ⟨_, rfl, rd_two (K := K) rfl d1 fun z H2 hz b2 d2 => ?_⟩
    have hz2 : ∃ n, z = .int n ∧ 0 < n ∧ n ≤ 16 := by
      rcases hz with rfl | rfl
      · exact ⟨4, rfl, by decide, by decide⟩
      · exact ⟨16, rfl, by decide, by decide⟩
    obtain ⟨n, en2, n0, n1⟩ := hz2
    refine nil_ (rd_offV en2 d2 n0 (by omega) fun c H3 c0 c1 b3 d3 => ?_)
    refine ⟨_, _, rfl, rfl, _, rfl, l0, _, rfl, SqL.of (b3 _ _ nl0 (b2 _ _ nl0 h1)), fun l hl => ?_⟩
    rw [cut_take (by omega), ← List.map_take]
    have ndl : l ∉ [d] := by
      simp only [List.mem_singleton]
      exact (d3.ne hl).symm
    refine rd_off rfl (d3.new hl) (by decide) (by decide) fun often H4 o0 o1 b4 d4 => ?_
    refine ⟨Nat.zero_le _, fun rw hrw => ?_⟩
    have ndr : rw ∉ [d] := by
      simp only [List.mem_singleton]
      exact (d4.ne hrw).symm
    have h4l := b4 _ _ ndl (upd_same (H := H3) (a := l) (o := .lst ((ns.take (1 + c).toNat).map V.int)))
    have nlr : l ≠ rw := ne_of_none h4l hrw
    have btA : Bt [d] H H4 := ((((Bt.new hq).trans b1).trans b2).trans b3).trans ((Bt.new hl).trans b4)
    have hv4 : Dp K H4 v (machDt m) := dp_keep (hd.kt btA) _ _ (mach_td m) hv
    have hrw0 : H rw = none := btA.free ndr hrw
    have nums0 : ∀ x ∈ ns.take (1 + c).toNat, 0 ≤ x ∧ x ≤ 15 := fun x hx => bd x (List.mem_of_mem_take hx)
    have numsL : (ns.take (1 + c).toNat).length ≤ 16 := by
      rw [List.length_take]
      omega
    have numsL1 : 1 ≤ (ns.take (1 + c).toNat).length := by
      rw [List.length_take]
      omega
    have numsN : (ns.take (1 + c).toNat).Nodup := nd.sublist (List.take_sublist _ _)
    generalize ns.take (1 + c).toNat = nums at h4l nums0 numsL numsL1 numsN
    refine ⟨_, rfl, l, rfl, ⟨_, SqL.of ((upd_ne nlr).trans h4l)⟩, for_list (K := K) (a := l) (xs := nums.map V.int)
      (fun i σ H' => (∃ x5 x6 x7 x8, σ = [some (.ref d), some v, some (.ref l), some (.int often), some (.ref rw), x5, x6, x7, x8]) ∧ ∃ rs : List Qn, TaskHF K d l rw nums v m H H' rs ∧ rs.map Qn.q = nums.take i ∧ ∀ r ∈ rs, r.Ok)
      ⟨⟨_, _, _, _, rfl⟩, [], ⟨d4.new hrw, btA.trans (Bt.new hrw), (upd_ne nlr).trans h4l, dp_keep (KT.new hrw) _ _ (mach_td m) hv4, [], upd_same, .nil⟩, by simp, by simp⟩
      (fun i σ H' _ ⟨_, rs, hf, _⟩ => SqL.of hf.2.2.1) ?_ ?_⟩
    · rintro i xv σ H5 hi ⟨⟨x5, x6, x7, x8, rfl⟩, rs, hf, hq1, hok⟩
      obtain ⟨x, hx, rfl⟩ := int_at hi
      have xb := nums0 x (List.mem_of_getElem? hx)
      refine ⟨_, rfl, _, rfl, rd_off rfl hf.1 (by decide) (by decide) fun sd H6 s0 s1 b6 d6 => nil_ ?_⟩
      have hf6 := hf.step ndl ndr b6 d6
      refine ⟨v, m, x, sd, rfl, hf6.2.2.2.1, ho, fun H7 sm7 => ?_⟩
      have hf7 := hf6.step ndl ndr (Bt.of_same sm7) (d6.same sm7)
      refine ⟨fun σ' H' => TaskHF K d l rw nums v m H H' rs ∧ ∃ due, dueOk due ∧ σ' = [some (.ref d), some v, some (.ref l), some (.int often), some (.ref rw), some (.int x), some (.int due), x7, x8], ?_, ?_⟩
      · refine rd_orN (j := 6) (i := 0) (d := d) rfl rfl hf7.1 (by decide) (by decide) fun b H8 hb b8 d8 => ?_
        have hf8 := hf7.step ndl ndr b8 d8
        refine ite2 (fun e => ?_) (fun e => ?_)
        · refine rd_off rfl d8 (by decide) (by decide) fun y H9 y0 y1 b9 d9 => ?_
          refine ⟨_, _, rfl, rfl, hf8.step ndl ndr b9 d9, y - 2, ⟨by omega, by omega⟩, rfl⟩
        · have hn := hb (by simpa using e)
          cases et : tell x sd m with
          | none =>
            rw [et] at hn
            exact absurd rfl hn
          | some y =>
            exact ⟨hf8, y, tell_bound ho.2.2 xb.1 (by omega) et, rfl⟩
      rintro σ8 H8 ⟨hf8, due, hdue, rfl⟩
      refine ⟨fun σ' H' => TaskHF K d l rw nums v m H H' rs ∧ ∃ (tv : V) (tw : Option (Int × Int)) (y8 : Option V), Dp K H' tv (twinDt tw) ∧ (∀ y e, tw = some (y, e) → 0 ≤ y ∧ y ≤ 9999 ∧ dueOk e) ∧ σ' = [some (.ref d), some v, some (.ref l), some (.int often), some (.ref rw), some (.int x), some (.int due), some tv, y8], ?_, ?_⟩
      · refine rd_orE (j := 3) (i := 0) (d := d) rfl ⟨_, rfl⟩ rfl hf8.1 (by decide) (by decide) fun b H9 b9 d9 => ?_
        have hf9 := hf8.step ndl ndr b9 d9
        refine ite2 (fun e => ?_) (fun e => ?_)
        · refine ⟨_, rfl, rd_off rfl d9 (by decide) (by decide) fun y1 H10 y10 y11 b10 d10 => ?_⟩
          refine ⟨by show 2 ≤ sizeLine; decide, fun l2 hl2 => ?_⟩
          refine rd_off rfl (d10.new hl2) (by decide) (by decide) fun r1 H11 r10 r11 b11 d11 => ?_
          obtain ⟨z1, hz1, hc1⟩ := at_two (x := .int x) (y := .int y1) r10 r11
          have nl2 : l2 ∉ [d] := by
            simp only [List.mem_singleton]
            exact (d10.ne hl2).symm
          refine ⟨l2, _, _, z1, rfl, rfl, SqL.of (b11 _ _ nl2 upd_same), hz1, ?_⟩
          have hz1' : ∃ a, z1 = .int a ∧ 0 ≤ a ∧ a ≤ 9999 := by
            rcases hc1 with rfl | rfl
            · exact ⟨x, rfl, xb.1, by omega⟩
            · exact ⟨y1, rfl, y10, by omega⟩
          obtain ⟨a, rfl, a0, a1⟩ := hz1'
          refine ⟨_, rfl, rd_off rfl d11 (by decide) (by decide) fun y2 H12 y20 y21 b12 d12 => ?_⟩
          refine ⟨_, rfl, by show 2 ≤ sizeLine; decide, fun l3 hl3 => ?_⟩
          refine rd_off rfl (d12.new hl3) (by decide) (by decide) fun r2 H13 r20 r21 b13 d13 => ?_
          obtain ⟨z2, hz2, hc2⟩ := at_two (x := .int y2) (y := .int x) r20 r21
          have nl3 : l3 ∉ [d] := by
            simp only [List.mem_singleton]
            exact (d12.ne hl3).symm
          refine ⟨l3, _, _, z2, rfl, rfl, SqL.of (b13 _ _ nl3 upd_same), hz2, by show 2 ≤ sizeLine; decide, fun p hp => ?_⟩
          have hz2' : ∃ e, z2 = .int e ∧ 0 ≤ e ∧ e ≤ 9999 := by
            rcases hc2 with rfl | rfl
            · exact ⟨y2, rfl, y20, by omega⟩
            · exact ⟨x, rfl, xb.1, by omega⟩
          obtain ⟨e2, rfl, e0, e1⟩ := hz2'
          have bt : Bt [d] H9 (upd H13 p (.tup [.int a, .int e2])) := (((((b10.trans (Bt.new hl2)).trans b11).trans b12).trans (Bt.new hl3)).trans b13).trans (Bt.new hp)
          refine ⟨hf9.step ndl ndr bt (d13.new hp), .ref p, some (a, e2), _, .tup (SqT.of upd_same) (.cons (.int _) (.cons (.int _) .nil)), ?_, rfl⟩
          intro y e h
          have h := Option.some.inj h
          injection h with h1 h2
          subst h1 h2
          exact ⟨a0, a1, ⟨by omega, by omega⟩⟩
        · refine ⟨hf9, .non, none, _, .non, ?_, rfl⟩; intro _ _ h; cases h
      rintro σ9 H9 ⟨hf9, tv, tw, y8, htv, htw, rfl⟩
      obtain ⟨d9, b9, g1, g2, vs9, g3, g4⟩ := id hf9
      refine ⟨_, rfl, .inl ⟨rfl, _, SqL.of g3⟩, _, rfl, _, rfl, _, rfl, by show 3 ≤ sizeLine; decide, fun p hp => ?_⟩
      have npr : rw ≠ p := ne_of_none g3 hp
      have lenr : rs.length ≤ 16 := by
        have e := congrArg List.length hq1
        rw [List.length_map, List.length_take] at e
        omega
      have lenv : vs9.length = rs.length := by
        have e := dps_len g4
        rwa [List.length_map] at e
      refine ⟨rw, vs9, _, rfl, rfl, (upd_ne npr).trans g3, by rw [sizeLine_eq]; omega, ?_⟩
      have hf10 := hf9.step ndl ndr (Bt.new (o := .tup [.int x, .int due, tv]) hp) (d9.new hp)
      obtain ⟨d10, b10, q1, q2, vs10, q3, q4⟩ := hf10
      have evs : vs10 = vs9 := by
        have e := q3.symm.trans ((upd_ne npr).trans g3)
        injection e with e
        injection e
      subst evs
      have kt : KT K (upd H9 p (.tup [.int x, .int due, tv])) (upd (upd H9 p (.tup [.int x, .int due, tv])) rw (.lst (vs10 ++ [.ref p]))) := (Bt.refl.set (S := [rw]) (by simp)).kt1 q3
      refine ⟨⟨_, _, _, _, rfl⟩, rs ++ [⟨x, due, tw⟩], ⟨?_, b10.put hrw0, (upd_ne nlr).trans q1, dp_keep kt _ _ (mach_td m) q2, _, upd_same, ?_⟩, ?_, ?_⟩
      · obtain ⟨ys, e1, e2⟩ := d10
        exact ⟨ys, (upd_ne (fun z => ndr (by rw [z]; simp))).trans e1, e2⟩
      · rw [List.map_append]
        refine dps_snoc (dps_keep kt _ _ (tds_map qn_td rs) q4) ?_
        exact .tup (kt _ _ (SqT.of upd_same)) (.cons (.int _) (.cons (.int _) (.cons (dp_keep ((KT.new hp).trans kt) _ _ (twin_td tw) htv) .nil)))
      · rw [List.map_append, hq1, List.take_add_one, hx]
        rfl
      · intro r hr2
        rcases List.mem_append.mp hr2 with h | h
        · exact hok r h
        · have e2 : r = ⟨x, due, tw⟩ := by simpa using h
          rw [e2]
          exact ⟨xb.1, by show x ≤ 9999; omega, hdue, htw⟩
    · rintro σ H5 ⟨⟨x5, x6, x7, x8, rfl⟩, rs, ⟨d5, b5, g1, g2, vs5, g3, g4⟩, hq1, hok⟩
      rw [List.length_map, List.take_length] at hq1
      refine ⟨_, rfl, rw, vs5, rfl, .inl ⟨SqL.of g3, fun p hp => ?_⟩⟩
      refine rd_off rfl (d5.new hp) (by decide) (by decide) fun wt H6 w0 w1 b6 d6 => ?_
      refine ⟨_, _, rfl, rfl, by show 2 ≤ sizeLine; decide, fun p2 hp2 => ?_⟩
      have lenr : rs.length = nums.length := by
        rw [← hq1, List.length_map]
      have ndp : p ∉ [d] := by
        simp only [List.mem_singleton]
        exact (d5.ne hp).symm
      have t6 := b6 _ _ ndp (upd_same (H := H5) (a := p) (o := .tup vs5))
      have npp : p ≠ p2 := ne_of_none t6 hp2
      have kt6 : KT K (upd H5 p (.tup vs5)) H6 := (d5.new hp).kt b6
      refine k (.ref p2) ⟨rs, 1 + wt⟩ _ (((b5.trans (Bt.new hp)).trans b6).trans (Bt.new hp2)) (d6.new hp2) ?_ ⟨by show 1 ≤ rs.length; omega, by show rs.length ≤ 16; omega, hok, by show (rs.map Qn.q).Nodup; rw [hq1]; exact numsN, by show 1 ≤ 1 + wt; omega, by show 1 + wt ≤ 9; omega⟩
      exact .tup (SqT.of upd_same) (.cons (.tup (SqT.of ((upd_ne npp).trans t6)) (dps_keep (((KT.new hp).trans kt6).trans (KT.new hp2)) _ _ (tds_map qn_td rs) g4)) (.cons (.int _) .nil))
end
end Mh
namespace Mh
open PySem L2
/-- the numbers of the questions among the first n that a machine does -/
def rightN (m : Mach) (s : Int) (qs : List Qn) (n : Nat) : List Int := ((List.range n).filter fun k => (qs[k]?.any (Qn.good m s))).map fun k : Nat => ((k : Nat) : Int)
def rightL (m : Mach) (s : Int) (qs : List Qn) : List Int := rightN m s qs qs.length
/-- law: the numbers of the right ones -/
def spRightL (K : PySem.W.Frag) : Sp := fun vs H Q _ => ∃ (v t : V) (m : Mach) (tk : Task) (s : Int), vs = [v, t, .int s] ∧ Dp K H v (machDt m) ∧ Dp K H t tk.dt ∧ MachOk m ∧ tk.Ok ∧
  ∀ p H', H p = none → Same H H' → H' p = some (.lst ((rightL m s tk.qs).map V.int)) → Q (.ref p) H'
/-- program: the numbers of the right ones, and how many -/
def spRight (K : PySem.W.Frag) : Sp := fun vs H Q _ => ∃ (v t : V) (m : Mach) (tk : Task) (s : Int), vs = [v, t, .int s] ∧ Dp K H v (machDt m) ∧ Dp K H t tk.dt ∧ MachOk m ∧ tk.Ok ∧ 0 ≤ s ∧ s ≤ 999 ∧
  ∀ u H', Same H H' → Dp K H' u (.tuple ((rightL m s tk.qs).map PyData.int)) → Q u H'
def spScore (K : PySem.W.Frag) : Sp := fun vs H Q _ => ∃ (v t : V) (m : Mach) (tk : Task) (s : Int), vs = [v, t, .int s] ∧ Dp K H v (machDt m) ∧ Dp K H t tk.dt ∧ MachOk m ∧ tk.Ok ∧ 0 ≤ s ∧ s ≤ 999 ∧
  ∀ H', Same H H' → Q (.int (rightL m s tk.qs).length) H'
theorem same_none {H H' : Hp} {p : Addr} (s : Same H H') (h : H' p = none) : H p = none := by
  cases e : H p with
  | none => rfl
  | some o => rw [s _ _ e] at h; cases h
theorem rightL_len (m : Mach) (s : Int) (qs : List Qn) : (rightL m s qs).length ≤ qs.length := by
  unfold rightL rightN
  rw [List.length_map]
  have := List.length_filter_le (fun k => (qs[k]?.any (Qn.good m s))) (List.range qs.length)
  rwa [List.length_range] at this
theorem deep_ints {n : Nat} {ns : List Int} (h : ns.length ≤ 1000) : deep (n + 1) (.tuple (ns.map PyData.int)) = true := by
  have e : (ns.map PyData.int).all (deep n) = true := List.all_eq_true.mpr fun d hd => by
    obtain ⟨i, _, rfl⟩ := List.mem_map.mp hd
    cases n <;> rfl
  show (decide ((ns.map PyData.int).length ≤ 1000) && (ns.map PyData.int).all (deep n)) = true
  rw [e, List.length_map, decide_eq_true h]
  rfl
section
variable {P : Program} {w : World} {K : PySem.W.Frag} {mg : Str → Option Value} {base : Heap} {A : Adr}
end
end Mh
namespace Mh
open PySem L2
theorem tIf_two {tT : TT} {ta tb : TE} {σ : St} {H : Hp} {Q : VK} (R : V → Hp → Prop) (rest : ∀ v H', R v H' → Q v H') (h : (∀ v H', R v H' → Q v H') → tIf tT ta tb σ H Q) : tIf tT ta tb σ H Q := h rest
theorem dps_ints_eq {K : PySem.W.Frag} {H : Hp} : ∀ {ns : List Int} {vs : List V}, DpAll K H vs (ns.map PyData.int) → vs = ns.map V.int
  | [], _, h => by cases h; rfl
  | n :: ns, _, h => by
    cases h with
    | cons h1 h2 =>
      cases h1
      rw [dps_ints_eq h2]
      rfl
theorem binom_zero (n : Nat) : binom n 0 = 1 := by cases n <;> rfl
theorem binom_over : ∀ {n k : Nat}, n < k → binom n k = 0
  | _, 0, h => by omega
  | 0, k + 1, _ => rfl
  | n + 1, k + 1, h => by
    show binom n k + binom n (k + 1) = 0
    rw [binom_over (n := n) (k := k) (by omega), binom_over (n := n) (k := k + 1) (by omega)]
theorem binom_le (n : Nat) : ∀ k, binom n k ≤ 2 ^ n := by
  induction n with
  | zero =>
    intro k
    cases k <;> simp [binom]
  | succ n IH =>
    intro k
    cases k with
    | zero =>
      rw [binom_zero]
      exact Nat.one_le_two_pow
    | succ k =>
      show binom n k + binom n (k + 1) ≤ 2 ^ (n + 1)
      have h1 := IH k
      have h2 := IH (k + 1)
      rw [Nat.pow_succ]
      omega
def rowL (n : Nat) : List Int := (List.range (n + 1)).map fun k => ((binom n k : Nat) : Int)
theorem rowL_at {n k : Nat} (h : k ≤ n) : (rowL n)[k]? = some ((binom n k : Nat) : Int) := by
  unfold rowL
  rw [List.getElem?_map, List.getElem?_range (by omega)]
  rfl
theorem rowL_len (n : Nat) : (rowL n).length = n + 1 := by simp [rowL]
theorem rowL_snoc (n j : Nat) (h : j ≤ n) : (rowL n).take (j + 1) = (rowL n).take j ++ [((binom n j : Nat) : Int)] := by
  rw [List.take_add_one, rowL_at h]
  rfl
theorem row_zip {i j : Nat} (h : j ≤ i + 1) : ∃ a b : Int, (V.int 0 :: (rowL i).map V.int)[j]? = some (.int a) ∧ ((rowL i).map V.int ++ [V.int 0])[j]? = some (.int b) ∧ a + b = ((binom (i + 1) j : Nat) : Int) := by
  have hb : ((rowL i).map V.int ++ [V.int 0])[j]? = some (.int ((binom i j : Nat) : Int)) := by
    by_cases e : j ≤ i
    · rw [List.getElem?_append_left (by rw [List.length_map, rowL_len]; omega), List.getElem?_map, rowL_at e]
      rfl
    · have e2 : j = i + 1 := by omega
      subst e2
      rw [List.getElem?_append_right (by rw [List.length_map, rowL_len]; omega), List.length_map, rowL_len, Nat.sub_self, binom_over (by omega)]
      rfl
  cases j with
  | zero =>
    refine ⟨0, _, rfl, hb, ?_⟩
    rw [binom_zero, binom_zero]
    rfl
  | succ j =>
    refine ⟨((binom i j : Nat) : Int), _, ?_, hb, ?_⟩
    · rw [List.getElem?_cons_succ, List.getElem?_map, rowL_at (by omega)]
      rfl
    · show _ = ((binom i j + binom i (j + 1) : Nat) : Int)
      omega
/-! what a machine knows by heart -/
def Qn.twinGood (m : Mach) (s : Int) (r : Qn) : Bool := match r.twin with
  | some (y, e) => decide (tell y s m = some e)
  | none => false
def twinned (qs : List Qn) : List Qn := qs.filter fun r => r.twin.isSome
def hereN (m : Mach) (s : Int) (qs : List Qn) : Nat := ((twinned qs).filter (Qn.good m s)).length
def thereN (m : Mach) (s : Int) (qs : List Qn) : Nat := ((twinned qs).filter (Qn.twinGood m s)).length
/-- the ways for k right ones on questions, a + b in all, n questions -/
def wayK (n a b k : Nat) : Nat := if k ≤ a + b ∧ a + b - k ≤ n then binom n k * binom n (a + b - k) else 0
def waysI (n a b i : Nat) : Nat := ((List.range i).map fun j => wayK n a b (a + j)).sum
def waysN (n a b : Nat) : Nat := waysI n a b (n + 1 - a)
def heartDt (m : Mach) (s : Int) (qs : List Qn) : PyData :=
  let n := (twinned qs).length
  let a := hereN m s qs
  let b := thereN m s qs
  .tuple [.int n, .int a, .int b, .int (waysN n a b : Nat), .int (binom (2 * n) (a + b) : Nat)]
/-- what a machine tells, as data -/
def oDt : Option Int → PyData
  | none => .none
  | some i => .int i
theorem dp_oV {K : PySem.W.Frag} {H : Hp} (o : Option Int) : Dp K H (oV o) (oDt o) := by
  cases o with
  | none => exact .non
  | some i => exact .int i
theorem deep_oDt {n : Nat} (o : Option Int) : deep n (oDt o) = true := by cases o <;> cases n <;> rfl
theorem sh_oDt {n : Nat} (o : Option Int) : Sh n (oDt o) := by
  cases o with
  | none => exact sh_non
  | some i => exact sh_int i
theorem sh_ints {n : Nat} (ns : List Int) : Sh (n + 1) (.tuple (ns.map PyData.int)) := sh_tuple fun d hd => by
  obtain ⟨i, _, rfl⟩ := List.mem_map.mp hd
  exact sh_int i
theorem sh_heart {n : Nat} (m : Mach) (s : Int) (qs : List Qn) : Sh (n + 1) (heartDt m s qs) := sh_ints [_, _, _, _, _]
/-- two that are the same data aren't told apart -/
theorem neD_same {K : PySem.W.Frag} {H : Hp} {x y : V} {d : PyData} {Q : V → Hp → Prop} (hx : Dp K H x d) (hy : Dp K H y d) (h : Sh 20 d) (q : Q (.bl false) H) : rNeD K x y H Q := by
  refine ⟨d, d, hx, hy, h.shaped (by decide), h.shaped (by decide), ?_⟩
  rw [PySem.SeqAt.eqv_refl d h.1]
  exact q
theorem eqD_same {K : PySem.W.Frag} {H : Hp} {x y : V} {d : PyData} {Q : V → Hp → Prop} (hx : Dp K H x d) (hy : Dp K H y d) (h : Sh 20 d) (q : Q (.bl true) H) : rEqD K x y H Q := by
  refine ⟨d, d, hx, hy, h.shaped (by decide), h.shaped (by decide), ?_⟩
  rw [PySem.SeqAt.eqv_refl d h.1]
  exact q
def spHeart (K : PySem.W.Frag) : Sp := fun vs H Q _ => ∃ (v t : V) (m : Mach) (tk : Task) (s : Int), vs = [v, t, .int s] ∧ Dp K H v (machDt m) ∧ Dp K H t tk.dt ∧ MachOk m ∧ tk.Ok ∧ 0 ≤ s ∧ s ≤ 999 ∧
  ∀ u H', Same H H' → Dp K H' u (heartDt m s tk.qs) → Q u H'
/-- law: the rows of ways -/
def spWays : Sp := fun vs H Q _ => ∃ (n : Nat), vs = [.int n] ∧ n ≤ 64 ∧ ∀ p H', H p = none → Same H H' → H' p = some (.lst ((rowL n).map V.int)) → Q (.ref p) H'
section
variable {P : Program} {w : World} {K : PySem.W.Frag} {mg : Str → Option Value} {base : Heap} {A : Adr}
theorem ok_ways (T : Txt K mg A) : FnOk P w K mg base CX0 2 A.ways A.ways_ ["_law_many"] spWays := by
  refine T.ways.F.ok sc_ways (fun vs H Q E h => ?_) (fun cdv Ar outer s H vs Q E hr h => ?_)
  · obtain ⟨n, rfl, _⟩ := h
    rfl
  · obtain ⟨n, rfl, hn, k⟩ := h
    refine ⟨_, (pss_cons (ps_set (i := 1) sc_ways.nd rfl (Or.inl rfl) (pe_lst (pa_cons pe_int pa_nil)))
    (pss_cons (ps_for PassesOwn.never rfl (pi_range1 (by rfl) T.n_range (pa_cons (pv 0) pa_nil)) (pg_name (i := 2) sc_ways.nd rfl (Or.inl rfl))
    (pss_one (ps_setLc (i := 1) (own := [("_law_one", 3), ("_law_other", 4)]) (g := gTup K 2 (gCons (gName 3) (gCons (gName 4) gNil))) (tt := tYes) rfl sc_ways.nd rfl rfl (sw_true rfl rfl rfl (by decide +kernel)) (pi_zip (by rfl) T.n_zip (pa_cons (pe_op op_cat (pe_lst (pa_cons pe_int pa_nil)) (pv 1)) (pa_cons (pe_op op_cat (pv 1) (pe_lst (pa_cons pe_int pa_nil))) pa_nil))) (blkOk_by (N := N_ways) (sc := defScope s_ways) (by decide +kernel)) (fun _ _ _ _ _ => pg_tup rfl (pgs_cons (pg_name (i := 3) sc_ways.nd rfl (Or.inl rfl) (hf := Or.inr rfl)) (pgs_cons (pg_name (i := 4) sc_ways.nd rfl (Or.inl rfl) (hf := Or.inr rfl)) pgs_nil))) (fun _ _ _ _ _ => pts_nil) (fun _ _ _ _ _ => (pe_op op_add (pv 3) (pv 4))))))
    (pss_one (ps_ret (pv 1))))), ?_⟩
    have hL := sizeLine_eq
    refine ⟨by show 1 ≤ sizeLine; decide, fun r0 hr0 => ?_⟩
    have e0 : [V.int 1] = (rowL 0).map V.int := rfl
    refine ⟨_, rfl, n, rfl, by omega, by omega, for_range (lo := 0) (n := n) (fun i σ H' => ∃ r x2, σ = [some (.int n), some (.ref r), x2, none, none] ∧ H r = none ∧ Same H H' ∧ H' r = some (.lst ((rowL i).map V.int)))
      ⟨r0, none, rfl, hr0, same_put (Same.refl H) hr0, by rw [← e0]; exact upd_same⟩ ?_ ?_⟩
    · rintro i σ H1 hi ⟨r, x2, rfl, hr, s1, h1⟩
      refine ⟨by show 1 ≤ sizeLine; decide, fun l0 hl0 => ⟨_, rfl, ?_⟩⟩
      have n1 : r ≠ l0 := ne_of_none h1 hl0
      have h2 := (upd_ne (o := .lst [.int 0]) n1).trans h1
      refine ⟨l0, r, _, _, rfl, rfl, upd_same, h2, by rw [List.length_map, rowL_len, List.length_singleton]; omega, fun p1 hp1 => ?_⟩
      have n2 : r ≠ p1 := ne_of_none h2 hp1
      have h3 := (upd_ne (o := .lst ([.int 0] ++ (rowL i).map V.int)) n2).trans h2
      refine ⟨_, rfl, by show 1 ≤ sizeLine; decide, fun l1 hl1 => ?_⟩
      have n3 : r ≠ l1 := ne_of_none h3 hl1
      have h4 := (upd_ne (o := .lst [.int 0]) n3).trans h3
      refine ⟨r, l1, _, _, rfl, rfl, h4, upd_same, by rw [List.length_map, rowL_len, List.length_singleton]; omega, fun p2 hp2 => ?_⟩
      have n4 : p1 ≠ l1 := ne_of_none upd_same hl1
      have g1 := (upd_ne (o := .lst [.int 0]) n4).trans (upd_same (H := upd H1 l0 (.lst [.int 0])) (a := p1) (o := .lst ([.int 0] ++ (rowL i).map V.int)))
      have n5 : p1 ≠ p2 := ne_of_none g1 hp2
      have g2 := (upd_ne (o := .lst ((rowL i).map V.int ++ [.int 0])) n5).trans g1
      have bt := (((Bt.new (S := []) (o := .lst [.int 0]) hl0).trans (Bt.new (S := []) (o := .lst ([.int 0] ++ (rowL i).map V.int)) hp1)).trans (Bt.new (S := []) (o := .lst [.int 0]) hl1)).trans (Bt.new (S := []) (o := .lst ((rowL i).map V.int ++ [.int 0])) hp2)
      have s2 := Same.trans s1 bt.same
      have g3 : upd (upd (upd (upd H1 l0 (.lst [.int 0])) p1 (.lst ([.int 0] ++ (rowL i).map V.int))) l1 (.lst [.int 0])) p2 (.lst ((rowL i).map V.int ++ [.int 0])) p2 = some (.lst ((rowL i).map V.int ++ [.int 0])) := upd_same
      generalize upd (upd (upd (upd H1 l0 (.lst [.int 0])) p1 (.lst ([.int 0] ++ (rowL i).map V.int))) l1 (.lst [.int 0])) p2 (.lst ((rowL i).map V.int ++ [.int 0])) = H2 at g2 g3 s2
      refine ⟨p1, p2, _, _, rfl, SqL.of g2, SqL.of g3, fun D hD => ?_⟩
      refine lc_it (walk_zip (n := i + 2) (by simp [rowL_len])) (fun j H' => Same H2 H' ∧ H' D = some (.lst (((rowL (i + 1)).take j).map V.int))) ⟨same_put (Same.refl H2) hD, upd_same⟩
        (fun j H' _ q => ⟨q.1.seq (SqL.of g2), q.1.seq (SqL.of g3)⟩) ?_ ?_
      · rintro j x H3 H4 hj ⟨s3, h5⟩ ⟨t, y1, y2, rfl, ht, rfl, e1, e2⟩
        obtain ⟨a, b, f1, f2, f3⟩ := row_zip (i := i) (j := j) (by omega)
        have e1 := f1.symm.trans e1
        have e2 := f2.symm.trans e2
        injection e1 with e1
        injection e2 with e2
        subst e1 e2
        have nt : D ≠ t := ne_of_none h5 ht
        refine ⟨t, _, rfl, SqT.of upd_same, rfl, _, _, rfl, _, _, rfl, rfl, ?_⟩
        refine ⟨rfl, ?_⟩
        refine yes_ ?_
        refine iteT ?_
        refine ⟨_, rfl, _, rfl, _, _, rfl, rfl, _, (upd_ne nt).trans h5, ?_, ?_, ?_⟩
        · rw [List.length_map, List.length_take, rowL_len]
          omega
        · exact same_put (same_put s3 (s3.free ht)) hD
        · rw [upd_same, rowL_snoc (i + 1) j (by omega), List.map_append, ← f3]
          rfl
      · rintro H3 ⟨s3, h5⟩
        refine ⟨D, _, rfl, s2.free hD, s2.trans s3, ?_⟩
        rw [h5, List.take_of_length_le (by rw [rowL_len]; omega)]
    · rintro σ H1 ⟨r, x2, rfl, hr, s1, h1⟩
      exact ⟨_, rfl, k r H1 hr s1 h1⟩
end
end Mh
namespace Mh
open PySem L2
def spTwin (K : PySem.W.Frag) : Sp := fun vs H Q _ => ∃ (v : V) (o : Option (Int × Int)), vs = [v] ∧ Dp K H v (twinDt o) ∧ (∀ y e, o = some (y, e) → 0 ≤ y ∧ y ≤ 9999 ∧ dueOk e) ∧ Q (.bl true) H
def spQn (K : PySem.W.Frag) : Sp := fun vs H Q _ => ∃ (v : V) (r : Qn), vs = [v] ∧ Dp K H v r.dt ∧ r.Ok ∧ Q (.bl true) H
def spTk (K : PySem.W.Frag) : Sp := fun vs H Q _ => ∃ (v : V) (t : Task), vs = [v] ∧ Dp K H v t.dt ∧ t.Ok ∧ Q (.bl true) H
def spTask (K : PySem.W.Frag) : Sp := fun vs H Q _ => ∃ (v : V) (t : Task), vs = [v] ∧ Dp K H v t.dt ∧ t.Ok ∧ ∀ H', Same H H' → Q .non H'
/-- what a question stands as -/
theorem dp_qn {K : PySem.W.Frag} {H : Hp} {v : V} {r : Qn} (h : Dp K H v r.dt) : ∃ a u, v = .ref a ∧ SqT K H a [.int r.q, .int r.due, u] ∧ Dp K H u (twinDt r.twin) := by
  obtain ⟨a, xs, rfl, hs, ha⟩ := dp_tup h
  obtain ⟨u1, xs, rfl, h1, ha⟩ := dps_cons ha
  obtain ⟨u2, xs, rfl, h2, ha⟩ := dps_cons ha
  obtain ⟨u3, xs, rfl, h3, ha⟩ := dps_cons ha
  have e := dps_nil ha
  subst e
  rw [dp_int h1, dp_int h2] at hs
  exact ⟨a, u3, rfl, hs, h3⟩
theorem dp_tk {K : PySem.W.Frag} {H : Hp} {v : V} {t : Task} (h : Dp K H v t.dt) : ∃ a b us, v = .ref a ∧ SqT K H a [.ref b, .int t.wt] ∧ SqT K H b us ∧ DpAll K H us (t.qs.map Qn.dt) ∧ us.length = t.qs.length := by
  obtain ⟨a, xs, rfl, hs, ha⟩ := dp_tup h
  obtain ⟨u1, xs, rfl, h1, ha⟩ := dps_cons ha
  obtain ⟨u2, xs, rfl, h2, ha⟩ := dps_cons ha
  have e := dps_nil ha
  subst e
  obtain ⟨b, us, rfl, hb, hu⟩ := dp_tup h1
  rw [dp_int h2] at hs
  refine ⟨a, b, us, rfl, hs, hb, hu, ?_⟩
  have e := dps_len hu
  rwa [List.length_map] at e
theorem at2' {x y z : V} {r : List V} : atI (x :: y :: z :: r) 2 = some z := atI_nat (j := 2) rfl
section
variable {P : Program} {w : World} {K : PySem.W.Frag} {mg : Str → Option Value} {base : Heap} {A : Adr}
theorem ok_is_due (T : Txt K mg A) : FnOk P w K mg base CX0 2 A.is_due A.is_due_ ["value"] (spIs K (-99999999) 99999999) := by
  refine T.is_due.F.ok sc_is_due (fun vs H Q E h => ?_) (fun cdv Ar outer s H vs Q E hr h => ?_)
  · obtain ⟨v, rfl, _⟩ := h
    rfl
  · obtain ⟨v, rfl, od, k⟩ := h
    refine ⟨_, (pss_one (ps_ret (pe_call (ok_is_number T) (hr.mono (by decide)) (by rfl) T.is_number.n T.is_number.F.kp T.is_number.b .nil pass0 (pa_cons (pv 0) (pa_cons (pe_un un_neg (pe_gv (by rfl) T.c_MOST_DUE)) (pa_cons (pe_gv (by rfl) T.c_MOST_DUE) pa_nil)))))), ?_⟩
    exact ⟨_, rfl, _, rfl, v, _, _, rfl, od, k⟩
theorem ok_is_twin (T : Txt K mg A) : FnOk P w K mg base CX0 3 A.is_twin A.is_twin_ ["twin"] (spTwin K) := by
  refine T.is_twin.F.ok sc_is_twin (fun vs H Q E h => ?_) (fun cdv Ar outer s H vs Q E hr h => ?_)
  · obtain ⟨v, o, rfl, _⟩ := h
    rfl
  · obtain ⟨v, o, rfl, hv, ok, k⟩ := h
    refine ⟨_, (pss_cons (ps_if (pt_cmpR op_isN (pv 0) pe_non (nomark _))
    (pss_one (ps_ret pe_bl))
    pss_nil)
    (pss_cons (ps_if (PW.pt (pw_or (pt_not (pt_val (pe_callB call_isi (by rfl) T.n_isinstance PyProof.Rows.boot_isinstance (pa_cons (pv 0) (pa_cons (pe_bltn (v := .ty "tuple") (by rfl) T.n_tuple PyProof.Rows.boot_tuple rfl) pa_nil))))) (pw_or1 (pt_cmpR op_ne (pe_callB call_len_seq (by rfl) T.n_len PySem.boot_len (pa_cons (pv 0) pa_nil)) pe_int (nomark _)))))
    (pss_one (ps_ret pe_bl))
    pss_nil)
    (pss_one (ps_ret (pe_and (pe_call (ok_is_question T) (hr.mono (by decide)) (by rfl) T.is_question.n T.is_question.F.kp T.is_question.b .nil pass0 (pa_cons (pe_ix ix_tup (pv 0) pe_int (fun _ _ => rfl)) pa_nil)) (pe_one (pe_call (ok_is_due T) (hr.mono (by decide)) (by rfl) T.is_due.n T.is_due.F.kp T.is_due.b .nil pass0 (pa_cons (pe_ix ix_tup (pv 0) pe_int (fun _ _ => rfl)) pa_nil)))))))), ?_⟩
    cases o with
    | none =>
      cases hv
      exact ⟨_, rfl, rfl, _, rfl, k⟩
    | some p =>
      obtain ⟨y, e⟩ := p
      obtain ⟨y0, y1, e0, e1⟩ := ok y e rfl
      obtain ⟨a, u, z, rfl, hs, hu, hz⟩ := dp_pair hv
      have eu := dp_int hu
      have ez := dp_int hz
      subst eu ez
      refine ⟨_, rfl, rfl, _, rfl, ?_⟩
      refine iteF ?_
      refine ⟨_, rfl, _, _, .type "tuple", _, true, rfl, .ty _, ty_tupD hs, kit_ty (by decide +kernel), _, rfl, ?_⟩
      refine iteF ?_
      refine ⟨_, rfl, a, _, rfl, .inr hs, rfl, _, rfl, ?_⟩
      refine iteF ?_
      refine ⟨_, rfl, a, _, _, _, rfl, rfl, hs, at0, _, rfl, .int y, _, rfl, ?_⟩
      refine ifp (isNum_t y0 y1) ?_
      refine ⟨_, rfl, a, _, _, _, rfl, rfl, hs, at1, _, rfl, .int e, ?_⟩
      rw [isNum_t e0 e1]
      exact k
theorem ok_is_asked (T : Txt K mg A) : FnOk P w K mg base CX0 4 A.is_asked A.is_asked_ ["asked"] (spQn K) := by
  refine T.is_asked.F.ok sc_is_asked (fun vs H Q E h => ?_) (fun cdv Ar outer s H vs Q E hr h => ?_)
  · obtain ⟨v, o, rfl, _⟩ := h
    rfl
  · obtain ⟨v, r, rfl, hv, ⟨q0, q1, d, tw⟩, k⟩ := h
    obtain ⟨a, u, rfl, hs, hu⟩ := dp_qn hv
    refine ⟨_, (pss_cons (ps_if (PW.pt (pw_or (pt_not (pt_val (pe_callB call_isi (by rfl) T.n_isinstance PyProof.Rows.boot_isinstance (pa_cons (pv 0) (pa_cons (pe_bltn (v := .ty "tuple") (by rfl) T.n_tuple PyProof.Rows.boot_tuple rfl) pa_nil))))) (pw_or1 (pt_cmpR op_ne (pe_callB call_len_seq (by rfl) T.n_len PySem.boot_len (pa_cons (pv 0) pa_nil)) pe_int (nomark _)))))
    (pss_one (ps_ret pe_bl))
    pss_nil)
    (pss_one (ps_ret (pe_and (pe_call (ok_is_question T) (hr.mono (by decide)) (by rfl) T.is_question.n T.is_question.F.kp T.is_question.b .nil pass0 (pa_cons (pe_ix ix_tup (pv 0) pe_int (fun _ _ => rfl)) pa_nil)) (pe_and (pe_call (ok_is_due T) (hr.mono (by decide)) (by rfl) T.is_due.n T.is_due.F.kp T.is_due.b .nil pass0 (pa_cons (pe_ix ix_tup (pv 0) pe_int (fun _ _ => rfl)) pa_nil)) (pe_one (pe_call (ok_is_twin T) (hr.mono (by decide)) (by rfl) T.is_twin.n T.is_twin.F.kp T.is_twin.b .nil pass0 (pa_cons (pe_ix ix_tup (pv 0) pe_int (fun _ _ => rfl)) pa_nil)))))))), ?_⟩
    refine ⟨_, rfl, _, _, .type "tuple", _, true, rfl, .ty _, ty_tupD hs, kit_ty (by decide +kernel), _, rfl, ?_⟩
    refine iteF ?_
    refine ⟨_, rfl, a, _, rfl, .inr hs, rfl, _, rfl, ?_⟩
    refine iteF ?_
    refine ⟨_, rfl, a, _, _, _, rfl, rfl, hs, at0, _, rfl, .int _, _, rfl, ?_⟩
    refine ifp (isNum_t q0 q1) ?_
    refine ⟨_, rfl, a, _, _, _, rfl, rfl, hs, at1, _, rfl, .int _, _, rfl, ?_⟩
    refine ifp (isNum_t d.1 d.2) ?_
    exact ⟨_, rfl, a, _, _, _, rfl, rfl, hs, at2, u, r.twin, rfl, hu, tw, k⟩
theorem ok_is_framed (T : Txt K mg A) : FnOk P w K mg base CX0 2 A.is_framed A.is_framed_ ["task"] (spTk K) := by
  refine T.is_framed.F.ok sc_is_framed (fun vs H Q E h => ?_) (fun cdv Ar outer s H vs Q E hr h => ?_)
  · obtain ⟨v, o, rfl, _⟩ := h
    rfl
  · obtain ⟨v, t, rfl, hv, ok, k⟩ := h
    obtain ⟨a, b, us, rfl, hs, hb, hu, hl⟩ := dp_tk hv
    refine ⟨_, (pss_cons (ps_if (PW.pt (pw_or (pt_not (pt_val (pe_callB call_isi (by rfl) T.n_isinstance PyProof.Rows.boot_isinstance (pa_cons (pv 0) (pa_cons (pe_bltn (v := .ty "tuple") (by rfl) T.n_tuple PyProof.Rows.boot_tuple rfl) pa_nil))))) (pw_or1 (pt_cmpR op_ne (pe_callB call_len_seq (by rfl) T.n_len PySem.boot_len (pa_cons (pv 0) pa_nil)) pe_int (nomark _)))))
    (pss_one (ps_ret pe_bl))
    pss_nil)
    (pss_cons (ps_asg (pv 0) (pg_tup rfl (pgs_cons (pg_name (i := 1) sc_is_framed.nd rfl (Or.inl rfl)) (pgs_cons (pg_name (i := 2) sc_is_framed.nd rfl (Or.inl rfl)) pgs_nil))))
    (pss_cons (ps_if (PW.pt (pw_or (pt_not (pt_val (pe_callB call_isi (by rfl) T.n_isinstance PyProof.Rows.boot_isinstance (pa_cons (pv 1) (pa_cons (pe_bltn (v := .ty "tuple") (by rfl) T.n_tuple PyProof.Rows.boot_tuple rfl) pa_nil))))) (pw_or1 (pt_cmpR op_eq (pe_callB call_len_seq (by rfl) T.n_len PySem.boot_len (pa_cons (pv 1) pa_nil)) pe_int (nomark _)))))
    (pss_one (ps_ret pe_bl))
    pss_nil)
    (pss_one (ps_ret (pe_call (ok_is_number T) (hr.mono (by decide)) (by rfl) T.is_number.n T.is_number.F.kp T.is_number.b .nil pass0 (pa_cons (pv 2) (pa_cons pe_int (pa_cons (pe_gv (by rfl) T.c_MOST_WEIGHT) pa_nil))))))))), ?_⟩
    refine ⟨_, rfl, _, _, .type "tuple", _, true, rfl, .ty _, ty_tupD hs, kit_ty (by decide +kernel), _, rfl, ?_⟩
    refine iteF ?_
    refine ⟨_, rfl, a, _, rfl, .inr hs, rfl, _, rfl, ?_⟩
    refine iteF ?_
    refine ⟨_, rfl, a, _, rfl, hs, rfl, ?_⟩
    refine ⟨_, _, rfl, _, _, rfl, rfl, ?_⟩
    refine ⟨_, rfl, _, _, .type "tuple", _, true, rfl, .ty _, ty_tupD hb, kit_ty (by decide +kernel), _, rfl, ?_⟩
    refine iteF ?_
    have h1 := ok.1
    refine ⟨_, rfl, b, _, rfl, .inr hb, rfl, _, rfl, ?_⟩
    refine ifn (by rw [dI, decide_eq_false (by omega)]; simp) ?_
    refine ⟨_, rfl, _, _, _, rfl, .int _, ?_⟩
    rw [isNum_t ok.2.2.2.2.1 ok.2.2.2.2.2]
    exact k
theorem ok_check_task (T : Txt K mg A) : FnOk P w K mg base CX0 5 A.check_task A.check_task_ ["task"] (spTask K) := by
  refine T.check_task.F.ok sc_check_task (fun vs H Q E h => ?_) (fun cdv Ar outer s H vs Q E hr h => ?_)
  · obtain ⟨v, o, rfl, _⟩ := h
    rfl
  · obtain ⟨v, t, rfl, hv, ok, k⟩ := h
    obtain ⟨a, b, us, rfl, hs, hb, hu, hl⟩ := dp_tk hv
    have hb0 := hb
    refine ⟨_, (pss_cons (ps_if (pt_not (pt_val (pe_call (ok_is_framed T) (hr.mono (by decide)) (by rfl) T.is_framed.n T.is_framed.F.kp T.is_framed.b .nil pass0 (pa_cons (pv 0) pa_nil))))
    (pss_one ps_never)
    pss_nil)
    (pss_cons (ps_set (i := 1) sc_check_task.nd rfl (Or.inl rfl) (pe_callTy0 cr_set0 (by rfl) T.n_set PyProof.Rows.boot_set))
    (pss_one (ps_for PassesOwn.never rfl (pi_enumT (by rfl) T.n_enumerate (pa_cons (pe_ix ix_tup (pv 0) pe_int (fun _ _ => rfl)) pa_nil)) (pg_tup rfl (pgs_cons (pg_name (i := 2) sc_check_task.nd rfl (Or.inl rfl)) (pgs_cons (pg_name (i := 3) sc_check_task.nd rfl (Or.inl rfl)) pgs_nil)))
    (pss_cons (ps_if (PW.pt (pw_or (pt_cmpR op_eq (pv 2) (pe_gv (by rfl) T.c_MOST_QUESTIONS) (nomark _)) (pw_or (pt_not (pt_val (pe_call (ok_is_asked T) (hr.mono (by decide)) (by rfl) T.is_asked.n T.is_asked.F.kp T.is_asked.b .nil pass0 (pa_cons (pv 3) pa_nil)))) (pw_or1 (pt_cmpR or_sin (pe_ix ix_tup (pv 3) pe_int (fun _ _ => rfl)) (pv 1) (by rfl))))))
    (pss_one ps_never)
    pss_nil)
    (pss_one (ps_expr (pe_sadd (pv 1) (pa_cons (pe_ix ix_tup (pv 3) pe_int (fun _ _ => rfl)) pa_nil))))))))), ?_⟩
    refine ⟨_, rfl, _, t, rfl, hv, ok, _, rfl, ?_⟩
    refine iteF ?_
    refine ⟨rfl, fun p hp => ?_⟩
    have sm := same_put (Same.refl H) (o := SetO w p (fun _ => false) 0) hp
    refine ⟨_, rfl, a, _, _, _, rfl, rfl, KT.same sm _ _ hs, at0, b, _, rfl, KT.same sm _ _ hb, for_it (walk_enumT (xs := us)) (fun i σ H' => Same H H' ∧ (∃ n, n ≤ i ∧ H' p = some (SetO w p (fun z => decide (z ∈ (t.qs.take i).map Qn.q)) n)) ∧ ∃ x y, σ = [some (.ref a), some (.ref p), x, y])
      ⟨sm, ⟨0, Nat.le_refl _, ?_⟩, _, _, rfl⟩ (fun i σ H' _ ⟨e, _⟩ => KT.same e _ _ hb) ?_ ?_⟩
    · rw [upd_same]
      simp
      rfl
    · rintro i x σ H1 H2 hi ⟨s1, ⟨n, hn, h1⟩, y1, y2, rfl⟩ ⟨c, x1, x2, rfl, hc, rfl, hx1, hx2⟩
      have e1 := Option.some.inj hx1
      subst e1
      have i16 := ok.2.1
      obtain ⟨r, hr2⟩ : ∃ r, t.qs[i]? = some r := ⟨_, List.getElem?_eq_getElem (by omega)⟩
      obtain ⟨d, hd, hx⟩ := dps_get hu hx2
      rw [List.getElem?_map, hr2] at hd
      have hd := Option.some.inj hd
      subst hd
      have ro := ok.2.2.1 _ (List.mem_of_getElem? hr2)
      have s2 : Same H (upd H1 c (.tup [.int (i : Nat), x2])) := same_put s1 (s1.free hc)
      have hx' := dp_same s2 _ _ hx
      obtain ⟨ra, ru, rfl, hrs, hru⟩ := dp_qn hx'
      have h2 : upd H1 c (.tup [.int (i : Nat), .ref ra]) p = some (SetO w p (fun z => decide (z ∈ (t.qs.take i).map Qn.q)) n) := by
        rw [upd_ne (ne_of_none h1 hc)]
        exact h1
      refine ⟨c, _, rfl, SqT.of upd_same, rfl, _, _, rfl, _, _, rfl, rfl, ?_⟩
      refine ⟨_, rfl, rfl, _, rfl, ?_⟩
      refine ifn (by rw [dI, decide_eq_false (by omega)]; simp) ?_
      refine ⟨_, rfl, _, r, rfl, hx', ro, _, rfl, ?_⟩
      refine iteF ?_
      have fresh : r.q ∉ (t.qs.take i).map Qn.q := by
        have nd := ok.2.2.2.1
        rw [← List.take_append_drop i t.qs, List.map_append, List.nodup_append] at nd
        intro z
        refine nd.2.2 _ z r.q ?_ rfl
        rw [drop_at hr2]
        exact List.mem_cons_self
      refine ⟨_, rfl, ra, _, _, _, rfl, rfl, hrs, at0, _, rfl, r.q, p, _, n, rfl, rfl, h2, _, rfl, ?_⟩
      refine ifn (by rw [decide_eq_false fresh]; simp) ?_
      refine ⟨_, rfl, ⟨p, _, n, rfl, h2⟩, _, rfl, ra, _, _, _, rfl, rfl, hrs, at0, p, r.q, _, n, rfl, rfl, h2, by unfold scanBound; omega, ?_⟩
      refine ⟨fun q o e => ?_, ⟨n + 1, by omega, ?_⟩, _, _, rfl⟩
      · rw [upd_ne (ne_of_none e hp)]
        exact s2 q o e
      · rw [upd_same, decide_eq_false fresh]
        simp only [List.take_add_one, hr2, List.map_append, Bool.false_eq_true, if_false]
        congr 3
        funext z
        simp
    · rintro σ H1 ⟨s1, _⟩
      exact k H1 s1
end
end Mh
namespace Mh
open PySem L2
theorem rightN_step (m : Mach) (s : Int) {qs : List Qn} {i : Nat} {r : Qn} (h : qs[i]? = some r) : rightN m s qs (i + 1) = rightN m s qs i ++ if r.good m s = true then [((i : Nat) : Int)] else [] := by
  unfold rightN
  rw [List.range_succ, List.filter_append, List.map_append]
  congr 1
  by_cases e : r.good m s = true
  · rw [if_pos e]
    simp [h, e]
  · rw [if_neg e]
    simp [h, e]
theorem rightN_le (m : Mach) (s : Int) (qs : List Qn) (i : Nat) : (rightN m s qs i).length ≤ i := by
  unfold rightN
  rw [List.length_map]
  have := List.length_filter_le (fun k => (qs[k]?.any (Qn.good m s))) (List.range i)
  rwa [List.length_range] at this
/-- what a machine tells, compared with a number -/
theorem eq_tell {o : Option Int} {i : Int} {H : Hp} {Q : V → Hp → Prop} (h : Q (.bl (decide (o = some i))) H) : rEq (oV o) (.int i) H Q := by
  cases o with
  | none =>
    refine ⟨rfl, ?_⟩
    have e : decide (oV none = V.int i) = decide ((none : Option Int) = some i) := rfl
    show Q (.bl (decide (oV none = V.int i))) H
    rw [e]
    exact h
  | some j =>
    refine ⟨rfl, ?_⟩
    have e : decide (V.int j = V.int i) = decide (some j = some i) := by
      rw [decide_eq_decide]
      exact ⟨fun z => by injection z with z; rw [z], fun z => by injection z with z; rw [z]⟩
    show Q (.bl (decide (V.int j = V.int i))) H
    rw [e]
    exact h
def spRun3 (K : PySem.W.Frag) : Sp := fun vs H Q _ => ∃ (v t : V) (m : Mach) (tk : Task) (s : Int), vs = [v, t, .int s] ∧ Dp K H v (machDt m) ∧ Dp K H t tk.dt ∧ MachOk m ∧ tk.Ok ∧ 0 ≤ s ∧ s ≤ 999 ∧ ∀ H', Same H H' → Q .non H'
def spCount (K : PySem.W.Frag) : Sp := fun vs H Q _ => ∃ (v t : V) (m : Mach) (tk : Task) (s : Int), vs = [v, t, .int s] ∧ Dp K H v (machDt m) ∧ Dp K H t tk.dt ∧ MachOk m ∧ tk.Ok ∧
  ∀ H', Same H H' → Q (.int (rightL m s tk.qs).length) H'
section
variable {P : Program} {w : World} {K : PySem.W.Frag} {mg : Str → Option Value} {base : Heap} {A : Adr}
theorem ok_check_run (T : Txt K mg A) : FnOk P w K mg base CX0 7 A.check_run A.check_run_ ["machine", "task", "seed"] (spRun3 K) := by
  refine T.check_run.F.ok sc_check_run (fun vs H Q E h => ?_) (fun cdv Ar outer s H vs Q E hr h => ?_)
  · obtain ⟨v, t, m, tk, s, rfl, _⟩ := h
    rfl
  · obtain ⟨v, t, m, tk, s, rfl, hv, ht, ho, to, s0, s1, k⟩ := h
    refine ⟨_, (pss_cons (ps_expr (pe_call (ok_check_machine T) (hr.mono (by decide)) (by rfl) T.check_machine.n T.check_machine.F.kp T.check_machine.b .nil pass0 (pa_cons (pv 0) pa_nil)))
    (pss_cons (ps_expr (pe_call (ok_check_task T) (hr.mono (by decide)) (by rfl) T.check_task.n T.check_task.F.kp T.check_task.b .nil pass0 (pa_cons (pv 1) pa_nil)))
    (pss_one (ps_expr (pe_call (ok_check_seed T) (hr.mono (by decide)) (by rfl) T.check_seed.n T.check_seed.F.kp T.check_seed.b .nil pass0 (pa_cons (pv 2) pa_nil)))))), ?_⟩
    refine ⟨_, rfl, v, m, rfl, hv, ho, fun H1 e1 => ?_⟩
    refine ⟨_, rfl, t, tk, rfl, dp_same e1 _ _ ht, to, fun H2 e2 => ?_⟩
    exact ⟨_, rfl, s, rfl, s0, s1, k H2 (e1.trans e2)⟩
end
end Mh
namespace Mh
open PySem L2
theorem sum_zero_from {f : Nat → Nat} {N : Nat} (h : ∀ j, N ≤ j → f j = 0) : ∀ k, ((List.range (N + k)).map f).sum = ((List.range N).map f).sum
  | 0 => rfl
  | k + 1 => by
    rw [← Nat.add_assoc, List.range_succ, List.map_append, List.sum_append, sum_zero_from h k]
    simp [h (N + k) (by omega)]
theorem sum_cast {f : Nat → Nat} (l : List Nat) : (l.map fun i => ((f i : Nat) : Int)).sum = (((l.map f).sum : Nat) : Int) := by
  induction l with
  | nil => rfl
  | cons x l ih =>
    simp only [List.map_cons, List.sum_cons, ih]
    omega
theorem ways_eq {n a b : Nat} (hb : b ≤ n) : ((List.range (b + 1)).map fun i => binom n (a + i) * binom n (b - i)).sum = waysN n a b := by
  have e1 : ∀ j, j < b + 1 → binom n (a + j) * binom n (b - j) = wayK n a b (a + j) := fun j hj => by
    unfold wayK
    rw [if_pos ⟨by omega, by omega⟩]
    congr 2
    omega
  have e2 : ((List.range (b + 1)).map fun i => binom n (a + i) * binom n (b - i)) = (List.range (b + 1)).map fun i => wayK n a b (a + i) := List.map_congr_left fun j hj => e1 j (List.mem_range.mp hj)
  rw [e2]
  unfold waysN waysI
  have z1 : ∀ j, b + 1 ≤ j → wayK n a b (a + j) = 0 := fun j hj => by
    unfold wayK
    rw [if_neg (by omega)]
  have z2 : ∀ j, n + 1 - a ≤ j → wayK n a b (a + j) = 0 := fun j hj => by
    unfold wayK
    split
    · rw [binom_over (n := n) (k := a + j) (by omega), Nat.zero_mul]
    · rfl
  rw [← sum_zero_from (f := fun i => wayK n a b (a + i)) z1 (n + 1 - a), ← sum_zero_from (f := fun i => wayK n a b (a + i)) (N := n + 1 - a) z2 (b + 1), Nat.add_comm]
theorem twin_take {qs : List Qn} {i : Nat} {r : Qn} (h : qs[i]? = some r) : twinned (qs.take (i + 1)) = twinned (qs.take i) ++ if r.twin.isSome = true then [r] else [] := by
  unfold twinned
  rw [List.take_add_one, h, List.filter_append]
  congr 1
  by_cases e : r.twin.isSome = true
  · simp [e]
  · simp [e]
theorem filt_take {α : Type} {f : α → Bool} {l : List α} {i : Nat} {r : α} (h : l[i]? = some r) : ((l.take (i + 1)).filter f).length = ((l.take i).filter f).length + if f r = true then 1 else 0 := by
  rw [List.take_add_one, h, List.filter_append, List.length_append]
  congr 1
  by_cases e : f r = true
  · simp [e]
  · simp [e]
section
variable {P : Program} {w : World} {K : PySem.W.Frag} {mg : Str → Option Value} {base : Heap} {A : Adr}
theorem ok_heart (T : Txt K mg A) : FnOk P w K mg base CX0 9 A.heart A.heart_ ["machine", "task", "seed"] (spHeart K) := by
  refine T.heart.F.ok sc_heart (fun vs H Q E h => ?_) (fun cdv Ar outer s H vs Q E hr h => ?_)
  · obtain ⟨v, t, m, tk, s, rfl, _⟩ := h
    rfl
  · obtain ⟨v, t, m, tk, s, rfl, hv, ht, ho, to, s0, s1, k⟩ := h
    have hL := sizeLine_eq
    have l16 := to.2.1
    refine ⟨_, (pss_cons (ps_expr (pe_call (ok_check_run T) (hr.mono (by decide)) (by rfl) T.check_run.n T.check_run.F.kp T.check_run.b .nil pass0 (pa_cons (pv 0) (pa_cons (pv 1) (pa_cons (pv 2) pa_nil)))))
    (pss_cons (ps_setLc (i := 3) (own := [("question", 8), ("due", 9), ("twin", 10)]) (g := gTup K 3 (gCons (gName 8) (gCons (gName 9) (gCons (gName 10) gNil))))  rfl sc_heart.nd rfl rfl (sw_true rfl rfl rfl (by decide +kernel)) (pi_tup (pe_ix ix_tup (pv 1) pe_int (fun _ _ => rfl))) (blkOk_by (N := N_heart) (sc := defScope s_heart) (by decide +kernel)) (fun _ _ _ _ _ => pg_tup rfl (pgs_cons (pg_name (i := 8) sc_heart.nd rfl (Or.inl rfl) (hf := Or.inr rfl)) (pgs_cons (pg_name (i := 9) sc_heart.nd rfl (Or.inl rfl) (hf := Or.inr rfl)) (pgs_cons (pg_name (i := 10) sc_heart.nd rfl (Or.inl rfl) (hf := Or.inr rfl)) pgs_nil)))) (fun _ _ _ _ _ => (pts_one (pt_cmpR op_notN (pv 10) pe_non (nomark _)))) (fun _ _ _ _ _ => (pe_tup (pa_cons (pv 8) (pa_cons (pv 9) (pa_cons (pv 10) pa_nil))))))
    (pss_cons (ps_set (i := 4) sc_heart.nd rfl (Or.inr rfl) (pe_callB call_len_seq (by rfl) T.n_len PySem.boot_len (pa_cons (pv 3) pa_nil)))
    (pss_cons (ps_set (i := 5) sc_heart.nd rfl (Or.inr rfl) (pe_callB call_len_seq (by rfl) T.n_len PySem.boot_len (pa_cons (pe_lc (own := [("question", 8), ("due", 9), ("_", 12)]) (g := gTup K 3 (gCons (gName 8) (gCons (gName 9) (gCons (gName 12) gNil))))  rfl sc_heart.nd (pi_list (pv 3)) (blkOk_by (N := N_heart) (sc := defScope s_heart) (by decide +kernel)) (fun _ _ _ _ _ => pg_tup rfl (pgs_cons (pg_name (i := 8) sc_heart.nd rfl (Or.inl rfl) (hf := Or.inr rfl)) (pgs_cons (pg_name (i := 9) sc_heart.nd rfl (Or.inl rfl) (hf := Or.inr rfl)) (pgs_cons (pg_name (i := 12) sc_heart.nd rfl (Or.inl rfl) (hf := Or.inr rfl)) pgs_nil)))) (fun _ _ _ _ _ => (pts_one (pt_cmpR op_eq (pe_call (ok_run T) (hr.mono (by decide)) (by rfl) T.run.n T.run.F.kp T.run.b .nil pass0 (pa_cons (pv 0) (pa_cons (pv 8) (pa_cons (pv 2) pa_nil)))) (pv 9) (nomark _)))) (fun _ _ _ _ _ => (pv 9))) pa_nil)))
    (pss_cons (ps_set (i := 6) sc_heart.nd rfl (Or.inr rfl) (pe_callB call_len_seq (by rfl) T.n_len PySem.boot_len (pa_cons (pe_lc (own := [("_", 12), ("twin", 10)]) (g := gTup K 3 (gCons (gName 12) (gCons (gName 12) (gCons (gName 10) gNil))))  rfl sc_heart.nd (pi_list (pv 3)) (blkOk_by (N := N_heart) (sc := defScope s_heart) (by decide +kernel)) (fun _ _ _ _ _ => pg_tup rfl (pgs_cons (pg_name (i := 12) sc_heart.nd rfl (Or.inl rfl) (hf := Or.inr rfl)) (pgs_cons (pg_name (i := 12) sc_heart.nd rfl (Or.inl rfl) (hf := Or.inr rfl)) (pgs_cons (pg_name (i := 10) sc_heart.nd rfl (Or.inl rfl) (hf := Or.inr rfl)) pgs_nil)))) (fun _ _ _ _ _ => (pts_one (pt_cmpR op_eq (pe_call (ok_run T) (hr.mono (by decide)) (by rfl) T.run.n T.run.F.kp T.run.b .nil pass0 (pa_cons (pv 0) (pa_cons (pe_ix (ixK_tup (K := K) rfl) (pv 10) pe_int (fun _ _ => rfl)) (pa_cons (pv 2) pa_nil)))) (pe_ix (ixK_tup (K := K) rfl) (pv 10) pe_int (fun _ _ => rfl)) (nomark _)))) (fun _ _ _ _ _ => (pv 10))) pa_nil)))
    (pss_cons (ps_setLc (i := 7) (own := [("laid", 11)]) (g := gName 11) (tt := tYes) rfl sc_heart.nd rfl rfl (sw_true rfl rfl rfl (by decide +kernel)) (pi_range2 (by rfl) T.n_range (pa_cons (pv 5) (pa_cons (pe_op op_add (pe_op op_add (pv 5) (pv 6)) pe_int) pa_nil))) (blkOk_by (N := N_heart) (sc := defScope s_heart) (by decide +kernel)) (fun _ _ _ _ _ => pg_name (i := 11) sc_heart.nd rfl (Or.inl rfl) (hf := Or.inr rfl)) (fun _ _ _ _ _ => pts_nil) (fun _ _ _ _ _ => (pe_op op_mul (pe_callBfun cr_comb (by rfl) T.m_comb (pa_cons (pv 4) (pa_cons (pv 11) pa_nil))) (pe_callBfun cr_comb (by rfl) T.m_comb (pa_cons (pv 4) (pa_cons (pe_op op_sub (pe_op op_add (pv 5) (pv 6)) (pv 11)) pa_nil))))))
    (pss_one (ps_ret (pe_tup (pa_cons (pv 4) (pa_cons (pv 5) (pa_cons (pv 6) (pa_cons (pe_callB (cr_sum rfl) (by rfl) T.n_sum (by decide +kernel) (pa_cons (pv 7) pa_nil)) (pa_cons (pe_callBfun cr_comb (by rfl) T.m_comb (pa_cons (pe_op op_mul pe_int (pv 4)) (pa_cons (pe_op op_add (pv 5) (pv 6)) pa_nil))) pa_nil)))))))))))))), ?_⟩
    refine ⟨_, rfl, _, rfl, _, rfl, v, t, m, tk, s, rfl, hv, ht, ho, to, s0, s1, fun H1 e1 => ?_⟩
    have hv1 := dp_same e1 _ _ hv
    have ht1 := dp_same e1 _ _ ht
    obtain ⟨a, b, us, rfl, hs, hb, hu, hl⟩ := dp_tk ht1
    have lt : ∀ i, (twinned (tk.qs.take i)).length ≤ 16 := fun i => by
      have h1 := List.length_filter_le (fun r : Qn => r.twin.isSome) (tk.qs.take i)
      rw [List.length_take] at h1
      show (List.filter _ _).length ≤ 16
      omega
    refine ⟨_, rfl, a, _, _, _, rfl, rfl, hs, at0, b, rfl, ⟨us, hb⟩, fun D hD => lc_tup (K := K) (a := b) (xs := us) (fun i H' => Same H1 H' ∧ ∃ vs, H' D = some (.lst vs) ∧ DpAll K H' vs ((twinned (tk.qs.take i)).map Qn.dt))
      ⟨same_put (Same.refl H1) hD, [], upd_same, .nil⟩ (fun i H' _ z => KT.same z.1 _ _ hb) ?_ ?_⟩
    · rintro i x H2 hi ⟨s2, vs, h2, d2⟩
      obtain ⟨d, hd, hx⟩ := dps_get hu hi
      obtain ⟨r, hr2⟩ : ∃ r, tk.qs[i]? = some r := ⟨_, List.getElem?_eq_getElem (by have := (List.getElem?_eq_some_iff.mp hi).1; omega)⟩
      rw [List.getElem?_map, hr2] at hd
      have hd := Option.some.inj hd
      subst hd
      have hx' := dp_same s2 _ _ hx
      obtain ⟨ra, ru, rfl, hrs, hru⟩ := dp_qn hx'
      refine ⟨ra, _, rfl, hrs, rfl, _, _, rfl, _, _, rfl, _, _, rfl, rfl, rfl, ?_⟩
      have lv : vs.length = (twinned (tk.qs.take i)).length := by
        have e := dps_len d2
        rwa [List.length_map] at e
      have := lt i
      cases et : r.twin with
      | none =>
        rw [et] at hru
        cases hru
        refine ⟨_, rfl, rfl, _, rfl, ?_⟩
        refine iteF ⟨s2, vs, h2, ?_⟩
        rw [twin_take hr2, et]
        simpa using d2
      | some p =>
        rw [et] at hru
        obtain ⟨ta, tz, ts, rfl, hts, hta⟩ := (by
          obtain ⟨y, e⟩ := p
          obtain ⟨ta, u1, u2, rfl, h1, h2, h3⟩ := dp_pair hru
          exact ⟨ta, (), [u1, u2], rfl, h1, trivial⟩ : ∃ (ta : Addr) (tz : Unit) (ts : List V), ru = .ref ta ∧ SqT K H2 ta ts ∧ True)
        refine ⟨_, rfl, rfl, _, rfl, ?_⟩
        refine iteT ?_
        refine ⟨_, rfl, _, rfl, _, rfl, by show 3 ≤ sizeLine; decide, fun l hl => ?_⟩
        have ne := ne_of_none h2 hl
        have sl : Same H2 (upd H2 l (.tup [.int r.q, .int r.due, .ref ta])) := same_put (Same.refl H2) hl
        refine ⟨vs, (upd_ne ne).trans h2, by omega, ?_, vs ++ [.ref l], upd_same, ?_⟩
        · intro q o z
          rw [upd_ne (ne_of_none z hD)]
          exact sl q o (s2 q o z)
        · have kt : KT K (upd H2 l (.tup [.int r.q, .int r.due, .ref ta])) (upd (upd H2 l (.tup [.int r.q, .int r.due, .ref ta])) D (.lst (vs ++ [.ref l]))) :=
            (Bt.refl.set (List.mem_singleton.mpr rfl)).kt1 ((upd_ne ne).trans h2)
          rw [twin_take hr2, et, List.map_append]
          refine dps_snoc (dps_keep kt _ _ (tds_map qn_td _) (dps_same sl _ _ d2)) (dp_keep kt _ _ (qn_td r) (.tup (SqT.of upd_same) (.cons (.int _) (.cons (.int _) (.cons ?_ .nil)))))
          rw [et]
          exact dp_same sl _ _ hru
    rintro H2 ⟨s2, vs, h2, d2⟩
    rw [hl, List.take_length] at d2
    have lv : vs.length = (twinned tk.qs).length := by
      have e := dps_len d2
      rwa [List.length_map] at e
    have ln : (twinned tk.qs).length ≤ 16 := by
      have := lt tk.qs.length
      rwa [List.take_length] at this
    refine ⟨_, rfl, D, vs, rfl, .inl (SqL.of h2), ?_⟩
    rw [lv]
    refine ⟨_, rfl, D, rfl, ⟨vs, SqL.of h2⟩, fun D2 hD2 => lc_list (K := K) (a := D) (xs := vs) (fun i H' => Same H2 H' ∧ ∃ acc, H' D2 = some (.lst acc) ∧ acc.length = (((twinned tk.qs).take i).filter (Qn.good m s)).length)
      ⟨same_put (Same.refl H2) hD2, [], upd_same, rfl⟩ (fun i H' _ z => SqL.of (z.1 _ _ h2)) ?_ ?_⟩
    · rintro i x H3 hi ⟨s3, acc, h3, l3⟩
      have il := (List.getElem?_eq_some_iff.mp hi).1
      obtain ⟨d, hd, hx⟩ := dps_get d2 hi
      obtain ⟨r, hr2⟩ : ∃ r, (twinned tk.qs)[i]? = some r := ⟨_, List.getElem?_eq_getElem (by omega)⟩
      rw [List.getElem?_map, hr2] at hd
      have hd := Option.some.inj hd
      subst hd
      obtain ⟨ra, ru, rfl, hrs, hru⟩ := dp_qn (dp_same s3 _ _ hx)
      have fl := filt_take (f := Qn.good m s) hr2
      have := List.length_filter_le (Qn.good m s) ((twinned tk.qs).take i)
      rw [List.length_take] at this
      refine ⟨ra, _, rfl, hrs, rfl, _, _, rfl, _, _, rfl, _, _, rfl, rfl, rfl, ?_⟩
      refine ⟨_, rfl, _, rfl, _, rfl, v, m, r.q, s, rfl, dp_same (s2.trans s3) _ _ hv1, ho, _, rfl, ?_⟩
      refine eq_tell ?_
      refine ⟨_, rfl, ?_⟩
      have eg : r.good m s = decide (tell r.q s m = some r.due) := rfl
      rw [← eg]
      refine ite2 (fun e => ?_) (fun e => ?_)
      · rw [if_pos e] at fl
        refine ⟨_, rfl, acc, h3, by omega, same_put s3 hD2, acc ++ [_], upd_same, ?_⟩
        rw [List.length_append, fl, l3]
        rfl
      · rw [if_neg e] at fl
        exact ⟨s3, acc, h3, by rw [fl, l3]; rfl⟩
    rintro H3 ⟨s3, acc, h3, l3⟩
    rw [lv, List.take_length] at l3
    refine ⟨D2, acc, rfl, .inl (SqL.of h3), ?_⟩
    rw [l3]
    have h2' := s3 _ _ h2
    refine ⟨_, rfl, D, rfl, ⟨vs, SqL.of h2'⟩, fun D3 hD3 => lc_list (K := K) (a := D) (xs := vs) (fun i H' => Same H3 H' ∧ ∃ acc, H' D3 = some (.lst acc) ∧ acc.length = (((twinned tk.qs).take i).filter (Qn.twinGood m s)).length)
      ⟨same_put (Same.refl H3) hD3, [], upd_same, rfl⟩ (fun i H' _ z => SqL.of (z.1 _ _ h2')) ?_ ?_⟩
    · rintro i x H4 hi ⟨s4, acc4, h4, l4⟩
      have il := (List.getElem?_eq_some_iff.mp hi).1
      obtain ⟨d, hd, hx⟩ := dps_get d2 hi
      obtain ⟨r, hr2⟩ : ∃ r, (twinned tk.qs)[i]? = some r := ⟨_, List.getElem?_eq_getElem (by omega)⟩
      rw [List.getElem?_map, hr2] at hd
      have hd := Option.some.inj hd
      subst hd
      obtain ⟨ra, ru, rfl, hrs, hru⟩ := dp_qn (dp_same (s3.trans s4) _ _ hx)
      have fl := filt_take (f := Qn.twinGood m s) hr2
      have := List.length_filter_le (Qn.twinGood m s) ((twinned tk.qs).take i)
      rw [List.length_take] at this
      have tw : r.twin.isSome = true := (List.mem_filter.mp (List.mem_of_getElem? hr2)).2
      obtain ⟨⟨y, e⟩, et⟩ := Option.isSome_iff_exists.mp tw
      rw [et] at hru
      obtain ⟨ta, u1, u2, rfl, hts, hu1, hu2⟩ := dp_pair hru
      have e1' := dp_int hu1
      have e2' := dp_int hu2
      subst e1' e2'
      refine ⟨ra, _, rfl, hrs, rfl, _, _, rfl, _, _, rfl, _, _, rfl, rfl, rfl, ?_⟩
      refine ⟨_, rfl, _, rfl, ta, _, _, _, rfl, rfl, hts, at0, _, rfl, v, m, y, s, rfl, dp_same (s2.trans (s3.trans s4)) _ _ hv1, ho, _, rfl, ta, _, _, _, rfl, rfl, hts, at1, ?_⟩
      refine eq_tell ?_
      refine ⟨_, rfl, ?_⟩
      have eg : r.twinGood m s = decide (tell y s m = some e) := by
        unfold Qn.twinGood
        rw [et]
      rw [← eg]
      refine ite2 (fun e => ?_) (fun e => ?_)
      · rw [if_pos e] at fl
        refine ⟨_, rfl, acc4, h4, by omega, same_put s4 hD3, acc4 ++ [_], upd_same, ?_⟩
        rw [List.length_append, fl, l4]
        rfl
      · rw [if_neg e] at fl
        exact ⟨s4, acc4, h4, by rw [fl, l4]; rfl⟩
    rintro H4 ⟨s4, acc4, h4, l4⟩
    rw [lv, List.take_length] at l4
    refine ⟨D3, acc4, rfl, .inl (SqL.of h4), ?_⟩
    rw [l4]
    have na : hereN m s tk.qs ≤ (twinned tk.qs).length := List.length_filter_le _ _
    have nb : thereN m s tk.qs ≤ (twinned tk.qs).length := List.length_filter_le _ _
    have ea : ((twinned tk.qs).filter (Qn.good m s)).length = hereN m s tk.qs := rfl
    have eb : ((twinned tk.qs).filter (Qn.twinGood m s)).length = thereN m s tk.qs := rfl
    rw [ea, eb]
    have eh : heartDt m s tk.qs = .tuple [.int ((twinned tk.qs).length : Nat), .int (hereN m s tk.qs : Nat), .int (thereN m s tk.qs : Nat), .int (waysN (twinned tk.qs).length (hereN m s tk.qs) (thereN m s tk.qs) : Nat), .int (binom (2 * (twinned tk.qs).length) (hereN m s tk.qs + thereN m s tk.qs) : Nat)] := rfl
    rw [eh] at k
    generalize (twinned tk.qs).length = n at na nb ln k ⊢
    generalize hereN m s tk.qs = x at na k ⊢
    generalize thereN m s tk.qs = y at nb k ⊢
    have wl := ways_eq (a := x) nb
    refine ⟨_, rfl, _, rfl, _, rfl, _, _, rfl, rfl, _, _, rfl, rfl, (x : Int), (x : Int) + (y : Int) + 1, rfl, ⟨by omega, by omega, by omega, by omega⟩, fun D4 hD4 => ?_⟩
    have en : ((x : Int) + (y : Int) + 1 - (x : Int)).toNat = y + 1 := by omega
    refine lc_range (lo := (x : Int)) (n := ((x : Int) + (y : Int) + 1 - (x : Int)).toNat) (fun i H' => Same H4 H' ∧ H' D4 = some (.lst (((List.range i).map fun j => ((binom n (x + j) * binom n (y - j) : Nat) : Int)).map V.int))) ⟨same_put (Same.refl H4) hD4, upd_same⟩ ?_ ?_
    · rintro i H5 hi ⟨s5, h5⟩
      rw [en] at hi
      refine ⟨rfl, ?_⟩
      refine yes_ ?_
      refine iteT ?_
      refine ⟨_, rfl, _, rfl, n, x + i, ?_, by omega, by omega, _, rfl, _, rfl, _, rfl, _, _, rfl, rfl, _, rfl, _, _, rfl, rfl, n, y - i, ?_, by omega, by omega, _, _, rfl, rfl, .inl ?_, _, h5, ?_, same_put s5 hD4, ?_⟩
      · show [V.int (n : Nat), V.int ((x : Int) + (i : Nat))] = [V.int (n : Nat), V.int ((x + i : Nat) : Int)]
        rw [Int.natCast_add]
      · show [V.int (n : Nat), V.int ((x : Int) + (y : Int) - ((x : Int) + (i : Nat)))] = [V.int (n : Nat), V.int ((y - i : Nat) : Int)]
        rw [show (x : Int) + (y : Int) - ((x : Int) + (i : Nat)) = ((y - i : Nat) : Int) by omega]
      · have b1 := binom_le n (x + i)
        have b2 : 2 ^ n ≤ 2 ^ 16 := Nat.pow_le_pow_right (by decide) ln
        have b3 : (2 : Nat) ^ 16 = 65536 := by decide
        exact ⟨by omega, by omega⟩
      · rw [List.length_map, List.length_map, List.length_range]
        omega
      · rw [upd_same, List.range_succ, List.map_append, List.map_append]
        show _ = some (HO.lst (_ ++ [V.int ((binom n (x + i) * binom n (y - i) : Nat) : Int)]))
        rw [Int.natCast_mul]
    rintro H5 ⟨s5, h5⟩
    rw [en] at h5
    refine ⟨_, rfl, _, rfl, _, rfl, _, rfl, D4, _, rfl, SqL.of h5, _, rfl, _, _, rfl, rfl, .inl ⟨by decide, by decide⟩, _, rfl, _, rfl, _, _, rfl, rfl, 2 * n, x + y, ?_, by omega, by omega, ?_, fun l hl => ?_⟩
    · show [V.int (2 * (n : Int)), V.int ((x : Int) + (y : Int))] = [V.int ((2 * n : Nat) : Int), V.int ((x + y : Nat) : Int)]
      rw [Int.natCast_add, Int.natCast_mul]
      rfl
    · show 5 ≤ sizeLine
      decide
    rw [sum_cast, wl]
    have sA : Same H H5 := e1.trans (s2.trans (s3.trans (s4.trans s5)))
    exact k (.ref l) _ (same_put sA (same_none sA hl)) (.tup (SqT.of upd_same) (.cons (.int _) (.cons (.int _) (.cons (.int _) (.cons (.int _) (.cons (.int _) .nil))))))
end
end Mh
namespace Mh
open PySem L2
/-- a list of those rows among the first i that a test lets -/
def FltI (K : PySem.W.Frag) (H : Hp) (D : Addr) (rs : List Qn) (f : Qn → Bool) (i : Nat) (H' : Hp) : Prop :=
  Same H H' ∧ ∃ ws, H' D = some (.lst ws) ∧ DpAll K H' ws (((rs.take i).filter f).map Qn.dt)
section
variable {K : PySem.W.Frag} {H H1 H2 : Hp} {D : Addr} {rs : List Qn} {f : Qn → Bool} {i : Nat} {r : Qn} {x : V}
theorem FltI.nil (h : H D = none) : FltI K H D rs f 0 (upd H D (.lst [])) := ⟨same_put (Same.refl H) h, [], upd_same, .nil⟩
theorem FltI.len (h : FltI K H D rs f i H1) (hl : rs.length ≤ 16) : ∀ ws, H1 D = some (.lst ws) → ws.length ≤ 16 := by
  intro ws h1
  obtain ⟨_, ws2, h2, h3⟩ := h
  have e := h1.symm.trans h2
  injection e with e
  injection e with e
  subst e
  have e := dps_len h3
  rw [List.length_map] at e
  have l := List.length_filter_le f (rs.take i)
  rw [List.length_take] at l
  omega
theorem FltI.yes (h : FltI K H D rs f i H1) (hD : H D = none) (hl : rs.length ≤ 16) (s : Same H1 H2) (hr : rs[i]? = some r) (hf : f r = true) (hx : Dp K H2 x r.dt) : ∃ acc, H2 D = some (.lst acc) ∧ acc.length < sizeLine ∧ FltI K H D rs f (i + 1) (upd H2 D (.lst (acc ++ [x]))) := by
  have hL := sizeLine_eq
  obtain ⟨s1, ws, h1, h2⟩ := id h
  refine ⟨ws, s _ _ h1, by have := h.len hl ws h1; omega, same_put (s1.trans s) hD, _, upd_same, ?_⟩
  have kt : KT K H2 (upd H2 D (.lst (ws ++ [x]))) := (Bt.refl.set (S := [D]) (by simp)).kt1 (s _ _ h1)
  rw [List.take_add_one, hr, List.filter_append, List.map_append]
  have e : List.map Qn.dt (List.filter f (some r).toList) = [r.dt] := by simp [hf]
  rw [e]
  exact dps_snoc (dps_keep (KT.same s |>.trans kt) _ _ (tds_map qn_td _) h2) (dp_keep kt _ _ (qn_td r) hx)
theorem FltI.no (h : FltI K H D rs f i H1) (s : Same H1 H2) (hr : rs[i]? = some r) (hf : f r = false) : FltI K H D rs f (i + 1) H2 := by
  obtain ⟨s1, ws, h1, h2⟩ := h
  refine ⟨s1.trans s, ws, s _ _ h1, ?_⟩
  rw [List.take_add_one, hr, List.filter_append, List.map_append]
  have e : List.map Qn.dt (List.filter f (some r).toList) = [] := by simp [hf]
  rw [e, List.append_nil]
  exact dps_same s _ _ h2
end
/-- a task's row, taken apart -/
theorem qrow_at {K : PySem.W.Frag} {H : Hp} {us : List V} {qs : List Qn} {j : Nat} {x : V} (ha : DpAll K H us (qs.map Qn.dt)) (hj : us[j]? = some x) :
    ∃ r rp tw, qs[j]? = some r ∧ x = .ref rp ∧ SqT K H rp [.int r.q, .int r.due, tw] ∧ Dp K H tw (twinDt r.twin) ∧ Dp K H x r.dt := by
  have e := dps_len ha
  rw [List.length_map] at e
  have hi := (List.getElem?_eq_some_iff.mp hj).1
  have hr : qs[j]? = some qs[j] := List.getElem?_eq_getElem (by omega)
  generalize qs[j] = r at hr
  obtain ⟨x2, g1, g2⟩ := dps_at (i := j) ha (show (qs.map Qn.dt)[j]? = some r.dt by rw [List.getElem?_map, hr]; rfl)
  have ex := g1.symm.trans hj
  injection ex with ex
  subst ex
  have g3 := g2
  obtain ⟨rq, rd, rt⟩ := r
  unfold Qn.dt at g2
  obtain ⟨rp, zs, rfl, hz, hza⟩ := dp_tup g2
  obtain ⟨z1, zr, rfl, c1, hza⟩ := dps_cons hza
  obtain ⟨z2, zr, rfl, c2, hza⟩ := dps_cons hza
  obtain ⟨z3, zr, rfl, c3, hza⟩ := dps_cons hza
  have e4 := dps_nil hza
  subst e4
  cases c1
  cases c2
  exact ⟨_, rp, z3, hr, rfl, hz, c3, g3⟩
theorem twin_some {K : PySem.W.Frag} {H : Hp} {x : V} {o : Option (Int × Int)} (h : Dp K H x (twinDt o)) : decide (x = .non) = !o.isSome := by
  cases o with
  | none =>
    cases h
    rfl
  | some p =>
    obtain ⟨a, xs, rfl, _⟩ := dp_tup h
    rfl
theorem rEq_tell {H : Hp} {o : Option Int} {d : Int} {Q : V → Hp → Prop} (h : Q (.bl (decide (o = some d))) H) : rEq (oV o) (.int d) H Q := by
  cases o with
  | none => exact ⟨rfl, h⟩
  | some i =>
    refine ⟨rfl, ?_⟩
    have e : decide (V.int i = V.int d) = decide (some i = some d) := by
      rw [decide_eq_decide]
      constructor
      · intro e
        injection e with e
        rw [e]
      · intro e
        injection e with e
        rw [e]
    show Q (.bl (decide (V.int i = V.int d))) H
    rw [e]
    exact h
section
variable {P : Program} {w : World} {K : PySem.W.Frag} {mg : Str → Option Value} {base : Heap} {A : Adr}
theorem ok_law_of (ok_heart : Txt K mg A → FnOk P w K mg base CX0 9 A.heart A.heart_ ["machine", "task", "seed"] (spHeart K)) (T : Txt K mg A) : FnOk P w K mg base CX0 10 A.law A.law_ ["_law_script"] (spLaw K) := by
  refine T.law.F.ok sc_law (fun vs H Q E h => ?_) (fun cdv Ar outer s H vs Q E hr h => ?_)
  · obtain ⟨a, ns, rfl, _⟩ := h
    rfl
  · obtain ⟨a, ns, rfl, hS, hlen, k⟩ := h
    refine ⟨_, (pss_cons (ps_set (i := 1) sc_law.nd rfl (Or.inl rfl) (pe_call (ok_dice T) (hr.mono (by decide)) (by rfl) T.dice.n T.dice.F.kp T.dice.b .nil pass0 (pa_cons (pv 0) (pa_cons pe_int pa_nil))))
    (pss_cons (ps_for PassesOwn.never rfl (pi_range1 (by rfl) T.n_range (pa_cons pe_int pa_nil)) (pg_name (i := 2) sc_law.nd rfl (Or.inl rfl))
    (pss_cons (ps_set (i := 3) sc_law.nd rfl (Or.inr rfl) (pe_call (ok_machine T) (hr.mono (by decide)) (by rfl) T.machine.n T.machine.F.kp T.machine.b .nil pass0 (pa_cons (pv 1) pa_nil)))
    (pss_cons (ps_set (i := 4) sc_law.nd rfl (Or.inl rfl) (pe_call (ok_task T) (hr.mono (by decide)) (by rfl) T.task.n T.task.F.kp T.task.b .nil pass0 (pa_cons (pv 1) (pa_cons (pv 3) pa_nil))))
    (pss_cons (ps_set (i := 5) sc_law.nd rfl (Or.inr rfl) (pe_call (ok_off T) (hr.mono (by decide)) (by rfl) T.off.n T.off.F.kp T.off.b .nil pass0 (pa_cons (pv 1) (pa_cons pe_int pa_nil))))
    (pss_cons (ps_setLc (i := 6) (own := [("_law_one", 13)]) (g := gName 13)  rfl sc_law.nd rfl rfl (sw_true rfl rfl rfl (by decide +kernel)) (pi_tup (pe_ix ix_tup (pv 4) pe_int (fun _ _ => rfl))) (blkOk_by (N := N_law) (sc := defScope s_law) (by decide +kernel)) (fun _ _ _ _ _ => pg_name (i := 13) sc_law.nd rfl (Or.inl rfl) (hf := Or.inr rfl)) (fun _ _ _ _ _ => (pts_one (pt_cmpR op_notN (pe_ix (ixK_tup (K := K) rfl) (pv 13) pe_int (fun _ _ => rfl)) pe_non (nomark _)))) (fun _ _ _ _ _ => (pv 13)))
    (pss_cons (ps_set (i := 7) sc_law.nd rfl (Or.inl rfl) (pe_callB call_len_seq (by rfl) T.n_len PySem.boot_len (pa_cons (pe_lc (own := [("_law_one", 13)]) (g := gName 13)  rfl sc_law.nd (pi_list (pv 6)) (blkOk_by (N := N_law) (sc := defScope s_law) (by decide +kernel)) (fun _ _ _ _ _ => pg_name (i := 13) sc_law.nd rfl (Or.inl rfl) (hf := Or.inr rfl)) (fun _ _ _ _ _ => (pts_one (pt_cmpR op_eq (pe_call (ok_told T) (hr.mono (by decide)) (by rfl) T.told.n T.told.F.kp T.told.b .nil pass0 (pa_cons (pv 3) (pa_cons (pe_ix (ixK_tup (K := K) rfl) (pv 13) pe_int (fun _ _ => rfl)) (pa_cons (pv 5) pa_nil)))) (pe_ix (ixK_tup (K := K) rfl) (pv 13) pe_int (fun _ _ => rfl)) (nomark _)))) (fun _ _ _ _ _ => (pv 13))) pa_nil)))
    (pss_cons (ps_set (i := 8) sc_law.nd rfl (Or.inl rfl) (pe_callB call_len_seq (by rfl) T.n_len PySem.boot_len (pa_cons (pe_lc (own := [("_law_one", 13)]) (g := gName 13)  rfl sc_law.nd (pi_list (pv 6)) (blkOk_by (N := N_law) (sc := defScope s_law) (by decide +kernel)) (fun _ _ _ _ _ => pg_name (i := 13) sc_law.nd rfl (Or.inl rfl) (hf := Or.inr rfl)) (fun _ _ _ _ _ => (pts_one (pt_cmpR op_eq (pe_call (ok_told T) (hr.mono (by decide)) (by rfl) T.told.n T.told.F.kp T.told.b .nil pass0 (pa_cons (pv 3) (pa_cons (pe_ix (ixK_tup (K := K) rfl) (pe_ix (ixK_tup (K := K) rfl) (pv 13) pe_int (fun _ _ => rfl)) pe_int (fun _ _ => rfl)) (pa_cons (pv 5) pa_nil)))) (pe_ix (ixK_tup (K := K) rfl) (pe_ix (ixK_tup (K := K) rfl) (pv 13) pe_int (fun _ _ => rfl)) pe_int (fun _ _ => rfl)) (nomark _)))) (fun _ _ _ _ _ => (pv 13))) pa_nil)))
    (pss_cons (ps_set (i := 9) sc_law.nd rfl (Or.inl rfl) (pe_call (ok_ways T) (hr.mono (by decide)) (by rfl) T.ways.n T.ways.F.kp T.ways.b .nil pass0 (pa_cons (pe_callB call_len_seq (by rfl) T.n_len PySem.boot_len (pa_cons (pv 6) pa_nil)) pa_nil)))
    (pss_cons (ps_set (i := 10) sc_law.nd rfl (Or.inl rfl) pe_int)
    (pss_cons (ps_for PassesOwn.never rfl (pi_range2 (by rfl) T.n_range (pa_cons (pv 7) (pa_cons (pe_op op_add (pe_callB call_len_seq (by rfl) T.n_len PySem.boot_len (pa_cons (pv 6) pa_nil)) pe_int) pa_nil))) (pg_name (i := 11) sc_law.nd rfl (Or.inl rfl))
    (pss_one (ps_if (pt_chain op_le op_le pe_int (pe_op op_sub (pe_op op_add (pv 7) (pv 8)) (pv 11)) (pe_callB call_len_seq (by rfl) T.n_len PySem.boot_len (pa_cons (pv 6) pa_nil)))
    (pss_one (ps_set (i := 10) sc_law.nd rfl (Or.inl rfl) (pe_op op_add (pv 10) (pe_op op_mul (pe_ix ix_list (pv 9) (pv 11) (fun _ _ => rfl)) (pe_ix ix_list (pv 9) (pe_op op_sub (pe_op op_add (pv 7) (pv 8)) (pv 11)) (fun _ _ => rfl))))))
    pss_nil)))
    (pss_cons (ps_set (i := 12) sc_law.nd rfl (Or.inl rfl) (pe_tup (pa_cons (pe_callB call_len_seq (by rfl) T.n_len PySem.boot_len (pa_cons (pv 6) pa_nil)) (pa_cons (pv 7) (pa_cons (pv 8) (pa_cons (pv 10) (pa_cons (pe_ix ix_list (pe_call (ok_ways T) (hr.mono (by decide)) (by rfl) T.ways.n T.ways.F.kp T.ways.b .nil pass0 (pa_cons (pe_op op_mul pe_int (pe_callB call_len_seq (by rfl) T.n_len PySem.boot_len (pa_cons (pv 6) pa_nil))) pa_nil)) (pe_op op_add (pv 7) (pv 8)) (fun _ _ => rfl)) pa_nil)))))))
    (pss_one (ps_if (pt_not (pt_val (pe_call (ok_alike T 6) (hr.mono (by decide)) (by rfl) T.alike.n T.alike.F.kp T.alike.b .nil pass0 (pa_cons (pe_callN (ok_heart T) (hr.mono (by decide)) (by rfl) T.heart.n T.heart.F.kp T.heart.kb pass0 (pa_cons (pv 3) (pa_cons (pv 4) pa_nil)) (pk_cons (pv 5) pk_nil)) (pa_cons (pv 12) pa_nil)))))
    (pss_one (ps_ret pe_bl))
    pss_nil)))))))))))))
    (pss_one (ps_ret pe_bl)))), ?_⟩
    refine ⟨_, rfl, a, ns, 0, rfl, hS, hlen, by decide, by decide, fun d H1 xs hd s1 hx dx => ?_⟩
    refine ⟨8, rfl, by decide, by decide, for_range (lo := 0) (n := 8) (fun i σ H' => DS d H' ∧ ∃ x2 x3 x4 x5 x6 x7 x8 x9 x10 x11 x12, σ = [some (.ref a), some (.ref d), x2, x3, x4, x5, x6, x7, x8, x9, x10, x11, x12, none]) ⟨⟨xs, hx, dx⟩, _, _, _, _, _, _, _, _, _, _, _, rfl⟩ ?_ ?_⟩
    · rintro i σ H2 hi ⟨d2, x2, x3, x4, x5, x6, x7, x8, x9, x10, x11, x12, rfl⟩
      refine ⟨_, rfl, d, rfl, d2, fun v m H3 b3 d3 p3 o3 => ?_⟩
      refine ⟨_, rfl, _, rfl, d, v, m, rfl, d3, p3, o3, fun u t H4 b4 d4 p4 o4 => ?_⟩
      refine rd_off rfl d4 (by decide) (by decide) fun z H5 z0 z1 b5 d5 => ?_
      have kt4 := d3.kt (K := K) b4
      have kt5 := d4.kt (K := K) b5
      have p5 := dp_keep (kt4.trans kt5) _ _ (mach_td m) p3
      have q5 := dp_keep kt5 _ _ (task_td t) p4
      obtain ⟨qs, wt⟩ := t
      unfold Task.dt at q5
      obtain ⟨tp, tx, rfl, hs, ha⟩ := dp_tup q5
      obtain ⟨x1, xr, rfl, hq, hw⟩ := dps_cons ha
      obtain ⟨qp, us, rfl, hus, hua⟩ := dp_tup hq
      have lenu : us.length = qs.length := by
        have e := dps_len hua
        rwa [List.length_map] at e
      have len16 : qs.length ≤ 16 := o4.2.1
      refine ⟨_, rfl, tp, _, _, _, rfl, rfl, hs, at0, ?_⟩
      refine ⟨qp, rfl, ⟨_, hus⟩, fun D hD => lc_tup (K := K) (a := qp) (xs := us) (fun i H' => FltI K H5 D qs (fun r => r.twin.isSome) i H') (FltI.nil hD) (fun i H' _ p => KT.same p.1 _ _ hus) ?_ ?_⟩
      · rintro j x H6 hj f6
        obtain ⟨r, rp, tw, hr, rfl, hz, ht, hx⟩ := qrow_at hua hj
        refine ⟨rfl, ?_⟩
        refine ⟨_, rfl, rp, _, _, _, rfl, rfl, KT.same f6.1 _ _ hz, at2, ?_⟩
        refine ⟨rfl, _, rfl, ?_⟩
        rw [twin_some ht]
        refine ite2 (fun e => ?_) (fun e => ?_)
        · exact ⟨_, rfl, f6.yes hD len16 (Same.refl H6) hr (by simpa using e) (dp_same f6.1 _ _ hx)⟩
        · exact f6.no (Same.refl H6) hr (by simpa using e)
      rintro H6 f6
      obtain ⟨s6, ws, h6, a6⟩ := f6
      have et : (qs.take us.length).filter (fun r => r.twin.isSome) = twinned qs := by
        rw [List.take_of_length_le (by omega)]
        rfl
      rw [et] at a6
      have p6 := dp_same s6 _ _ p5
      have lt16 : (twinned qs).length ≤ 16 := by
        have := List.length_filter_le (fun r : Qn => r.twin.isSome) qs
        unfold twinned
        omega
      have lenw : ws.length = (twinned qs).length := by
        have e := dps_len a6
        rwa [List.length_map] at e
      have oq : ∀ r ∈ twinned qs, r.Ok := fun r hr => o4.2.2.1 r (List.mem_filter.mp hr).1
      refine ⟨_, rfl, D, rfl, ⟨_, SqL.of h6⟩, fun D2 hD2 => lc_list (K := K) (a := D) (xs := ws) (fun i H' => FltI K H6 D2 (twinned qs) (Qn.good m z) i H') (FltI.nil hD2) (fun i H' _ p => SqL.of (p.1 _ _ h6)) ?_ ?_⟩
      · rintro j x H7 hj f7
        obtain ⟨r, rp, tw, hr, rfl, hz, ht, hx⟩ := qrow_at a6 hj
        refine ⟨rfl, ?_⟩
        have ro := oq r (List.mem_of_getElem? hr)
        refine ⟨_, rfl, _, rfl, rp, _, _, _, rfl, rfl, KT.same f7.1 _ _ hz, at0, _, rfl, v, m, r.q, z, rfl, dp_same f7.1 _ _ p6, o3, fun H8 s8 => ?_⟩
        refine ⟨_, rfl, rp, _, _, _, rfl, rfl, KT.same (f7.1.trans s8) _ _ hz, at1, ?_⟩
        refine rEq_tell ⟨_, rfl, ?_⟩
        refine ite2 (fun e => ?_) (fun e => ?_)
        · exact ⟨_, rfl, f7.yes hD2 lt16 s8 hr e (dp_same (f7.1.trans s8) _ _ hx)⟩
        · exact f7.no s8 hr (Bool.eq_false_iff.mpr e)
      rintro H7 f7
      obtain ⟨s7, w7, h7, a7⟩ := f7
      have l7 : w7.length = hereN m z qs := by
        have e := dps_len a7
        rw [List.take_of_length_le (by omega), List.length_map] at e
        exact e
      refine ⟨D2, w7, rfl, .inl (SqL.of h7), ?_⟩
      rw [l7]
      have h7d := s7 _ _ h6
      have a7d := dps_same s7 _ _ a6
      have p7 := dp_same s7 _ _ p6
      refine ⟨_, rfl, D, rfl, ⟨_, SqL.of h7d⟩, fun D3 hD3 => lc_list (K := K) (a := D) (xs := ws) (fun i H' => FltI K H7 D3 (twinned qs) (Qn.twinGood m z) i H') (FltI.nil hD3) (fun i H' _ p => SqL.of (p.1 _ _ h7d)) ?_ ?_⟩
      · rintro j x H8 hj f8
        obtain ⟨r, rp, tw, hr, rfl, hz, ht, hx⟩ := qrow_at a7d hj
        have ro := oq r (List.mem_of_getElem? hr)
        have rs : r.twin.isSome = true := (List.mem_filter.mp (List.mem_of_getElem? hr)).2
        cases et2 : r.twin with
        | none =>
          rw [et2] at rs
          cases rs
        | some ye =>
        obtain ⟨y, e⟩ := ye
        have tg : r.twinGood m z = decide (tell y z m = some e) := by
          unfold Qn.twinGood
          rw [et2]
        rw [et2] at ht
        obtain ⟨ty, tz, rfl, hty, hta⟩ := dp_tup ht
        obtain ⟨t1, tr, rfl, c1, hta⟩ := dps_cons hta
        obtain ⟨t2, tr, rfl, c2, hta⟩ := dps_cons hta
        cases c1
        cases c2
        have yo := ro.2.2.2 y e et2
        refine ⟨rfl, ?_⟩
        refine ⟨_, rfl, _, rfl, rp, _, _, _, rfl, rfl, KT.same f8.1 _ _ hz, at2, ty, _, _, _, rfl, rfl, KT.same f8.1 _ _ hty, at0, _, rfl, v, m, y, z, rfl, dp_same f8.1 _ _ p7, o3, fun H9 s9 => ?_⟩
        have s89 := f8.1.trans s9
        refine ⟨_, rfl, rp, _, _, _, rfl, rfl, KT.same s89 _ _ hz, at2, ty, _, _, _, rfl, rfl, KT.same s89 _ _ hty, at1, ?_⟩
        refine rEq_tell ⟨_, rfl, ?_⟩
        refine ite2 (fun e => ?_) (fun e => ?_)
        · exact ⟨_, rfl, f8.yes hD3 lt16 s9 hr (tg.trans e) (dp_same s89 _ _ hx)⟩
        · exact f8.no s9 hr (tg.trans (Bool.eq_false_iff.mpr e))
      rintro H8 f8
      obtain ⟨s8, w8, h8, a8⟩ := f8
      have l8 : w8.length = thereN m z qs := by
        have e := dps_len a8
        rw [List.take_of_length_le (by omega), List.length_map] at e
        exact e
      refine ⟨D3, w8, rfl, .inl (SqL.of h8), ?_⟩
      rw [l8]
      have h8d := s8 _ _ h7d
      refine ⟨_, rfl, D, ws, rfl, .inl (SqL.of h8d), ?_⟩
      rw [lenw]
      have hA : hereN m z qs ≤ (twinned qs).length := List.length_filter_le _ _
      have hB : thereN m z qs ≤ (twinned qs).length := List.length_filter_le _ _
      have hdt : heartDt m z qs = .tuple [.int ((twinned qs).length : Nat), .int (hereN m z qs : Nat), .int (thereN m z qs : Nat), .int (waysN (twinned qs).length (hereN m z qs) (thereN m z qs) : Nat), .int (binom (2 * (twinned qs).length) (hereN m z qs + thereN m z qs) : Nat)] := rfl
      have p8 := dp_same s8 _ _ p7
      have q8 := dp_same (s6.trans (s7.trans s8)) _ _ q5
      have d8 := d5.same (s6.trans (s7.trans s8))
      generalize hereN m z qs = nA at *
      generalize thereN m z qs = nB at *
      generalize (twinned qs).length = nn at *
      refine ⟨nn, rfl, by omega, fun rp9 H9 hr9 s9 h9 => ?_⟩
      have h9d := s9 _ _ h8d
      refine ⟨_, rfl, _, rfl, D, ws, rfl, .inl (SqL.of h9d), ?_⟩
      rw [lenw]
      refine ⟨_, _, rfl, rfl, ?_⟩
      refine ⟨_, _, rfl, ⟨by omega, by omega, by omega, by omega⟩, for_range (lo := (nA : Nat)) (n := ((((nn : Nat) : Int) + 1) - ((nA : Nat) : Int)).toNat) (fun j σ H' => H' = H9 ∧ ∃ x11, σ = [some (.ref a), some (.ref d), some (.int (0 + (i : Int))), some v, some (.ref tp), some (.int z), some (.ref D), some (.int (nA : Nat)), some (.int (nB : Nat)), some (.ref rp9), some (.int ((waysI nn nA nB j : Nat) : Int)), x11, x12, none]) ?_ ?_ ?_⟩
      · exact ⟨rfl, x11, rfl⟩
      · rintro j σ H10 hj ⟨rfl, x11, rfl⟩
        have wst : waysI nn nA nB (j + 1) = waysI nn nA nB j + wayK nn nA nB (nA + j) := by
          unfold waysI
          rw [List.range_succ, List.map_append, List.sum_append]
          simp
        have hk : nA + j ≤ nn := by omega
        refine ⟨_, rfl, _, rfl, _, _, rfl, rfl, _, rfl, _, _, rfl, rfl, _, _, rfl, rfl, _, rfl, ?_⟩
        refine ite2 (fun e1 => ?_) (fun e1 => ?_)
        · have e1 := of_decide_eq_true e1
          refine ⟨_, rfl, D, ws, rfl, .inl (SqL.of h9d), ?_⟩
          rw [lenw]
          refine ⟨_, _, rfl, rfl, _, rfl, ?_⟩
          refine ite2 (fun e2 => ?_) (fun e2 => ?_)
          · have e2 := of_decide_eq_true e2
            have wk : wayK nn nA nB (nA + j) = binom nn (nA + j) * binom nn (nA + nB - (nA + j)) := by
              unfold wayK
              rw [if_pos ⟨by omega, by omega⟩]
            have g1 : atI ((rowL nn).map V.int) ((nA : Int) + (j : Int)) = some (.int ((binom nn (nA + j) : Nat) : Int)) := by
              have e : (nA : Int) + (j : Int) = ((nA + j : Nat) : Int) := by omega
              rw [e]
              refine atI_nat ?_
              rw [List.getElem?_map, rowL_at hk]
              rfl
            have g2 : atI ((rowL nn).map V.int) ((nA : Int) + (nB : Int) - ((nA : Int) + (j : Int))) = some (.int ((binom nn (nA + nB - (nA + j)) : Nat) : Int)) := by
              have e : (nA : Int) + (nB : Int) - ((nA : Int) + (j : Int)) = ((nA + nB - (nA + j) : Nat) : Int) := by omega
              rw [e]
              refine atI_nat ?_
              rw [List.getElem?_map, rowL_at (by omega)]
              rfl
            refine ⟨_, rfl, _, rfl, _, rfl, rp9, _, _, _, rfl, rfl, SqL.of h9, g1, _, rfl, _, rfl, _, rfl, _, _, rfl, rfl, _, rfl, _, _, rfl, rfl, rp9, _, _, _, rfl, rfl, SqL.of h9, g2, _, _, rfl, rfl, ?_, ?_⟩
            · have b1 := binom_le nn (nA + j)
              have b2 : 2 ^ nn ≤ 2 ^ 16 := Nat.pow_le_pow_right (by decide) lt16
              exact .inl ⟨by omega, by omega⟩
            refine ⟨_, _, rfl, rfl, rfl, some (.int ((nA : Int) + (j : Int))), ?_⟩
            have ew : ((waysI nn nA nB (j + 1) : Nat) : Int) = ((waysI nn nA nB j : Nat) : Int) + ((binom nn (nA + j) : Nat) : Int) * ((binom nn (nA + nB - (nA + j)) : Nat) : Int) := by
              rw [wst, wk, Int.natCast_add, Int.natCast_mul]
            rw [ew]
            rfl
          · have e2 := of_decide_eq_false (Bool.eq_false_iff.mpr e2)
            have wk : wayK nn nA nB (nA + j) = 0 := by
              unfold wayK
              rw [if_neg (by omega)]
            refine ⟨rfl, some (.int ((nA : Int) + (j : Int))), ?_⟩
            rw [wst, wk]
            rfl
        · have e1 := of_decide_eq_false (Bool.eq_false_iff.mpr e1)
          have wk : wayK nn nA nB (nA + j) = 0 := by
            unfold wayK
            rw [if_neg (by omega)]
          refine ⟨_, rfl, ?_⟩
          refine iteF ?_
          refine ⟨rfl, some (.int ((nA : Int) + (j : Int))), ?_⟩
          rw [wst, wk]
          rfl
      rintro σ H10 ⟨rfl, x11, rfl⟩
      have ei : ((((nn : Nat) : Int) + 1) - ((nA : Nat) : Int)).toNat = nn + 1 - nA := by omega
      rw [ei]
      refine ⟨_, rfl, D, ws, rfl, .inl (SqL.of h9d), ?_⟩
      rw [lenw]
      refine ⟨_, rfl, _, rfl, _, rfl, _, rfl, D, ws, rfl, .inl (SqL.of h9d), ?_⟩
      rw [lenw]
      refine ⟨_, _, rfl, rfl, .inl ⟨by decide, by decide⟩, ?_⟩
      refine ⟨2 * nn, by rw [Int.natCast_mul]; rfl, by omega, fun rp11 H11 hr11 s11 h11 => ?_⟩
      refine ⟨_, rfl, _, rfl, _, _, rfl, rfl, rp11, _, _, .int ((binom (2 * nn) (nA + nB) : Nat) : Int), rfl, rfl, SqL.of h11, ?_, ?_⟩
      · have e : (nA : Int) + (nB : Int) = ((nA + nB : Nat) : Int) := by omega
        rw [e]
        refine atI_nat ?_
        rw [List.getElem?_map, rowL_at (by omega)]
        rfl
      refine ⟨by show 5 ≤ sizeLine; decide, fun tt htt => ?_⟩
      have e5 : (waysI nn nA nB (nn + 1 - nA)) = waysN nn nA nB := rfl
      rw [e5]
      have s12 := same_put (o := .tup [.int (nn : Nat), .int (nA : Nat), .int (nB : Nat), .int (waysN nn nA nB : Nat), .int (binom (2 * nn) (nA + nB) : Nat)]) (s9.trans s11) ((s9.trans s11).free htt)
      have h12 : Dp K (upd H11 tt (.tup [.int (nn : Nat), .int (nA : Nat), .int (nB : Nat), .int (waysN nn nA nB : Nat), .int (binom (2 * nn) (nA + nB) : Nat)])) (.ref tt) (heartDt m z qs) := by
        rw [hdt]
        exact .tup (SqT.of upd_same) (.cons (.int _) (.cons (.int _) (.cons (.int _) (.cons (.int _) (.cons (.int _) .nil)))))
      have dpt : deep 6 (heartDt m z qs) = true := by
        rw [hdt]
        rfl
      refine ⟨_, rfl, _, rfl, _, rfl, rfl, rfl, v, .ref tp, m, ⟨qs, wt⟩, z, rfl, dp_same s12 _ _ p8, dp_same s12 _ _ q8, o3, o4, z0, by omega, fun u13 H13 s13 h13 => ?_⟩
      refine ⟨_, rfl, u13, .ref tt, _, rfl, h13, dp_same s13 _ _ h12, dpt, fun H14 s14 => ?_⟩
      refine ⟨_, rfl, ?_⟩
      refine iteF ?_
      exact ⟨d8.same (s12.trans (s13.trans s14)), _, _, _, _, _, _, _, _, _, _, _, rfl⟩
    · rintro σ H2 ⟨d2, x2, x3, x4, x5, x6, x7, x8, x9, x10, x11, x12, rfl⟩
      exact k H2
end
end Mh
namespace Mh
open PySem L2
section
variable {P : Program} {w : World} {K : PySem.W.Frag} {mg : Str → Option Value} {base : Heap} {A : Adr}
theorem ok_law (T : Txt K mg A) : FnOk P w K mg base CX0 10 A.law A.law_ ["_law_script"] (spLaw K) := ok_law_of ok_heart T
end
theorem all_mk {l : PySem.W.OpenLaw} {w : World} {K : PySem.W.Frag} {h : Heap} {mg : Str → Option Value} {fa : Addr} (X : K.In h) (G : h.Ns mainGlobals mg) (hfa : mg "law" = some (.ref fa))
    {f0 f1 f2 f3 f4 f5 f6 f7 f8 f9 f10 f11 f12 f13 f14 f15 f16 f17 f18 f19 f20 f21 f22 f23 f24 f25 f26 f27 f28 f29 f30 : Addr}
    {od0 an0 od1 an1 od2 an2 od3 an3 od4 an4 od5 an5 od6 an6 od7 an7 od8 an8 od9 an9 od10 an10 od11 an11 od12 an12 od13 an13 od14 an14 od15 an15 od16 an16 od17 an17 od18 an18 od19 an19 od20 an20 od21 an21 od22 an22 od23 an23 od24 an24 od25 an25 od26 an26 od27 an27 od28 an28 od29 an29 od30 an30 : Option Addr}
    {sl0 sl1 sl2 sl3 sl4 sl5 sl6 sl7 sl8 sl9 sl10 sl11 sl12 sl13 sl14 sl15 sl16 sl17 sl18 sl19 sl20 sl21 sl22 sl23 sl24 sl25 sl26 sl27 sl28 sl29 sl30 : Array (Option Value)}
    {oc0 dc0 pm0 cd0 ct0 kV0 oc1 dc1 pm1 cd1 ct1 kV1 oc2 dc2 pm2 cd2 ct2 kV2 oc3 dc3 pm3 cd3 ct3 kV3 oc4 dc4 pm4 cd4 ct4 kV4 oc5 dc5 pm5 cd5 ct5 kV5 oc6 dc6 pm6 cd6 ct6 kV6 oc7 dc7 pm7 cd7 ct7 kV7 oc8 dc8 pm8 cd8 ct8 kV8 oc9 dc9 pm9 cd9 ct9 kV9 oc10 dc10 pm10 cd10 ct10 kV10 oc11 dc11 pm11 cd11 ct11 kV11 oc12 dc12 pm12 cd12 ct12 kV12 oc13 dc13 pm13 cd13 ct13 kV13 oc14 dc14 pm14 cd14 ct14 kV14 oc15 dc15 pm15 cd15 ct15 kV15 oc16 dc16 pm16 cd16 ct16 kV16 oc17 dc17 pm17 cd17 ct17 kV17 oc18 dc18 pm18 cd18 ct18 kV18 oc19 dc19 pm19 cd19 ct19 kV19 oc20 dc20 pm20 cd20 ct20 kV20 oc21 dc21 pm21 cd21 ct21 kV21 oc22 dc22 pm22 cd22 ct22 kV22 oc23 dc23 pm23 cd23 ct23 kV23 oc24 dc24 pm24 cd24 ct24 kV24 oc25 dc25 pm25 cd25 ct25 kV25 oc26 dc26 pm26 cd26 ct26 kV26 oc27 dc27 pm27 cd27 ct27 kV27 oc28 dc28 pm28 cd28 ct28 kV28 oc29 dc29 pm29 cd29 ct29 kV29 oc30 dc30 pm30 cd30 ct30 kV30 : Value}
    (a0 : PySem.W.nsIn K mainGlobals "is_number" = some (some (.ref f0))) (l0 : K.lookup f0 = some ⟨oc0, od0, .func (PySem.W.fnOf "is_number" "is_number" (defArgs s_is_number) (defBody s_is_number) (defScope s_is_number) .none kV0 dc0 pm0 an0 cd0 ct0), sl0⟩) (c0 : PySem.W.codeIn K cd0 "is_number" = true) (k0 : PySem.W.keepIn K (.ref f0) = true)
    (a1 : PySem.W.nsIn K mainGlobals "is_question" = some (some (.ref f1))) (l1 : K.lookup f1 = some ⟨oc1, od1, .func (PySem.W.fnOf "is_question" "is_question" (defArgs s_is_question) (defBody s_is_question) (defScope s_is_question) .none kV1 dc1 pm1 an1 cd1 ct1), sl1⟩) (c1 : PySem.W.codeIn K cd1 "is_question" = true) (k1 : PySem.W.keepIn K (.ref f1) = true)
    (a2 : PySem.W.nsIn K mainGlobals "is_seed" = some (some (.ref f2))) (l2 : K.lookup f2 = some ⟨oc2, od2, .func (PySem.W.fnOf "is_seed" "is_seed" (defArgs s_is_seed) (defBody s_is_seed) (defScope s_is_seed) .none kV2 dc2 pm2 an2 cd2 ct2), sl2⟩) (c2 : PySem.W.codeIn K cd2 "is_seed" = true) (k2 : PySem.W.keepIn K (.ref f2) = true)
    (a3 : PySem.W.nsIn K mainGlobals "is_divisor" = some (some (.ref f3))) (l3 : K.lookup f3 = some ⟨oc3, od3, .func (PySem.W.fnOf "is_divisor" "is_divisor" (defArgs s_is_divisor) (defBody s_is_divisor) (defScope s_is_divisor) .none kV3 dc3 pm3 an3 cd3 ct3), sl3⟩) (c3 : PySem.W.codeIn K cd3 "is_divisor" = true) (k3 : PySem.W.keepIn K (.ref f3) = true)
    (a4 : PySem.W.nsIn K mainGlobals "is_known" = some (some (.ref f4))) (l4 : K.lookup f4 = some ⟨oc4, od4, .func (PySem.W.fnOf "is_known" "is_known" (defArgs s_is_known) (defBody s_is_known) (defScope s_is_known) .none kV4 dc4 pm4 an4 cd4 ct4), sl4⟩) (c4 : PySem.W.codeIn K cd4 "is_known" = true) (k4 : PySem.W.keepIn K (.ref f4) = true)
    (a5 : PySem.W.nsIn K mainGlobals "is_test" = some (some (.ref f5))) (l5 : K.lookup f5 = some ⟨oc5, od5, .func (PySem.W.fnOf "is_test" "is_test" (defArgs s_is_test) (defBody s_is_test) (defScope s_is_test) .none kV5 dc5 pm5 an5 cd5 ct5), sl5⟩) (c5 : PySem.W.codeIn K cd5 "is_test" = true) (k5 : PySem.W.keepIn K (.ref f5) = true)
    (a6 : PySem.W.nsIn K mainGlobals "is_answer" = some (some (.ref f6))) (l6 : K.lookup f6 = some ⟨oc6, od6, .func (PySem.W.fnOf "is_answer" "is_answer" (defArgs s_is_answer) (defBody s_is_answer) (defScope s_is_answer) .none kV6 dc6 pm6 an6 cd6 ct6), sl6⟩) (c6 : PySem.W.codeIn K cd6 "is_answer" = true) (k6 : PySem.W.keepIn K (.ref f6) = true)
    (a7 : PySem.W.nsIn K mainGlobals "is_row" = some (some (.ref f7))) (l7 : K.lookup f7 = some ⟨oc7, od7, .func (PySem.W.fnOf "is_row" "is_row" (defArgs s_is_row) (defBody s_is_row) (defScope s_is_row) .none kV7 dc7 pm7 an7 cd7 ct7), sl7⟩) (c7 : PySem.W.codeIn K cd7 "is_row" = true) (k7 : PySem.W.keepIn K (.ref f7) = true)
    (a8 : PySem.W.nsIn K mainGlobals "check_machine" = some (some (.ref f8))) (l8 : K.lookup f8 = some ⟨oc8, od8, .func (PySem.W.fnOf "check_machine" "check_machine" (defArgs s_check_machine) (defBody s_check_machine) (defScope s_check_machine) .none kV8 dc8 pm8 an8 cd8 ct8), sl8⟩) (c8 : PySem.W.codeIn K cd8 "check_machine" = true) (k8 : PySem.W.keepIn K (.ref f8) = true)
    (a9 : PySem.W.nsIn K mainGlobals "check_seed" = some (some (.ref f9))) (l9 : K.lookup f9 = some ⟨oc9, od9, .func (PySem.W.fnOf "check_seed" "check_seed" (defArgs s_check_seed) (defBody s_check_seed) (defScope s_check_seed) .none kV9 dc9 pm9 an9 cd9 ct9), sl9⟩) (c9 : PySem.W.codeIn K cd9 "check_seed" = true) (k9 : PySem.W.keepIn K (.ref f9) = true)
    (a10 : PySem.W.nsIn K mainGlobals "does_hold" = some (some (.ref f10))) (l10 : K.lookup f10 = some ⟨oc10, od10, .func (PySem.W.fnOf "does_hold" "does_hold" (defArgs s_does_hold) (defBody s_does_hold) (defScope s_does_hold) .none kV10 dc10 pm10 an10 cd10 ct10), sl10⟩) (c10 : PySem.W.codeIn K cd10 "does_hold" = true) (k10 : PySem.W.keepIn K (.ref f10) = true)
    (a11 : PySem.W.nsIn K mainGlobals "outcome" = some (some (.ref f11))) (l11 : K.lookup f11 = some ⟨oc11, od11, .func (PySem.W.fnOf "outcome" "outcome" (defArgs s_outcome) (defBody s_outcome) (defScope s_outcome) .none kV11 dc11 pm11 an11 cd11 ct11), sl11⟩) (c11 : PySem.W.codeIn K cd11 "outcome" = true) (k11 : PySem.W.keepIn K (.ref f11) = true)
    (a12 : PySem.W.nsIn K mainGlobals "run" = some (some (.ref f12))) (l12 : K.lookup f12 = some ⟨oc12, od12, .func (PySem.W.fnOf "run" "run" (defArgs s_run) (defBody s_run) (defScope s_run) .none kV12 dc12 pm12 an12 cd12 ct12), sl12⟩) (c12 : PySem.W.codeIn K cd12 "run" = true) (k12 : PySem.W.keepIn K (.ref f12) = true)
    (a13 : PySem.W.nsIn K mainGlobals "is_due" = some (some (.ref f13))) (l13 : K.lookup f13 = some ⟨oc13, od13, .func (PySem.W.fnOf "is_due" "is_due" (defArgs s_is_due) (defBody s_is_due) (defScope s_is_due) .none kV13 dc13 pm13 an13 cd13 ct13), sl13⟩) (c13 : PySem.W.codeIn K cd13 "is_due" = true) (k13 : PySem.W.keepIn K (.ref f13) = true)
    (a14 : PySem.W.nsIn K mainGlobals "is_twin" = some (some (.ref f14))) (l14 : K.lookup f14 = some ⟨oc14, od14, .func (PySem.W.fnOf "is_twin" "is_twin" (defArgs s_is_twin) (defBody s_is_twin) (defScope s_is_twin) .none kV14 dc14 pm14 an14 cd14 ct14), sl14⟩) (c14 : PySem.W.codeIn K cd14 "is_twin" = true) (k14 : PySem.W.keepIn K (.ref f14) = true)
    (a15 : PySem.W.nsIn K mainGlobals "is_asked" = some (some (.ref f15))) (l15 : K.lookup f15 = some ⟨oc15, od15, .func (PySem.W.fnOf "is_asked" "is_asked" (defArgs s_is_asked) (defBody s_is_asked) (defScope s_is_asked) .none kV15 dc15 pm15 an15 cd15 ct15), sl15⟩) (c15 : PySem.W.codeIn K cd15 "is_asked" = true) (k15 : PySem.W.keepIn K (.ref f15) = true)
    (a16 : PySem.W.nsIn K mainGlobals "is_framed" = some (some (.ref f16))) (l16 : K.lookup f16 = some ⟨oc16, od16, .func (PySem.W.fnOf "is_framed" "is_framed" (defArgs s_is_framed) (defBody s_is_framed) (defScope s_is_framed) .none kV16 dc16 pm16 an16 cd16 ct16), sl16⟩) (c16 : PySem.W.codeIn K cd16 "is_framed" = true) (k16 : PySem.W.keepIn K (.ref f16) = true)
    (a17 : PySem.W.nsIn K mainGlobals "check_task" = some (some (.ref f17))) (l17 : K.lookup f17 = some ⟨oc17, od17, .func (PySem.W.fnOf "check_task" "check_task" (defArgs s_check_task) (defBody s_check_task) (defScope s_check_task) .none kV17 dc17 pm17 an17 cd17 ct17), sl17⟩) (c17 : PySem.W.codeIn K cd17 "check_task" = true) (k17 : PySem.W.keepIn K (.ref f17) = true)
    (a18 : PySem.W.nsIn K mainGlobals "check_run" = some (some (.ref f18))) (l18 : K.lookup f18 = some ⟨oc18, od18, .func (PySem.W.fnOf "check_run" "check_run" (defArgs s_check_run) (defBody s_check_run) (defScope s_check_run) .none kV18 dc18 pm18 an18 cd18 ct18), sl18⟩) (c18 : PySem.W.codeIn K cd18 "check_run" = true) (k18 : PySem.W.keepIn K (.ref f18) = true)
    (a19 : PySem.W.nsIn K mainGlobals "heart" = some (some (.ref f19))) (l19 : K.lookup f19 = some ⟨oc19, od19, .func (PySem.W.fnOf "heart" "heart" (defArgs s_heart) (defBody s_heart) (defScope s_heart) .none kV19 dc19 pm19 an19 cd19 ct19), sl19⟩) (c19 : PySem.W.codeIn K cd19 "heart" = true) (k19 : PySem.W.keepIn K (.ref f19) = true)
    (a20 : PySem.W.nsIn K mainGlobals "_law_dice" = some (some (.ref f20))) (l20 : K.lookup f20 = some ⟨oc20, od20, .func (PySem.W.fnOf "_law_dice" "_law_dice" (defArgs s_dice) (defBody s_dice) (defScope s_dice) .none kV20 dc20 pm20 an20 cd20 ct20), sl20⟩) (c20 : PySem.W.codeIn K cd20 "_law_dice" = true) (k20 : PySem.W.keepIn K (.ref f20) = true)
    (a21 : PySem.W.nsIn K mainGlobals "_law_off" = some (some (.ref f21))) (l21 : K.lookup f21 = some ⟨oc21, od21, .func (PySem.W.fnOf "_law_off" "_law_off" (defArgs s_off) (defBody s_off) (defScope s_off) .none kV21 dc21 pm21 an21 cd21 ct21), sl21⟩) (c21 : PySem.W.codeIn K cd21 "_law_off" = true) (k21 : PySem.W.keepIn K (.ref f21) = true)
    (a22 : PySem.W.nsIn K mainGlobals "_law_alike" = some (some (.ref f22))) (l22 : K.lookup f22 = some ⟨oc22, od22, .func (PySem.W.fnOf "_law_alike" "_law_alike" (defArgs s_alike) (defBody s_alike) (defScope s_alike) .none kV22 dc22 pm22 an22 cd22 ct22), sl22⟩) (c22 : PySem.W.codeIn K cd22 "_law_alike" = true) (k22 : PySem.W.keepIn K (.ref f22) = true)
    (a23 : PySem.W.nsIn K mainGlobals "_law_mixed" = some (some (.ref f23))) (l23 : K.lookup f23 = some ⟨oc23, od23, .func (PySem.W.fnOf "_law_mixed" "_law_mixed" (defArgs s_mixed) (defBody s_mixed) (defScope s_mixed) .none kV23 dc23 pm23 an23 cd23 ct23), sl23⟩) (c23 : PySem.W.codeIn K cd23 "_law_mixed" = true) (k23 : PySem.W.keepIn K (.ref f23) = true)
    (a24 : PySem.W.nsIn K mainGlobals "_law_test" = some (some (.ref f24))) (l24 : K.lookup f24 = some ⟨oc24, od24, .func (PySem.W.fnOf "_law_test" "_law_test" (defArgs s_test) (defBody s_test) (defScope s_test) .none kV24 dc24 pm24 an24 cd24 ct24), sl24⟩) (c24 : PySem.W.codeIn K cd24 "_law_test" = true) (k24 : PySem.W.keepIn K (.ref f24) = true)
    (a25 : PySem.W.nsIn K mainGlobals "_law_answer" = some (some (.ref f25))) (l25 : K.lookup f25 = some ⟨oc25, od25, .func (PySem.W.fnOf "_law_answer" "_law_answer" (defArgs s_answer) (defBody s_answer) (defScope s_answer) .none kV25 dc25 pm25 an25 cd25 ct25), sl25⟩) (c25 : PySem.W.codeIn K cd25 "_law_answer" = true) (k25 : PySem.W.keepIn K (.ref f25) = true)
    (a26 : PySem.W.nsIn K mainGlobals "_law_machine" = some (some (.ref f26))) (l26 : K.lookup f26 = some ⟨oc26, od26, .func (PySem.W.fnOf "_law_machine" "_law_machine" (defArgs s_machine) (defBody s_machine) (defScope s_machine) .none kV26 dc26 pm26 an26 cd26 ct26), sl26⟩) (c26 : PySem.W.codeIn K cd26 "_law_machine" = true) (k26 : PySem.W.keepIn K (.ref f26) = true)
    (a27 : PySem.W.nsIn K mainGlobals "_law_told" = some (some (.ref f27))) (l27 : K.lookup f27 = some ⟨oc27, od27, .func (PySem.W.fnOf "_law_told" "_law_told" (defArgs s_told) (defBody s_told) (defScope s_told) .none kV27 dc27 pm27 an27 cd27 ct27), sl27⟩) (c27 : PySem.W.codeIn K cd27 "_law_told" = true) (k27 : PySem.W.keepIn K (.ref f27) = true)
    (a28 : PySem.W.nsIn K mainGlobals "_law_task" = some (some (.ref f28))) (l28 : K.lookup f28 = some ⟨oc28, od28, .func (PySem.W.fnOf "_law_task" "_law_task" (defArgs s_task) (defBody s_task) (defScope s_task) .none kV28 dc28 pm28 an28 cd28 ct28), sl28⟩) (c28 : PySem.W.codeIn K cd28 "_law_task" = true) (k28 : PySem.W.keepIn K (.ref f28) = true)
    (a29 : PySem.W.nsIn K mainGlobals "_law_ways" = some (some (.ref f29))) (l29 : K.lookup f29 = some ⟨oc29, od29, .func (PySem.W.fnOf "_law_ways" "_law_ways" (defArgs s_ways) (defBody s_ways) (defScope s_ways) .none kV29 dc29 pm29 an29 cd29 ct29), sl29⟩) (c29 : PySem.W.codeIn K cd29 "_law_ways" = true) (k29 : PySem.W.keepIn K (.ref f29) = true)
    (a30 : PySem.W.nsIn K mainGlobals "law" = some (some (.ref f30))) (l30 : K.lookup f30 = some ⟨oc30, od30, .func (PySem.W.fnOf "law" "law" (defArgs s_law) (defBody s_law) (defScope s_law) .none kV30 dc30 pm30 an30 cd30 ct30), sl30⟩) (c30 : PySem.W.codeIn K cd30 "law" = true) (k30 : PySem.W.keepIn K (.ref f30) = true)
    (z_abs : PySem.W.nsIn K mainGlobals "abs" = some none)
    (z_all : PySem.W.nsIn K mainGlobals "all" = some none)
    (z_bool : PySem.W.nsIn K mainGlobals "bool" = some none)
    (z_enumerate : PySem.W.nsIn K mainGlobals "enumerate" = some none)
    (z_int : PySem.W.nsIn K mainGlobals "int" = some none)
    (z_isinstance : PySem.W.nsIn K mainGlobals "isinstance" = some none)
    (z_len : PySem.W.nsIn K mainGlobals "len" = some none)
    (z_list : PySem.W.nsIn K mainGlobals "list" = some none)
    (z_max : PySem.W.nsIn K mainGlobals "max" = some none)
    (z_range : PySem.W.nsIn K mainGlobals "range" = some none)
    (z_set : PySem.W.nsIn K mainGlobals "set" = some none)
    (z_sorted : PySem.W.nsIn K mainGlobals "sorted" = some none)
    (z_str : PySem.W.nsIn K mainGlobals "str" = some none)
    (z_sum : PySem.W.nsIn K mainGlobals "sum" = some none)
    (z_tuple : PySem.W.nsIn K mainGlobals "tuple" = some none)
    (z_zip : PySem.W.nsIn K mainGlobals "zip" = some none)
    (x_comb : PySem.W.nsIn K mainGlobals "comb" = some (some (.builtin "math.comb")))
    {v_LAST_QUESTION : Value} (y_LAST_QUESTION : PySem.W.nsIn K mainGlobals "LAST_QUESTION" = some (some v_LAST_QUESTION)) (r_LAST_QUESTION : RelV (.int 9999) v_LAST_QUESTION)
    {v_LAST_SEED : Value} (y_LAST_SEED : PySem.W.nsIn K mainGlobals "LAST_SEED" = some (some v_LAST_SEED)) (r_LAST_SEED : RelV (.int 999) v_LAST_SEED)
    {v_MOST_ROWS : Value} (y_MOST_ROWS : PySem.W.nsIn K mainGlobals "MOST_ROWS" = some (some v_MOST_ROWS)) (r_MOST_ROWS : RelV (.int 12) v_MOST_ROWS)
    {v_MOST_KNOWN : Value} (y_MOST_KNOWN : PySem.W.nsIn K mainGlobals "MOST_KNOWN" = some (some v_MOST_KNOWN)) (r_MOST_KNOWN : RelV (.int 8) v_MOST_KNOWN)
    {v_LEAST_DIVISOR : Value} (y_LEAST_DIVISOR : PySem.W.nsIn K mainGlobals "LEAST_DIVISOR" = some (some v_LEAST_DIVISOR)) (r_LEAST_DIVISOR : RelV (.int 2) v_LEAST_DIVISOR)
    {v_MOST_DIVISOR : Value} (y_MOST_DIVISOR : PySem.W.nsIn K mainGlobals "MOST_DIVISOR" = some (some v_MOST_DIVISOR)) (r_MOST_DIVISOR : RelV (.int 99) v_MOST_DIVISOR)
    {v_MOST_IN_ANSWER : Value} (y_MOST_IN_ANSWER : PySem.W.nsIn K mainGlobals "MOST_IN_ANSWER" = some (some v_MOST_IN_ANSWER)) (r_MOST_IN_ANSWER : RelV (.int 9999) v_MOST_IN_ANSWER)
    {v_MOST_QUESTIONS : Value} (y_MOST_QUESTIONS : PySem.W.nsIn K mainGlobals "MOST_QUESTIONS" = some (some v_MOST_QUESTIONS)) (r_MOST_QUESTIONS : RelV (.int 16) v_MOST_QUESTIONS)
    {v_MOST_DUE : Value} (y_MOST_DUE : PySem.W.nsIn K mainGlobals "MOST_DUE" = some (some v_MOST_DUE)) (r_MOST_DUE : RelV (.int 99999999) v_MOST_DUE)
    {v_MOST_WEIGHT : Value} (y_MOST_WEIGHT : PySem.W.nsIn K mainGlobals "MOST_WEIGHT" = some (some v_MOST_WEIGHT)) (r_MOST_WEIGHT : RelV (.int 9) v_MOST_WEIGHT)
    : ∃ fd : FuncData, (∀ (s : Shared) (v : Value), BindsTo s fd ⟨[v], []⟩ [("_law_script", v)]) ∧ ∀ base : Heap, K.In base → base.Ns mainGlobals mg → FnOk l.prog w K mg base CX0 10 fa fd ["_law_script"] (spLaw K) := by
  have e := hfa.symm.trans (PySem.W.mg_of X G a30)
  cases e
  have F0 := fun_mk (st := s_is_number) l0 c0 k0
  have F1 := fun_mk (st := s_is_question) l1 c1 k1
  have F2 := fun_mk (st := s_is_seed) l2 c2 k2
  have F3 := fun_mk (st := s_is_divisor) l3 c3 k3
  have F4 := fun_mk (st := s_is_known) l4 c4 k4
  have F5 := fun_mk (st := s_is_test) l5 c5 k5
  have F6 := fun_mk (st := s_is_answer) l6 c6 k6
  have F7 := fun_mk (st := s_is_row) l7 c7 k7
  have F8 := fun_mk (st := s_check_machine) l8 c8 k8
  have F9 := fun_mk (st := s_check_seed) l9 c9 k9
  have F10 := fun_mk (st := s_does_hold) l10 c10 k10
  have F11 := fun_mk (st := s_outcome) l11 c11 k11
  have F12 := fun_mk (st := s_run) l12 c12 k12
  have F13 := fun_mk (st := s_is_due) l13 c13 k13
  have F14 := fun_mk (st := s_is_twin) l14 c14 k14
  have F15 := fun_mk (st := s_is_asked) l15 c15 k15
  have F16 := fun_mk (st := s_is_framed) l16 c16 k16
  have F17 := fun_mk (st := s_check_task) l17 c17 k17
  have F18 := fun_mk (st := s_check_run) l18 c18 k18
  have F19 := fun_mk (st := s_heart) l19 c19 k19
  have F20 := fun_mk (st := s_dice) l20 c20 k20
  have F21 := fun_mk (st := s_off) l21 c21 k21
  have F22 := fun_mk (st := s_alike) l22 c22 k22
  have F23 := fun_mk (st := s_mixed) l23 c23 k23
  have F24 := fun_mk (st := s_test) l24 c24 k24
  have F25 := fun_mk (st := s_answer) l25 c25 k25
  have F26 := fun_mk (st := s_machine) l26 c26 k26
  have F27 := fun_mk (st := s_told) l27 c27 k27
  have F28 := fun_mk (st := s_task) l28 c28 k28
  have F29 := fun_mk (st := s_ways) l29 c29 k29
  have F30 := fun_mk (st := s_law) l30 c30 k30
  let A : Adr := ⟨f0, PySem.W.fnOf "is_number" "is_number" (defArgs s_is_number) (defBody s_is_number) (defScope s_is_number) .none kV0 dc0 pm0 an0 cd0 ct0, f1, PySem.W.fnOf "is_question" "is_question" (defArgs s_is_question) (defBody s_is_question) (defScope s_is_question) .none kV1 dc1 pm1 an1 cd1 ct1, f2, PySem.W.fnOf "is_seed" "is_seed" (defArgs s_is_seed) (defBody s_is_seed) (defScope s_is_seed) .none kV2 dc2 pm2 an2 cd2 ct2, f3, PySem.W.fnOf "is_divisor" "is_divisor" (defArgs s_is_divisor) (defBody s_is_divisor) (defScope s_is_divisor) .none kV3 dc3 pm3 an3 cd3 ct3, f4, PySem.W.fnOf "is_known" "is_known" (defArgs s_is_known) (defBody s_is_known) (defScope s_is_known) .none kV4 dc4 pm4 an4 cd4 ct4, f5, PySem.W.fnOf "is_test" "is_test" (defArgs s_is_test) (defBody s_is_test) (defScope s_is_test) .none kV5 dc5 pm5 an5 cd5 ct5, f6, PySem.W.fnOf "is_answer" "is_answer" (defArgs s_is_answer) (defBody s_is_answer) (defScope s_is_answer) .none kV6 dc6 pm6 an6 cd6 ct6, f7, PySem.W.fnOf "is_row" "is_row" (defArgs s_is_row) (defBody s_is_row) (defScope s_is_row) .none kV7 dc7 pm7 an7 cd7 ct7, f8, PySem.W.fnOf "check_machine" "check_machine" (defArgs s_check_machine) (defBody s_check_machine) (defScope s_check_machine) .none kV8 dc8 pm8 an8 cd8 ct8, f9, PySem.W.fnOf "check_seed" "check_seed" (defArgs s_check_seed) (defBody s_check_seed) (defScope s_check_seed) .none kV9 dc9 pm9 an9 cd9 ct9, f10, PySem.W.fnOf "does_hold" "does_hold" (defArgs s_does_hold) (defBody s_does_hold) (defScope s_does_hold) .none kV10 dc10 pm10 an10 cd10 ct10, f11, PySem.W.fnOf "outcome" "outcome" (defArgs s_outcome) (defBody s_outcome) (defScope s_outcome) .none kV11 dc11 pm11 an11 cd11 ct11, f12, PySem.W.fnOf "run" "run" (defArgs s_run) (defBody s_run) (defScope s_run) .none kV12 dc12 pm12 an12 cd12 ct12, f13, PySem.W.fnOf "is_due" "is_due" (defArgs s_is_due) (defBody s_is_due) (defScope s_is_due) .none kV13 dc13 pm13 an13 cd13 ct13, f14, PySem.W.fnOf "is_twin" "is_twin" (defArgs s_is_twin) (defBody s_is_twin) (defScope s_is_twin) .none kV14 dc14 pm14 an14 cd14 ct14, f15, PySem.W.fnOf "is_asked" "is_asked" (defArgs s_is_asked) (defBody s_is_asked) (defScope s_is_asked) .none kV15 dc15 pm15 an15 cd15 ct15, f16, PySem.W.fnOf "is_framed" "is_framed" (defArgs s_is_framed) (defBody s_is_framed) (defScope s_is_framed) .none kV16 dc16 pm16 an16 cd16 ct16, f17, PySem.W.fnOf "check_task" "check_task" (defArgs s_check_task) (defBody s_check_task) (defScope s_check_task) .none kV17 dc17 pm17 an17 cd17 ct17, f18, PySem.W.fnOf "check_run" "check_run" (defArgs s_check_run) (defBody s_check_run) (defScope s_check_run) .none kV18 dc18 pm18 an18 cd18 ct18, f19, PySem.W.fnOf "heart" "heart" (defArgs s_heart) (defBody s_heart) (defScope s_heart) .none kV19 dc19 pm19 an19 cd19 ct19, f20, PySem.W.fnOf "_law_dice" "_law_dice" (defArgs s_dice) (defBody s_dice) (defScope s_dice) .none kV20 dc20 pm20 an20 cd20 ct20, f21, PySem.W.fnOf "_law_off" "_law_off" (defArgs s_off) (defBody s_off) (defScope s_off) .none kV21 dc21 pm21 an21 cd21 ct21, f22, PySem.W.fnOf "_law_alike" "_law_alike" (defArgs s_alike) (defBody s_alike) (defScope s_alike) .none kV22 dc22 pm22 an22 cd22 ct22, f23, PySem.W.fnOf "_law_mixed" "_law_mixed" (defArgs s_mixed) (defBody s_mixed) (defScope s_mixed) .none kV23 dc23 pm23 an23 cd23 ct23, f24, PySem.W.fnOf "_law_test" "_law_test" (defArgs s_test) (defBody s_test) (defScope s_test) .none kV24 dc24 pm24 an24 cd24 ct24, f25, PySem.W.fnOf "_law_answer" "_law_answer" (defArgs s_answer) (defBody s_answer) (defScope s_answer) .none kV25 dc25 pm25 an25 cd25 ct25, f26, PySem.W.fnOf "_law_machine" "_law_machine" (defArgs s_machine) (defBody s_machine) (defScope s_machine) .none kV26 dc26 pm26 an26 cd26 ct26, f27, PySem.W.fnOf "_law_told" "_law_told" (defArgs s_told) (defBody s_told) (defScope s_told) .none kV27 dc27 pm27 an27 cd27 ct27, f28, PySem.W.fnOf "_law_task" "_law_task" (defArgs s_task) (defBody s_task) (defScope s_task) .none kV28 dc28 pm28 an28 cd28 ct28, f29, PySem.W.fnOf "_law_ways" "_law_ways" (defArgs s_ways) (defBody s_ways) (defScope s_ways) .none kV29 dc29 pm29 an29 cd29 ct29, fa, PySem.W.fnOf "law" "law" (defArgs s_law) (defBody s_law) (defScope s_law) .none kV30 dc30 pm30 an30 cd30 ct30⟩
  have T : Txt K mg A := {
    n_abs := PySem.W.mg_none_of X G z_abs
    n_all := PySem.W.mg_none_of X G z_all
    n_bool := PySem.W.mg_none_of X G z_bool
    n_enumerate := PySem.W.mg_none_of X G z_enumerate
    n_int := PySem.W.mg_none_of X G z_int
    n_isinstance := PySem.W.mg_none_of X G z_isinstance
    n_len := PySem.W.mg_none_of X G z_len
    n_list := PySem.W.mg_none_of X G z_list
    n_max := PySem.W.mg_none_of X G z_max
    n_range := PySem.W.mg_none_of X G z_range
    n_set := PySem.W.mg_none_of X G z_set
    n_sorted := PySem.W.mg_none_of X G z_sorted
    n_str := PySem.W.mg_none_of X G z_str
    n_sum := PySem.W.mg_none_of X G z_sum
    n_tuple := PySem.W.mg_none_of X G z_tuple
    n_zip := PySem.W.mg_none_of X G z_zip
    m_comb := PySem.W.mg_of X G x_comb
    c_LAST_QUESTION := ⟨_, PySem.W.mg_of X G y_LAST_QUESTION, r_LAST_QUESTION⟩
    c_LAST_SEED := ⟨_, PySem.W.mg_of X G y_LAST_SEED, r_LAST_SEED⟩
    c_MOST_ROWS := ⟨_, PySem.W.mg_of X G y_MOST_ROWS, r_MOST_ROWS⟩
    c_MOST_KNOWN := ⟨_, PySem.W.mg_of X G y_MOST_KNOWN, r_MOST_KNOWN⟩
    c_LEAST_DIVISOR := ⟨_, PySem.W.mg_of X G y_LEAST_DIVISOR, r_LEAST_DIVISOR⟩
    c_MOST_DIVISOR := ⟨_, PySem.W.mg_of X G y_MOST_DIVISOR, r_MOST_DIVISOR⟩
    c_MOST_IN_ANSWER := ⟨_, PySem.W.mg_of X G y_MOST_IN_ANSWER, r_MOST_IN_ANSWER⟩
    c_MOST_QUESTIONS := ⟨_, PySem.W.mg_of X G y_MOST_QUESTIONS, r_MOST_QUESTIONS⟩
    c_MOST_DUE := ⟨_, PySem.W.mg_of X G y_MOST_DUE, r_MOST_DUE⟩
    c_MOST_WEIGHT := ⟨_, PySem.W.mg_of X G y_MOST_WEIGHT, r_MOST_WEIGHT⟩
    is_number := ⟨F0, PySem.W.mg_of X G a0, F0.binds (ps := ["value", "low", "high"]) fun _ _ _ _ _ _ us hl => match us, hl with | [_, _, _], _ => rfl⟩
    is_question := ⟨F1, PySem.W.mg_of X G a1, F1.binds (ps := ["value"]) fun _ _ _ _ _ _ us hl => match us, hl with | [_], _ => rfl⟩
    is_seed := ⟨F2, PySem.W.mg_of X G a2, F2.binds (ps := ["value"]) fun _ _ _ _ _ _ us hl => match us, hl with | [_], _ => rfl⟩
    is_divisor := ⟨F3, PySem.W.mg_of X G a3, F3.binds (ps := ["value"]) fun _ _ _ _ _ _ us hl => match us, hl with | [_], _ => rfl⟩
    is_known := ⟨F4, PySem.W.mg_of X G a4, F4.binds (ps := ["numbers"]) fun _ _ _ _ _ _ us hl => match us, hl with | [_], _ => rfl⟩
    is_test := ⟨F5, PySem.W.mg_of X G a5, F5.binds (ps := ["test"]) fun _ _ _ _ _ _ us hl => match us, hl with | [_], _ => rfl⟩
    is_answer := ⟨F6, PySem.W.mg_of X G a6, F6.binds (ps := ["answer"]) fun _ _ _ _ _ _ us hl => match us, hl with | [_], _ => rfl⟩
    is_row := ⟨F7, PySem.W.mg_of X G a7, F7.binds (ps := ["row"]) fun _ _ _ _ _ _ us hl => match us, hl with | [_], _ => rfl⟩
    check_machine := ⟨F8, PySem.W.mg_of X G a8, F8.binds (ps := ["machine"]) fun _ _ _ _ _ _ us hl => match us, hl with | [_], _ => rfl⟩
    check_seed := ⟨F9, PySem.W.mg_of X G a9, F9.binds (ps := ["seed"]) fun _ _ _ _ _ _ us hl => match us, hl with | [_], _ => rfl⟩
    does_hold := ⟨F10, PySem.W.mg_of X G a10, F10.binds (ps := ["test", "question", "seed"]) fun _ _ _ _ _ _ us hl => match us, hl with | [_, _, _], _ => rfl⟩
    outcome := ⟨F11, PySem.W.mg_of X G a11, F11.binds (ps := ["answer", "question"]) fun _ _ _ _ _ _ us hl => match us, hl with | [_, _], _ => rfl⟩
    run := ⟨F12, PySem.W.mg_of X G a12, F12.binds (ps := ["machine", "question", "seed"]) fun _ _ _ _ _ _ us hl => match us, hl with | [_, _, _], _ => rfl⟩
    is_due := ⟨F13, PySem.W.mg_of X G a13, F13.binds (ps := ["value"]) fun _ _ _ _ _ _ us hl => match us, hl with | [_], _ => rfl⟩
    is_twin := ⟨F14, PySem.W.mg_of X G a14, F14.binds (ps := ["twin"]) fun _ _ _ _ _ _ us hl => match us, hl with | [_], _ => rfl⟩
    is_asked := ⟨F15, PySem.W.mg_of X G a15, F15.binds (ps := ["asked"]) fun _ _ _ _ _ _ us hl => match us, hl with | [_], _ => rfl⟩
    is_framed := ⟨F16, PySem.W.mg_of X G a16, F16.binds (ps := ["task"]) fun _ _ _ _ _ _ us hl => match us, hl with | [_], _ => rfl⟩
    check_task := ⟨F17, PySem.W.mg_of X G a17, F17.binds (ps := ["task"]) fun _ _ _ _ _ _ us hl => match us, hl with | [_], _ => rfl⟩
    check_run := ⟨F18, PySem.W.mg_of X G a18, F18.binds (ps := ["machine", "task", "seed"]) fun _ _ _ _ _ _ us hl => match us, hl with | [_, _, _], _ => rfl⟩
    heart := ⟨F19, PySem.W.mg_of X G a19, ⟨fun s us ws _ h1 h2 => match us, ws, h1, h2 with | [_, _], [_], _, _ => .of_eq rfl, fun r q => r.append q⟩⟩
    dice := ⟨F20, PySem.W.mg_of X G a20, F20.binds (ps := ["_law_script", "_law_k"]) fun _ _ _ _ _ _ us hl => match us, hl with | [_, _], _ => rfl⟩
    off := ⟨F21, PySem.W.mg_of X G a21, F21.binds (ps := ["_law_d", "_law_upto"]) fun _ _ _ _ _ _ us hl => match us, hl with | [_, _], _ => rfl⟩
    alike := ⟨F22, PySem.W.mg_of X G a22, F22.binds (ps := ["_law_found", "_law_due"]) fun _ _ _ _ _ _ us hl => match us, hl with | [_, _], _ => rfl⟩
    mixed := ⟨F23, PySem.W.mg_of X G a23, F23.binds (ps := ["_law_d", "_law_row"]) fun _ _ _ _ _ _ us hl => match us, hl with | [_, _], _ => rfl⟩
    test := ⟨F24, PySem.W.mg_of X G a24, F24.binds (ps := ["_law_d"]) fun _ _ _ _ _ _ us hl => match us, hl with | [_], _ => rfl⟩
    answer := ⟨F25, PySem.W.mg_of X G a25, F25.binds (ps := ["_law_d"]) fun _ _ _ _ _ _ us hl => match us, hl with | [_], _ => rfl⟩
    machine := ⟨F26, PySem.W.mg_of X G a26, F26.binds (ps := ["_law_d"]) fun _ _ _ _ _ _ us hl => match us, hl with | [_], _ => rfl⟩
    told := ⟨F27, PySem.W.mg_of X G a27, F27.binds (ps := ["_law_machine_here", "_law_question", "_law_grain"]) fun _ _ _ _ _ _ us hl => match us, hl with | [_, _, _], _ => rfl⟩
    task := ⟨F28, PySem.W.mg_of X G a28, F28.binds (ps := ["_law_d", "_law_machine_here"]) fun _ _ _ _ _ _ us hl => match us, hl with | [_, _], _ => rfl⟩
    ways := ⟨F29, PySem.W.mg_of X G a29, F29.binds (ps := ["_law_many"]) fun _ _ _ _ _ _ us hl => match us, hl with | [_], _ => rfl⟩
    law := ⟨F30, PySem.W.mg_of X G a30, F30.binds (ps := ["_law_script"]) fun _ _ _ _ _ _ us hl => match us, hl with | [_], _ => rfl⟩
  }
  exact ⟨_, fun s v => .of_eq rfl, fun base _ _ => ok_law (A := A) T⟩
theorem walk {l : PySem.W.OpenLaw} {q : Program} {loose : List Str} {XP : (Str → Option Value) → Heap → Prop} {YP : World → Heap → Prop} {d : DefRec} {K : Params → PySem.W.Frag} (hn : l.most = some 63) (hdf : d.params.defaults = [])
    (hY : ∀ (w : World) (h : Heap), YP w h → (K w.params).In h)
    (F : ∀ (w : World) (mg : Str → Option Value) (fa : Addr) (h : Heap), (K w.params).In h → h.Ns mainGlobals mg → mg d.name = some (.ref fa) →
      ∃ fd : FuncData, (∀ (s : Shared) (u : Value), BindsTo s fd ⟨[u], []⟩ [("_law_script", u)]) ∧ ∀ base : Heap, (K w.params).In base → base.Ns mainGlobals mg → FnOk l.prog w (K w.params) mg base CX0 10 fa fd ["_law_script"] (spLaw (K w.params))) :
    PySem.W.WalkO q loose XP YP l.row.toRowW d [] (fun f vs => PySem.call f vs) :=
  L2.walk_of (n := 63) (k := 10) (x := "_law_script") (CX := fun _ => CX0) (sp := fun w => spLaw (K w.params)) hn (by decide) hdf ⟨rfl, by decide, by decide⟩ hY F (fun _ _ a ns hl _ hS => ⟨a, ns, rfl, hS, hl, fun _ => rfl⟩) fun _ _ _ _ _ z => z
end Mh

open PySem PySem.W PyProof.Rows in
set_option maxRecDepth 100000 in
set_option maxHeartbeats 0 in
theorem PySem.Challenge.cw_measurehall_k08_learnt_by_heart_holds : PySem.Challenge.rw_measurehall_k08_learnt_by_heart.Holds := by
  w_on; o_law; k_head; (case hw => w_witness2)
  k_fill
  refine Mh.walk (l := PySem.Challenge.rw_measurehall_k08_learnt_by_heart) rfl rfl (fun w h Y => PySem.W.kIn_of Y) ?F
  case F =>
    intro w mg fa h KX G hmg
    refine' Mh.all_mk KX G hmg ?a0 ?l0 ?c0 ?k0 ?a1 ?l1 ?c1 ?k1 ?a2 ?l2 ?c2 ?k2 ?a3 ?l3 ?c3 ?k3 ?a4 ?l4 ?c4 ?k4 ?a5 ?l5 ?c5 ?k5 ?a6 ?l6 ?c6 ?k6 ?a7 ?l7 ?c7 ?k7 ?a8 ?l8 ?c8 ?k8 ?a9 ?l9 ?c9 ?k9 ?a10 ?l10 ?c10 ?k10 ?a11 ?l11 ?c11 ?k11 ?a12 ?l12 ?c12 ?k12 ?a13 ?l13 ?c13 ?k13 ?a14 ?l14 ?c14 ?k14 ?a15 ?l15 ?c15 ?k15 ?a16 ?l16 ?c16 ?k16 ?a17 ?l17 ?c17 ?k17 ?a18 ?l18 ?c18 ?k18 ?a19 ?l19 ?c19 ?k19 ?a20 ?l20 ?c20 ?k20 ?a21 ?l21 ?c21 ?k21 ?a22 ?l22 ?c22 ?k22 ?a23 ?l23 ?c23 ?k23 ?a24 ?l24 ?c24 ?k24 ?a25 ?l25 ?c25 ?k25 ?a26 ?l26 ?c26 ?k26 ?a27 ?l27 ?c27 ?k27 ?a28 ?l28 ?c28 ?k28 ?a29 ?l29 ?c29 ?k29 ?a30 ?l30 ?c30 ?k30 ?z_abs ?z_all ?z_bool ?z_enumerate ?z_int ?z_isinstance ?z_len ?z_list ?z_max ?z_range ?z_set ?z_sorted ?z_str ?z_sum ?z_tuple ?z_zip ?x_comb ?y_LAST_QUESTION ?r_LAST_QUESTION ?y_LAST_SEED ?r_LAST_SEED ?y_MOST_ROWS ?r_MOST_ROWS ?y_MOST_KNOWN ?r_MOST_KNOWN ?y_LEAST_DIVISOR ?r_LEAST_DIVISOR ?y_MOST_DIVISOR ?r_MOST_DIVISOR ?y_MOST_IN_ANSWER ?r_MOST_IN_ANSWER ?y_MOST_QUESTIONS ?r_MOST_QUESTIONS ?y_MOST_DUE ?r_MOST_DUE ?y_MOST_WEIGHT ?r_MOST_WEIGHT
    (case a0 => k_is)
    (case l0 => k_is)
    (case c0 => k_is)
    (case k0 => k_is)
    (case a1 => k_is)
    (case l1 => k_is)
    (case c1 => k_is)
    (case k1 => k_is)
    (case a2 => k_is)
    (case l2 => k_is)
    (case c2 => k_is)
    (case k2 => k_is)
    (case a3 => k_is)
    (case l3 => k_is)
    (case c3 => k_is)
    (case k3 => k_is)
    (case a4 => k_is)
    (case l4 => k_is)
    (case c4 => k_is)
    (case k4 => k_is)
    (case a5 => k_is)
    (case l5 => k_is)
    (case c5 => k_is)
    (case k5 => k_is)
    (case a6 => k_is)
    (case l6 => k_is)
    (case c6 => k_is)
    (case k6 => k_is)
    (case a7 => k_is)
    (case l7 => k_is)
    (case c7 => k_is)
    (case k7 => k_is)
    (case a8 => k_is)
    (case l8 => k_is)
    (case c8 => k_is)
    (case k8 => k_is)
    (case a9 => k_is)
    (case l9 => k_is)
    (case c9 => k_is)
    (case k9 => k_is)
    (case a10 => k_is)
    (case l10 => k_is)
    (case c10 => k_is)
    (case k10 => k_is)
    (case a11 => k_is)
    (case l11 => k_is)
    (case c11 => k_is)
    (case k11 => k_is)
    (case a12 => k_is)
    (case l12 => k_is)
    (case c12 => k_is)
    (case k12 => k_is)
    (case a13 => k_is)
    (case l13 => k_is)
    (case c13 => k_is)
    (case k13 => k_is)
    (case a14 => k_is)
    (case l14 => k_is)
    (case c14 => k_is)
    (case k14 => k_is)
    (case a15 => k_is)
    (case l15 => k_is)
    (case c15 => k_is)
    (case k15 => k_is)
    (case a16 => k_is)
    (case l16 => k_is)
    (case c16 => k_is)
    (case k16 => k_is)
    (case a17 => k_is)
    (case l17 => k_is)
    (case c17 => k_is)
    (case k17 => k_is)
    (case a18 => k_is)
    (case l18 => k_is)
    (case c18 => k_is)
    (case k18 => k_is)
    (case a19 => k_is)
    (case l19 => k_is)
    (case c19 => k_is)
    (case k19 => k_is)
    (case a20 => k_is)
    (case l20 => k_is)
    (case c20 => k_is)
    (case k20 => k_is)
    (case a21 => k_is)
    (case l21 => k_is)
    (case c21 => k_is)
    (case k21 => k_is)
    (case a22 => k_is)
    (case l22 => k_is)
    (case c22 => k_is)
    (case k22 => k_is)
    (case a23 => k_is)
    (case l23 => k_is)
    (case c23 => k_is)
    (case k23 => k_is)
    (case a24 => k_is)
    (case l24 => k_is)
    (case c24 => k_is)
    (case k24 => k_is)
    (case a25 => k_is)
    (case l25 => k_is)
    (case c25 => k_is)
    (case k25 => k_is)
    (case a26 => k_is)
    (case l26 => k_is)
    (case c26 => k_is)
    (case k26 => k_is)
    (case a27 => k_is)
    (case l27 => k_is)
    (case c27 => k_is)
    (case k27 => k_is)
    (case a28 => k_is)
    (case l28 => k_is)
    (case c28 => k_is)
    (case k28 => k_is)
    (case a29 => k_is)
    (case l29 => k_is)
    (case c29 => k_is)
    (case k29 => k_is)
    (case a30 => k_is)
    (case l30 => k_is)
    (case c30 => k_is)
    (case k30 => k_is)
    (case z_abs => k_is)
    (case z_all => k_is)
    (case z_bool => k_is)
    (case z_enumerate => k_is)
    (case z_int => k_is)
    (case z_isinstance => k_is)
    (case z_len => k_is)
    (case z_list => k_is)
    (case z_max => k_is)
    (case z_range => k_is)
    (case z_set => k_is)
    (case z_sorted => k_is)
    (case z_str => k_is)
    (case z_sum => k_is)
    (case z_tuple => k_is)
    (case z_zip => k_is)
    (case x_comb => k_is)
    (case y_LAST_QUESTION => k_is)
    (case r_LAST_QUESTION => exact ⟨_, rfl⟩)
    (case y_LAST_SEED => k_is)
    (case r_LAST_SEED => exact ⟨_, rfl⟩)
    (case y_MOST_ROWS => k_is)
    (case r_MOST_ROWS => exact ⟨_, rfl⟩)
    (case y_MOST_KNOWN => k_is)
    (case r_MOST_KNOWN => exact ⟨_, rfl⟩)
    (case y_LEAST_DIVISOR => k_is)
    (case r_LEAST_DIVISOR => exact ⟨_, rfl⟩)
    (case y_MOST_DIVISOR => k_is)
    (case r_MOST_DIVISOR => exact ⟨_, rfl⟩)
    (case y_MOST_IN_ANSWER => k_is)
    (case r_MOST_IN_ANSWER => exact ⟨_, rfl⟩)
    (case y_MOST_QUESTIONS => k_is)
    (case r_MOST_QUESTIONS => exact ⟨_, rfl⟩)
    (case y_MOST_DUE => k_is)
    (case r_MOST_DUE => exact ⟨_, rfl⟩)
    (case y_MOST_WEIGHT => k_is)
    (case r_MOST_WEIGHT => exact ⟨_, rfl⟩)
