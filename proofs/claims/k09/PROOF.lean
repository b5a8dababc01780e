import PyProof.Rows.All
import Wide.All
import OpenK.AllK
import Wide.FinOn
import HandS.ForMost
import HandS.IsInst
import HandS.Strs
import HandS.SetFor
import HandS.TupAny
import HandS.Zip
import HandS.Walk
import HandS.Conv
import KE.GoesEnum
import HandS.Evl
import HandS.Defaults
import HandS.DictComp
import HandS.Gcd
import KE.RegKMathGC
import PySem.Challenge.RW_measurehall_k09_whole_ways_tried
set_option Elab.async false
set_option linter.all false
set_option maxRecDepth 100000
set_option maxHeartbeats 4000000
/-! Rules that the laws of Measurehall want beside the hand layer: match over tuples, enumerate over a tuple, set of a list of ints. -/
namespace Mh
open PySem L2

/-! ### match -/
abbrev BS := Option (List (Str × V))
/-- what is caught, by values and by the machine's values -/
def RelB : BS → Option (List (Str × Value)) → Prop
  | none, none => True
  | some l, some m => KV l m
  | _, _ => False
theorem kv_app {a b : List (Str × V)} {c d : List (Str × Value)} (h : KV a c) (g : KV b d) : KV (a ++ b) (c ++ d) := by
  induction h with
  | nil => exact g
  | cons r _ ih => exact .cons r ih
abbrev TP := V → St → Hp → (BS → Hp → Prop) → Prop
abbrev TPs := List V → St → Hp → (BS → Hp → Prop) → Prop
abbrev TC := V → TS
structure PP (X : Cx) (p : Pattern) (t : TP) : Prop where
  run : ∀ (pins : List (Addr × Obj)) (s : Shared) (σ : St) (H : Hp) (v : V) (u : Value) (Q : BS → Hp → Prop), Inv X pins σ H s → RelV v u → t v σ H Q →
    wpAny (model X.prog X.w) X.A (matchPattern p X.env u) (fun r s1 => ∃ r' H1, Inv X pins σ H1 s1 ∧ RelB r' r ∧ Q r' H1) X.xe s
structure PPq (X : Cx) (ps : List Pattern) (t : TPs) : Prop where
  run : ∀ (pins : List (Addr × Obj)) (s : Shared) (σ : St) (H : Hp) (vs : List V) (us : List Value) (Q : BS → Hp → Prop), Inv X pins σ H s → Vals vs us → vs.length = ps.length → t vs σ H Q →
    wpAny (model X.prog X.w) X.A (matchEach ps X.env us) (fun r s1 => ∃ r' H1, Inv X pins σ H1 s1 ∧ RelB r' r ∧ Q r' H1) X.xe s
structure PPo (X : Cx) (ps : List Pattern) (t : TP) : Prop where
  run : ∀ (pins : List (Addr × Obj)) (s : Shared) (σ : St) (H : Hp) (v : V) (u : Value) (Q : BS → Hp → Prop), Inv X pins σ H s → RelV v u → t v σ H Q →
    wpAny (model X.prog X.w) X.A (matchFirst ps X.env u) (fun r s1 => ∃ r' H1, Inv X pins σ H1 s1 ∧ RelB r' r ∧ Q r' H1) X.xe s
structure PCs (X : Cx) (cs : List MatchCase) (t : TC) : Prop where
  run : ∀ (fst : Bool) (pins : List (Addr × Obj)) (s : Shared) (σ : St) (H : Hp) (v : V) (u : Value) (D : Ends), Inv X pins σ H s → RelV v u → t v D σ H →
    wpAny (model X.prog X.w) X.A (matchCases cs X.env u fst) (SP X pins D) X.xe s
section
variable {X : Cx}
/-- a text as a pattern -/
def mStr (x : Str) : TP := fun v _ H Q => scal v (.str x) = true ∧ if v = .str x then Q (some []) H else Q none H
theorem ifp {c A B : Prop} [Decidable c] (h : c) (a : A) : if c then A else B := by
  rw [if_pos h]
  exact a
theorem ifn {c A B : Prop} [Decidable c] (h : ¬ c) (b : B) : if c then A else B := by
  rw [if_neg h]
  exact b
theorem pp_str {x : Str} {j : Nat} {p1 p2 : Pos} : PP X (.MatchValue (.Constant (.str x) j p1) p2) (mStr x) := by
  refine ⟨fun pins s σ H v u Q I r h => ?_⟩
  obtain ⟨hs, q⟩ := h
  refine wpAny_matchPattern_Value ?_
  refine thn ((pe_str (X := X)).run pins s σ H (fun y H1 => y = .str x ∧ H1 = H) I ⟨rfl, rfl⟩) fun c s1 ⟨y, H1, I1, r1, e1, e2⟩ => ?_
  subst e1 e2
  refine thn (op_eq (X := X) pins s1 σ H1 v (.str x) u c (fun y H2 => y = .bl (decide (v = .str x)) ∧ H2 = H1) I1 r r1 ⟨hs, rfl, rfl⟩) fun d s2 ⟨y, H2, I2, r2, e1, e2⟩ => ?_
  subst e1 e2
  cases r2
  refine wpAny_truthy_bool ?_
  by_cases hv : v = .str x
  · rw [decide_eq_true hv]
    refine ⟨some [], H2, I2, .nil, ?_⟩
    rw [if_pos hv] at q
    exact q
  · rw [decide_eq_false hv]
    refine ⟨none, H2, I2, True.intro, ?_⟩
    rw [if_neg hv] at q
    exact q
/-- a name as a pattern; _ -/
def mName (x : Str) : TP := fun v _ H Q => Q (some [(x, v)]) H
def mAny : TP := fun _ _ H Q => Q (some []) H
theorem pp_name {x : Str} {p : Pos} : PP X (.MatchAs none (some x) p) (mName x) :=
  ⟨fun pins s σ H v u Q I r h => wpAny_matchPattern_Capture ⟨some [(x, v)], H, I, .cons ⟨rfl, r⟩ .nil, h⟩⟩
theorem pp_any {p : Pos} : PP X (.MatchAs none none p) mAny :=
  ⟨fun pins s σ H v u Q I r h => wpAny_matchPattern_Capture ⟨some [], H, I, .nil, h⟩⟩
/-- one of some texts -/
def oNil : TP := fun _ _ H Q => Q none H
def oCons (t u : TP) : TP := fun v σ H Q => t v σ H fun r H1 => match r with
  | some bs => Q (some bs) H1
  | none => u v σ H1 Q
theorem ppo_nil : PPo X [] oNil := ⟨fun pins s σ H v u Q I r h => wpAny_matchFirst_nil ⟨none, H, I, True.intro, h⟩⟩
theorem ppo_cons {p : Pattern} {ps : List Pattern} {t u : TP} (hp : PP X p t) (hq : PPo X ps u) : PPo X (p :: ps) (oCons t u) := by
  refine ⟨fun pins s σ H v w' Q I r h => wpAny_matchFirst_cons (thn (hp.run pins s σ H v w' _ I r h) fun b s1 ⟨b', H1, I1, rb, q⟩ => ?_)⟩
  cases b with
  | none =>
    cases b' with
    | none => exact hq.run pins s1 σ H1 v w' Q I1 r q
    | some _ => exact (show False from rb).elim
  | some l =>
    cases b' with
    | none => exact (show False from rb).elim
    | some l' => exact ⟨some l', H1, I1, rb, q⟩
def mOr (t : TP) : TP := fun v σ H Q => t v σ H fun r H1 => match r with
  | some _ => Q (some []) H1
  | none => Q none H1
theorem pp_or {ps : List Pattern} {t : TP} {p : Pos} (hp : PPo X ps t) (hn : namesOfAll (ps.take 1) = [] := by rfl) : PP X (.MatchOr ps p) (mOr t) := by
  refine ⟨fun pins s σ H v u Q I r h => wpAny_matchPattern_Or (thn (hp.run pins s σ H v u _ I r h) fun b s1 ⟨b', H1, I1, rb, q⟩ => ?_)⟩
  cases b with
  | none =>
    cases b' with
    | none => exact ⟨none, H1, I1, True.intro, q⟩
    | some _ => exact (show False from rb).elim
  | some l =>
    cases b' with
    | none => exact (show False from rb).elim
    | some l' =>
      refine ⟨some [], H1, I1, ?_, q⟩
      rw [hn]
      exact .nil
/-- the items, from the left -/
def qNil : TPs := fun _ _ H Q => Q (some []) H
def qCons (t : TP) (u : TPs) : TPs := fun vs σ H Q => ∃ v r, vs = v :: r ∧ t v σ H fun b H1 => match b with
  | none => Q none H1
  | some bs => u r σ H1 fun c H2 => match c with
    | none => Q none H2
    | some cs => Q (some (bs ++ cs)) H2
theorem ppq_nil : PPq X [] qNil := ⟨fun pins s σ H vs us Q I r _ h => wpAny_matchEach_nil ⟨some [], H, I, .nil, h⟩⟩
theorem ppq_cons {p : Pattern} {ps : List Pattern} {t : TP} {u : TPs} (hp : PP X p t) (hq : PPq X ps u) (hs : p.isStar = false := by rfl) : PPq X (p :: ps) (qCons t u) := by
  refine ⟨fun pins s σ H vs us Q I r hl h => ?_⟩
  obtain ⟨v, vr, e, h⟩ := h
  subst e
  cases r with
  | cons r rr =>
    refine wpAny_matchEach_cons (thn (hp.run pins s σ H v _ _ I r h) fun b s1 ⟨b', H1, I1, rb, q⟩ => ?_) hs
    cases b with
    | none =>
      cases b' with
      | none => exact ⟨none, H1, I1, True.intro, q⟩
      | some _ => exact (show False from rb).elim
    | some l =>
      cases b' with
      | none => exact (show False from rb).elim
      | some l' =>
        refine thn (hq.run pins s1 σ H1 vr _ _ I1 rr (by simpa using hl) q) fun c s2 ⟨c', H2, I2, rc, q2⟩ => ?_
        cases c with
        | none =>
          cases c' with
          | none => exact ⟨none, H2, I2, True.intro, q2⟩
          | some _ => exact (show False from rc).elim
        | some m =>
          cases c' with
          | none => exact (show False from rc).elim
          | some m' => exact ⟨some (l' ++ m'), H2, I2, kv_app rb rc, q2⟩
def mSeq (K : PySem.W.Frag) (n : Nat) (t : TPs) : TP := fun v σ H Q => ∃ a xs, v = .ref a ∧ SqT K H a xs ∧ if xs.length = n then t xs σ H Q else Q none H
theorem pp_seq {ps : List Pattern} {t : TPs} {p : Pos} (hp : PPq X ps t) (hc : X.calm = true := by rfl) (hst : ps.findIdx? (·.isStar) = none := by rfl)
    (hw : (ps.all fun p => p.isWildcard || (p.isStar && p.names.isEmpty)) = false := by rfl) : PP X (.MatchSequence ps p) (mSeq X.K ps.length t) := by
  refine ⟨fun pins s σ H v u Q I r h => ?_⟩
  obtain ⟨a, xs, e, hq, h⟩ := h
  subst e
  cases r
  obtain ⟨its, rv, ht, hz⟩ := I.tuple hq
  have hlen := rv.length
  have hs : sizeLine = 16777216 := sizeLine_eq
  have hfit : ((its.toArray.size : Nat) : Int) < 2 ^ 63 := by
    simp only [List.size_toArray]
    omega
  by_cases hn : xs.length = ps.length
  · rw [if_pos hn] at h
    refine PyProof.Rows.matchSeq_tuple_hit ht hfit (by simp only [List.size_toArray]; omega) ?_ hst hw
    have hz2 : its.toArray.size = ps.length := by
      simp only [List.size_toArray]
      omega
    rw [← hz2]
    refine PyProof.Rows.unpackItems_tuple (I.ok.hd hc) ht fun h' hx => ?_
    exact hp.run pins _ σ H xs _ Q (I.kept (h' := h') fun b o e => hx b o (Nat.ne_of_lt (Heap.lt_size e)) e) (by simpa using rv) hn h
  · rw [if_neg hn] at h
    exact PyProof.Rows.matchSeq_tuple_miss ht hfit (by simp only [List.size_toArray]; omega) ⟨none, H, I.tok _, True.intro, h⟩ hst hw

/-! ### the cases -/
def setAll : St → List Nat → List V → St
  | σ, i :: is, v :: vs => setAll (σ.set i (some v)) is vs
  | σ, _, _ => σ
theorem bind_all {pins : List (Addr × Obj)} {H : Hp} {Q : Unit → Shared → Prop} : ∀ (own : List (Str × Nat)) (l : List (Str × V)) (m : List (Str × Value)) (s : Shared) (σ : St), Inv X pins σ H s → KV l m →
    l.map (·.1) = own.map (·.1) → X.N.Nodup → (∀ p ∈ own, X.N[p.2]? = some p.1 ∧ Loc X.env.scope p.1 ∧ (X.fn p.1 = true ∨ X.env.scope.names.lookup p.1 = some .local)) →
    (∀ s', Inv X pins (setAll σ (own.map (·.2)) (l.map (·.2))) H s' → Q () s') →
    wpAny (model X.prog X.w) X.A (assignInOrder (m.map fun (n, _) => bindName X.env n) (m.map (·.2))) Q X.xe s
  | [], [], _, s, σ, I, r, _, _, _, k => by
    cases r
    exact wpAny_assignInOrder_none (k s I)
  | [], _ :: _, _, _, _, _, _, e, _, _, _ => by simp at e
  | _ :: _, [], _, _, _, _, _, e, _, _, _ => by simp at e
  | (x, i) :: own, (y, v) :: l, _, s, σ, I, r, e, hN, ho, k => by
    cases r with
    | @cons _ q _ m r rr =>
      obtain ⟨z, u⟩ := q
      obtain ⟨e1, rv⟩ : y = z ∧ RelV v u := r
      have e2 : y = x ∧ l.map (·.1) = own.map (·.1) := by simpa using e
      obtain ⟨ex, el⟩ := e2
      subst e1
      subst ex
      obtain ⟨h1, h2, h3⟩ := ho (y, i) List.mem_cons_self
      refine wpAny_assignInOrder_more ?_
      show wpAny _ X.A (bindName X.env y u) _ _ _
      unfold bindName
      refine wpAny_bind (wpAny_holding (wpAny_point (wpAny_bind (store_ok I hN h1 h2 rv (fun s1 I1 => wpAny_point ?_) h3))))
      exact bind_all own l m s1 _ I1 rr el hN (fun p hp => ho p (List.mem_cons_of_mem _ hp)) k
def cNil : TC := fun _ D σ H => D.nx σ H
def cCons (t : TP) (own : List (Str × Nat)) (b : TS) (u : TC) : TC := fun v D σ H => t v σ H fun r H1 => match r with
  | none => u v D σ H1
  | some bs => bs.map (·.1) = own.map (·.1) ∧ b D (setAll σ (own.map (·.2)) (bs.map (·.2))) H1
theorem pcs_nil : PCs X [] cNil := ⟨fun _ pins s σ H v u D I r h => wpAny_matchCases_nil ⟨σ, H, I, h⟩⟩
theorem pcs_cons {p : Pattern} {body : List Stmt} {cs : List MatchCase} {t : TP} {b : TS} {u : TC} (own : List (Str × Nat)) (hN : X.N.Nodup)
    (ho : ∀ p ∈ own, X.N[p.2]? = some p.1 ∧ Loc X.env.scope p.1 ∧ (X.fn p.1 = true ∨ X.env.scope.names.lookup p.1 = some .local))
    (hp : PP X p t) (hb : PSs X body b) (hc : PCs X cs u) : PCs X (⟨p, none, body⟩ :: cs) (cCons t own b u) := by
  refine ⟨fun fst pins s σ H v w' D I r h => wpAny_matchCases_cons (thn (hp.run pins s σ H v w' _ I r h) fun c s1 ⟨c', H1, I1, rc, q⟩ => ?_)⟩
  cases c with
  | none =>
    cases c' with
    | none => exact hc.run false pins s1 σ H1 v w' D I1 r q
    | some _ => exact (show False from rc).elim
  | some m =>
    cases c' with
    | none => exact (show False from rc).elim
    | some l =>
      obtain ⟨e, q⟩ := q
      exact bind_all own l m s1 σ I1 rc e hN ho fun s2 I2 => hb.run pins s2 _ H1 D I2 q
theorem own0 {P : Str × Nat → Prop} : ∀ p ∈ ([] : List (Str × Nat)), P p := fun p hp => absurd hp (by simp)
theorem ownC {P : Str × Nat → Prop} {q : Str × Nat} {l : List (Str × Nat)} (h : P q) (hl : ∀ p ∈ l, P p) : ∀ p ∈ q :: l, P p := fun p hp => by
  rcases List.mem_cons.mp hp with e | e
  · rw [e]
    exact h
  · exact hl p e
def tMatch (te : TE) (c : TC) : TS := fun D σ H => te σ H fun v H1 => c v D σ H1
theorem ps_match {e : Expr} {cs : List MatchCase} {te : TE} {c : TC} {p : Pos} (he : PE X e te) (hc : PCs X cs c) : PS X (.Match e cs p) (tMatch te c) := by
  refine ⟨fun pins s σ H D I h => wpAny_Match (thn (he.run pins s σ H _ I h) fun u s1 ⟨v, H1, I1, r, q⟩ => ?_)⟩
  exact hc.run true pins s1 σ H1 v u D I1 r q
end
end Mh
namespace Mh
open PySem L2

/-! ### enumerate(v), v told by what its iterator draws -/
theorem meetsEnum {v : Value} {cell : Obj} {Z : Heap → Prop} (bg : Begins v cell Z) :
    Meets (Builtin.«enumerate.__new__» ⟨[.type "enumerate", v], []⟩) (fun _ R s => Z s.heap ∧
      R (.ok (.ret (.ref (s.heap.push cell).objs.size)))
        { s with heap := (s.heap.push cell).push { cls := .type "enumerate", data := .fields #[.none, .bool false, .ref s.heap.objs.size, rawInt 0, .none, .none] } }) :=
  .of_wp fun prog w A R s given => by
    obtain ⟨hp, gs, dr, tk, os⟩ := s
    obtain ⟨g1, g2⟩ := given
    have below := sub_enumerate
    have it1 : ∀ {B : Around} {E : Value → Shared → Prop} {Q : Value → Shared → Prop}, Q (.ref hp.objs.size) ⟨hp.push cell, gs, dr, tk, os⟩ → wpAny (model prog w) B (pyIter v) Q E ⟨hp, gs, dr, tk, os⟩ :=
      fun q => bg.iter prog w _ _ ⟨hp, gs, dr, tk, os⟩ _ g1 q
    wp_walk using it1
    refine wpAny_stack_any fun stk => wpAny_pure ?_
    split
    · rename_i c _ _ _ _ _
      cases (c == Value.type "enumerate") <;> (wp_walk using it1; exact ⟨_, rfl, g2⟩)
    · wp_walk using it1
      exact ⟨_, rfl, g2⟩
section
variable {prog : Program} {w : World} {A : Around} {E : Value → Shared → Prop} {s : Shared}
theorem enum1 {v : Value} {cell : Obj} {Z : Heap → Prop} {Q : Value → Shared → Prop} (bg : Begins v cell Z) (g1 : Z s.heap)
    (k : ∀ h', IsEnum h' (s.heap.objs.size + 1) s.heap.objs.size 0 .none → h'.get? s.heap.objs.size = some cell → h'.objs.size = s.heap.objs.size + 2 →
      (∀ b o, s.heap.get? b = some o → h'.get? b = some o) → Q (.ref (s.heap.objs.size + 1)) { s with heap := h' }) :
    wpAny (model prog w) A (call (.type "enumerate") [v]) Q E s := by
  refine callType_new F.called_enumerate (by decide) (F.typeCall_enumerate_1 _) (F.newCall_enumerate_1 _) (fun obj => F.args_object_init_2 obj _) F.entry_enumerate_new (meetsEnum bg) ⟨g1, ?_⟩
  have size1 : (s.heap.push cell).objs.size = s.heap.objs.size + 1 := Heap.size_push ..
  show _ ∧ _
  rw [size1]
  have made : IsEnum ((s.heap.push cell).push { cls := .type "enumerate", data := .fields #[.none, .bool false, .ref s.heap.objs.size, rawInt 0, .none, .none] }) (s.heap.objs.size + 1) s.heap.objs.size 0 .none := by
    have z := Heap.get?_push_size (s.heap.push cell) (o := { cls := .type "enumerate", data := .fields #[.none, .bool false, .ref s.heap.objs.size, rawInt 0, .none, .none] }) rfl
    rw [size1] at z
    exact z
  exact ⟨⟨_, made, rfl⟩, k _ made (Heap.get?_push_of_some _ (Heap.get?_push_size _ bg.free)) (by rw [Heap.size_push, size1]) fun b o x => Heap.get?_push_of_some _ (Heap.get?_push_of_some _ x)⟩
end
/-- the tuple at a, each item in a new pair with its number -/
def IteT (K : PySem.W.Frag) (a : Addr) : It where
  go := fun i H => ∃ (xs : List V) (x : V), SqT K H a xs ∧ xs[i]? = some x
  yld := fun i H v H' => ∃ T x, v = .ref T ∧ H T = none ∧ H' = upd H T (.tup [.int (i : Nat), x]) ∧ ∀ xs, SqT K H a xs → xs[i]? = some x
  stop := fun i H => ∃ xs : List V, SqT K H a xs ∧ xs.length ≤ i
theorem turn_enumT {P : Program} {w : World} {K : PySem.W.Frag} {elts : List Expr} {kk : Nat} {tpos : Pos} (a e it : Addr) (items : Array Value) (hne : e ≠ it) (hea : e ≠ a) (hia : a ≠ it) :
    Turn P w K (.Tuple elts kk tpos) (IteT K a) [e, it] e (fun i h => (∃ old, IsEnum h e it ((i : Nat) : Int) old) ∧ h.IsTupleIter it a i) where
  mem := by simp
  obj := fun i h st b hb => by
    obtain ⟨⟨old, he⟩, o, ho, hc, hd⟩ := st
    have hb' : b = e ∨ b = it := by simpa using hb
    rcases hb' with z | z
    · rw [z]
      exact ⟨_, he, fun v q => nomatch q⟩
    · rw [z]
      exact ⟨o, ho, fun v q => by rw [hd] at q; cases q⟩
  keep := fun i h h' st k => let ⟨⟨old, he⟩, hi⟩ := st; ⟨⟨old, k e (by simp) _ he⟩, hi.at fun o q => k it (by simp) o q⟩
  item := by
    intro X hP hw hK hc i pins s σ H E I hf st hg
    subst hP hw hK
    obtain ⟨⟨old, he⟩, hit⟩ := st
    obtain ⟨xs, x, hq, hx⟩ := hg
    obtain ⟨its, rv, p, hz⟩ := I.tuple hq
    obtain ⟨u, hu, ru⟩ := rv.get hx
    have sz := rv.length
    have hil : i < its.toArray.size := by
      have z := (List.getElem?_eq_some_iff.mp hx).1
      simp only [List.size_toArray]
      omega
    have hel : e < s.heap.objs.size := Heap.lt_size he
    have hitl : it < s.heap.objs.size := by obtain ⟨_, q, _⟩ := hit; exact Heap.lt_size q
    have hh1 : X.A.in1.handled = none := I.ok.hd hc
    refine wpAny_pyNext_enum_itemD (Draws.tuple hh1 it a hia its.toArray) he ⟨hit, show s.heap.IsTuple a its.toArray from p⟩ hil hne (by simp [hne, hea]) fun y h' tk hy ho hst' hT hsz hk => ?_
    have ey : y = u := by
      rw [List.getElem?_toArray] at hy
      rw [hu] at hy
      exact (Option.some.inj hy).symm
    subst ey
    refine ⟨_, rfl, wpAny_letOwnedTupleGo_enum (s := { s with heap := h', toks := tk + 1 }) ho fun h2 he2 sb => ?_⟩
    have hT2 : h2.get? s.heap.objs.size = some { cls := .type "tuple", data := .seq #[.int i tk, y] } := (sb.2 _ (Nat.ne_of_gt hel)).trans hT
    have new : ObjOk X.prog X.w (upd H s.heap.objs.size (.tup [.int (i : Nat), x])) h2 s.heap.objs.size (.tup [.int (i : Nat), x]) :=
      ⟨by show 2 ≤ sizeLine; decide, [.int i tk, y], .cons ⟨_, rfl⟩ (.cons ru .nil), ⟨_, hT2, rfl, _, rfl⟩⟩
    have I1 : Inv X pins σ (upd H s.heap.objs.size (.tup [.int (i : Nat), x])) { s with heap := h2, toks := tk + 1 } :=
      I.turnedNew (ch := [e, it]) (fun b ob hb q => (sb.2 b (fun z => hb (by simp [z]))).trans (hk b ob (fun z => hb (by simp [z])) (fun z => hb (by simp [z])) q)) hf (Nat.le_refl _) new
    refine ⟨.ref s.heap.objs.size, _, I1, rfl, ⟨_, x, rfl, I.hok.fresh (Nat.le_refl _), rfl, fun ys hy2 => by rw [I.tuple_inj hy2 hq]; exact hx⟩, ⟨⟨y, ?_⟩, hst'.1.at fun o q => (sb.2 it (Ne.symm hne)).trans q⟩, fun b hb => ?_⟩
    · have e1 : ((i + 1 : Nat) : Int) = (i : Int) + 1 := by omega
      rw [e1]
      exact he2
    · have hb' : b = e ∨ b = it := by simpa using hb
      have hlt : b < s.heap.objs.size := by
        rcases hb' with z | z
        · rw [z]; exact hel
        · rw [z]; exact hitl
      rw [upd_ne (Nat.ne_of_lt hlt)]
      exact (hf b hb).1
  done := by
    intro X hP hw hK hc i pins s σ H E I hf st hg
    subst hP hw hK
    obtain ⟨⟨old, he⟩, hit⟩ := st
    obtain ⟨xs, hq, hx⟩ := hg
    obtain ⟨its, rv, p, hz⟩ := I.tuple hq
    have sz := rv.length
    obtain ⟨f0, f1, f2, f3, f4, f5⟩ := hf it (by simp)
    have hh1 : X.A.in1.handled = none := I.ok.hd hc
    have D0 : Draws X.prog X.w X.A.in1 it [it, a] i (fun _ _ => True) (fun j h => j = i ∧ h.IsTupleIter it a j ∧ h.IsTuple a its.toArray) := {
      live := fun _ _ z => let ⟨o, ho, _⟩ := z.2.1; ⟨o, ho⟩
      frame := fun _ _ _ z hk => ⟨z.1, z.2.1.at fun o q => hk it (by simp) o q, z.2.2.at fun o q => hk a (by simp) o q⟩
      item := fun j s2 Q E2 hj z k => absurd z.1 (Nat.ne_of_lt hj)
      done := fun s2 Q E2 z k => wpAny_nextOf_tuple_end hh1 z.2.1 z.2.2 (by simp; omega) k }
    exact wpAny_pyNext_enum_endD D0 he ⟨rfl, hit, show s.heap.IsTuple a its.toArray from p⟩ fun h' eb => ⟨rfl, I.turned (t' := s.toks) (fun b o hb q => eb b o hb q) f0 f1 f3 f4 f5⟩
  self := fun A i s Q E st h => let ⟨⟨_, he⟩, _⟩ := st; wpAny_pyIter_enum he h
def iEnumT (K : PySem.W.Frag) (ta : TA) : TI := fun σ H R => ta σ H fun vs H1 => ∃ a xs, vs = [.ref a] ∧ SqT K H1 a xs ∧ R (IteT K a) H1
theorem pi_enumT {X : Cx} {e : Expr} {ta : TA} {p pos tpos : Pos} {elts : List Expr} {kk : Nat} (hg : Gl X "enumerate") (hm : X.mg "enumerate" = none) (ha : PA X [e] ta) (hs : starEach [e] X.env = [(false, eval e X.env)] := by rfl) :
    PI X (.Tuple elts kk tpos) (.Call (.Name "enumerate" p) [e] [] pos) (iEnumT X.K ta) := by
  refine ⟨fun pins s σ H R I h => ?_⟩
  refine PyProof.Rows.Call_ (ld_blt I hg hm PyProof.Rows.boot_enumerate (PyProof.Rows.callWith_type1 (thn (ha.run pos pins s σ H _ I h) fun us s1 ⟨vs, H1, I1, r1, q1⟩ => ?_) hs rfl))
  obtain ⟨a, xs, ex, hq, q⟩ := q1
  subst ex
  cases r1 with
  | cons r rr =>
    cases rr
    cases r
    obtain ⟨its, rv, p', hz⟩ := I1.tuple hq
    have hta : s1.heap.IsTuple a its.toArray := p'
    have hal : a < s1.heap.objs.size := by obtain ⟨o, q, _⟩ := hta; exact Heap.lt_size q
    refine enum1 (begins_tuple a its.toArray) hta fun h' he hcell hsz hk => wpAny_pyIter_enum he ?_
    have I2 : Inv X pins σ H1 { s1 with heap := h' } := I1.kept (t' := s1.toks) hk
    refine ⟨s1.heap.objs.size + 1, [s1.heap.objs.size + 1, s1.heap.objs.size], _, _, H1, rfl, I2,
      turn_enumT a (s1.heap.objs.size + 1) s1.heap.objs.size its.toArray (Nat.succ_ne_self _) (Nat.ne_of_gt (Nat.lt_succ_of_lt hal)) (Nat.ne_of_lt hal), ⟨⟨.none, he⟩, ⟨_, hcell, rfl, rfl⟩⟩, fun b hb => ?_, q⟩
    have hb' : b = s1.heap.objs.size + 1 ∨ b = s1.heap.objs.size := by simpa using hb
    have hle : s1.heap.objs.size ≤ b := by
      rcases hb' with z | z
      · rw [z]; exact Nat.le_add_right _ _
      · rw [z]; exact Nat.le_refl _
    exact I1.fpOk hle (I1.hok.fresh hle)
theorem walk_enumT {K : PySem.W.Frag} {a : Addr} {xs : List V} : Walk (IteT K a) xs.length (fun H => SqT K H a xs) (YPair (fun i => some (.int (i : Nat))) (fun i => xs[i]?)) := by
  refine ⟨fun i _ hi q => ⟨xs, xs[i], q, by simp [hi]⟩, fun _ q => ⟨xs, q, Nat.le_refl _⟩, fun i H v H' _ q y => ?_⟩
  obtain ⟨T, x, h1, h2, h3, h4⟩ := y
  exact ⟨T, .int (i : Nat), x, h1, h2, h3, rfl, h4 xs q⟩
end Mh
namespace Mh
open PySem L2
/-- a set as it is made -/
abbrev freshSet (w : World) : Obj := { cls := .type "set", dict := none, data := .set #[] 0 (.fresh 0 0 (!w.params.followText "set-order")) }
section
variable {P : Program} {w : World} {A : Around} {E : Value → Shared → Prop} {s : Shared}
/-- set(xs), xs a list of ints -/
theorem callSetL {a : Addr} {its : Array Value} (ns : List Int) {Q : Value → Shared → Prop} (calm : A.handled = none) (isL : s.heap.IsList a its) (allInt : PyProof.Rows.IntsAre its.toList ns) (few : ns.length + 1 < scanBound)
    (k : ∀ (h' : Heap) (tk c : Nat), SetR w h' s.heap.objs.size (fun j => decide (j ∈ ns)) c → c ≤ ns.length → (∀ b o, s.heap.get? b = some o → h'.get? b = some o) → Q (.ref s.heap.objs.size) { s with heap := h', toks := tk }) :
    wpAny (model P w) A (call (.type "set") [.ref a]) Q E s := by
  have size0 : its.size = ns.length := by
    have z := PyProof.Rows.IntsAre.length allInt
    rwa [Array.length_toList] at z
  obtain ⟨cc, tl, mro⟩ := F.called_set.mro
  have made := F.called_set.made
  have below := F.called_set.sub
  refine wpAny_call (codeAny_of_tree ?_)
  show wpAny (model P w) _ (callAny (.type "set") _) _ _ s
  refine wpAny_pure ⟨Code.quiet_builtin _ (by decide +kernel), codeAny_builtin F.entry_type_call ?_⟩
  rw [Around.under_plain (weight_type_call_type "set" [.ref a] []) rfl]
  have p1 := F.called_set.notType
  have p2 := F.called_set.canCreate
  have p3 := F.typeCall_set_1 (.ref a)
  repeat (any_goals (first | assumption | wp_step))
  refine codeAny_mono (code_set_led1 (.ref a) (E := E)
    (Q₁ := fun obj s₁ => obj = .ref s.heap.objs.size ∧ s₁ = { s with heap := s.heap.push (freshSet w) }) ⟨rfl, rfl⟩) fun r s₁ hr => ?_
  rcases r with e | fl
  · exact hr
  rcases fl with _ | _ | _ | obj
  · exact hr.elim
  · exact hr.elim
  · exact hr.elim
  obtain ⟨rfl, rfl⟩ := hr
  have at0 : (s.heap.push (freshSet w)).get? s.heap.objs.size = some (freshSet w) := Heap.get?_push_size _ rfl
  have ty0 : Shared.TypeIs { s with heap := s.heap.push (freshSet w) } (.ref s.heap.objs.size) "set" := ⟨_, at0, rfl⟩
  have p4 := F.called_set.init.lookup
  have p5 := F.called_set.init.bind (.ref s.heap.objs.size)
  repeat (any_goals (first | assumption | wp_step))
  refine codeAny_mono (codeAny_call_builtin (R := wants (fun r s₂ => r = .none ∧ ∃ h' tk c, s₂ = { s with heap := h', toks := tk } ∧ SetR w h' s.heap.objs.size (fun j => decide (j ∈ ns)) c ∧ c ≤ ns.length ∧
    (∀ b o, s.heap.get? b = some o → h'.get? b = some o)) E) F.called_set.init.plain F.entry_set_init (check_set_init_1 ty0 ?_)) fun r₂ s₂ hr₂ => ?_
  · obtain ⟨⟨c0, d0, dt0, sl0⟩, got, cls0, cnt0, data0⟩ := isL
    simp only at cls0 data0
    subst cls0 data0
    have got1 : (s.heap.push (freshSet w)).get? a = some { cls := .type "list", dict := d0, data := .seq its cnt0, slots := sl0 } := Heap.get?_push_of_some _ got
    have q1 := F.sub_list_set
    have q2 := F.sub_list_frozenset
    have q3 : (Value.type "list" == Value.type "dict") = false := by decide
    have isL1 : (s.heap.push (freshSet w)).IsList a its := ⟨_, got1, rfl, cnt0, rfl⟩
    unfold Builtin.«set.__init__» noKeywords Builtin.Frozenset.updateFrom
    generalize frozen : pyIter = walkIt
    wp_walk
    subst frozen
    refine wpAny_pyIter_list isL1 (wpAny_bind (wpAny_runValue ?_))
    have below0 : a < s.heap.objs.size := Heap.lt_size got
    have calm3 : A.in1.in1.in1.handled = none := by simp [calm]
    have apart : a ≠ (s.heap.push (freshSet w)).objs.size := by
      rw [Heap.size_push]
      exact Nat.ne_of_lt (Nat.lt_succ_of_lt below0)
    have apart2 : s.heap.objs.size ∉ [(s.heap.push (freshSet w)).objs.size, a] := by
      rw [Heap.size_push]
      simp only [List.mem_cons, List.not_mem_nil, or_false, not_or]
      exact ⟨Nat.ne_of_lt (Nat.lt_succ_self _), Nat.ne_of_gt below0⟩
    have vals : ∀ (i : Nat) (v : Value), its[i]? = some v → ∃ z t, ns[i]? = some z ∧ v = .int z t := fun i v hv => by
      have hi : i < ns.length := by
        rw [← size0]
        exact (Array.getElem?_eq_some_iff.mp hv).1
      obtain ⟨t, e⟩ := PyProof.Rows.IntsAre.int_at allInt i v (by rw [Array.getElem?_toList]; exact hv)
      exact ⟨ns[i], t, List.getElem?_eq_getElem hi, by rw [e, List.getD_eq_getElem?_getD, List.getElem?_eq_getElem hi]; rfl⟩
    refine set_update_ints ((Walks.list calm3 _ a apart its).toS) s.heap.objs.size apart2 ns size0 few vals (its.size - 0) 0 _ (by omega) (Nat.zero_le _) ⟨⟨_, Heap.get?_push_size _ rfl, rfl, rfl⟩, isL1.push _⟩
      ⟨0, Nat.le_refl 0, setR_new_at (Heap.get?_push_of_some _ at0)⟩ ?_
    intro s3 c3 mv hc3 hS3
    obtain ⟨h3, g3, d3, tk3, os3⟩ := s3
    have e1 : g3 = s.gens := mv.gens
    have e2 : d3 = s.drawn := mv.drawn
    have e3 : os3 = s.os := mv.os
    subst e1 e2 e3
    show wpAny (model P w) _ _ _ _ _
    refine wpAny_pure ?_
    show wpAny (model P w) _ (ret Value.none) _ _ _
    rw [size0] at hc3
    refine wpAny_pure ⟨rfl, h3, tk3, c3, rfl, hS3, hc3, fun b o e => ?_⟩
    have hb0 : b < s.heap.objs.size := Heap.lt_size e
    refine mv.heap b o ?_ (Heap.get?_push_of_some _ (Heap.get?_push_of_some _ e))
    simp only [List.mem_cons, List.not_mem_nil, or_false, not_or]
    refine ⟨Nat.ne_of_lt hb0, ?_⟩
    rw [Heap.size_push]
    exact Nat.ne_of_lt (Nat.lt_succ_of_lt hb0)
  · rcases r₂ with e | fl
    · exact hr₂
    rcases fl with _ | _ | _ | r
    · exact hr₂.elim
    · exact hr₂.elim
    · exact hr₂.elim
    obtain ⟨rfl, h', tk, c', rfl, hS', hc', hk'⟩ := hr₂
    repeat (any_goals (first | assumption | wp_step))
    exact k _ _ _ hS' hc' hk'
end
/-- set(xs) by values -/
def rSetL (K : PySem.W.Frag) (w : World) : List V → Hp → VK → Prop := fun vs H Q => ∃ (a : Addr) (ns : List Int), vs = [V.ref a] ∧ SqL K H a (ns.map V.int) ∧ ns.length ≤ 1000 ∧
  ∀ (p : Addr) (c : Nat), H p = none → c ≤ ns.length → Q (.ref p) (upd H p (SetO w p (fun j => decide (j ∈ ns)) c))
theorem ints_of_vals : ∀ {ns : List Int} {us : List Value}, Vals (ns.map V.int) us → PyProof.Rows.IntsAre us ns
  | [], _, .nil => .nil
  | n :: ns, _, .cons r t => by
    obtain ⟨tk, rfl⟩ := r
    exact .cons n tk (ints_of_vals t)
theorem cr_setL {X : Cx} (hc : X.calm = true) : CallR X (.type "set") (rSetL X.K X.w) := by
  intro pins s σ H vs us Q I r h
  obtain ⟨a, ns, rfl, hq, few, k⟩ := h
  obtain ⟨its, rv, p, hz⟩ := I.list hq
  rw [Vals.ref1 r]
  refine callSetL ns (I.ok.hd hc) p.isList (ints_of_vals rv) (by unfold scanBound; omega) fun h' tk c hS hcl hk => ?_
  refine ⟨.ref s.heap.objs.size, upd H s.heap.objs.size (SetO X.w s.heap.objs.size (fun j => decide (j ∈ ns)) c), I.laid (t' := tk) hk (Nat.le_refl _) (setO_new hS), rfl, k _ c (I.hok.fresh (Nat.le_refl _)) hcl⟩
end Mh
/-! What the laws draw, told as data; what stays. -/
namespace Mh
open PySem L2

/-! ### all stays but what is named -/
def Bt (S : List Addr) (H H' : Hp) : Prop := ∀ b o, b ∉ S → H b = some o → H' b = some o
section
variable {S S' : List Addr} {H H1 H2 : Hp} {p : Addr} {o : HO} {K : PySem.W.Frag}
theorem Bt.refl : Bt S H H := fun _ _ _ h => h
theorem Bt.trans (a : Bt S H H1) (b : Bt S H1 H2) : Bt S H H2 := fun c u n h => b c u n (a c u n h)
theorem Bt.new (h : H p = none) : Bt S H (upd H p o) := fun b u _ e => by rw [upd_ne (ne_of_none e h)]; exact e
/-- an object that was not there, or that is named, is written -/
theorem Bt.put (a : Bt S H H1) (h : H p = none) : Bt S H (upd H1 p o) := fun b u n e => by rw [upd_ne (ne_of_none e h)]; exact a b u n e
theorem Bt.set (a : Bt S H H1) (h : p ∈ S) : Bt S H (upd H1 p o) := fun b u n e => by rw [upd_ne (fun z => n (by rw [z]; exact h))]; exact a b u n e
theorem Bt.mono (a : Bt S H H1) (h : ∀ b ∈ S, b ∈ S') : Bt S' H H1 := fun b u n e => a b u (fun z => n (h b z)) e
theorem Bt.of_same (a : Same H H1) : Bt S H H1 := fun b u _ e => a b u e
theorem Bt.same (a : Bt [] H H1) : Same H H1 := fun b u e => a b u (by simp) e
/-- what was free behind was free ahead -/
theorem Bt.free (a : Bt S H H1) (h : p ∉ S) (e : H1 p = none) : H p = none := by
  cases q : H p with
  | none => rfl
  | some u =>
    rw [a p u h q] at e
    cases e
/-- all tuples stay -/
def KT (K : PySem.W.Frag) (H H' : Hp) : Prop := ∀ a xs, SqT K H a xs → SqT K H' a xs
theorem KT.refl : KT K H H := fun _ _ h => h
theorem KT.trans (a : KT K H H1) (b : KT K H1 H2) : KT K H H2 := fun c xs h => b c xs (a c xs h)
theorem Bt.kt (a : Bt S H H1) (h : ∀ b ∈ S, ∀ xs, ¬ Rd H b (.tup xs)) : KT K H H1 := fun c xs e => by
  rcases e with e | e
  · have n : c ∉ S := fun z => h c z xs e
    rcases e with e | ⟨u, e⟩
    · exact .inl (.inl (a c _ n e))
    · exact .inl (.inr ⟨u, a c _ n e⟩)
  · exact .inr e
theorem norm_tup {xs : List V} {d : Addr} (h : H d = some (.lst xs)) : ∀ ys, ¬ Rd H d (.tup ys) := fun ys z => by
  rcases z with z | ⟨u, z⟩ <;> (rw [h] at z; cases z)
theorem Bt.kt1 {d : Addr} {xs : List V} (a : Bt [d] H H1) (h : H d = some (.lst xs)) : KT K H H1 := a.kt fun b hb ys => by
  have e : b = d := by simpa using hb
  rw [e]
  exact norm_tup h ys
theorem KT.same (a : Same H H1) : KT K H H1 := (Bt.of_same (S := []) a).kt fun b hb => absurd hb (by simp)
theorem KT.new (h : H p = none) : KT K H (upd H p o) := (Bt.new (S := []) h).kt fun b hb => absurd hb (by simp)
end

/-! ### data of tuples -/
mutual
def TD : PyData → Bool
  | .none => true
  | .bool _ => true
  | .int _ => true
  | .str _ => true
  | .tuple ds => TDs ds
  | _ => false
def TDs : List PyData → Bool
  | [] => true
  | d :: ds => TD d && TDs ds
end
theorem tds_mem : ∀ {ds : List PyData}, TDs ds = true ↔ ∀ d ∈ ds, TD d = true
  | [] => by simp [TDs]
  | d :: ds => by simp [TDs, tds_mem (ds := ds)]
section
variable {K : PySem.W.Frag} {H H' : Hp}
mutual
theorem dp_keep (kt : KT K H H') : ∀ (d : PyData) (v : V), TD d = true → Dp K H v d → Dp K H' v d
  | .none, _, _, h => by cases h; exact .non
  | .bool b, _, _, h => by cases h; exact .bl b
  | .int i, _, _, h => by cases h; exact .int i
  | .str x, _, _, h => by cases h; exact .str x
  | .list _, _, t, _ => by simp [TD] at t
  | .dict _, _, t, _ => by simp [TD] at t
  | .tuple ds, _, t, h => by
    cases h with
    | tup hs ha => exact .tup (kt _ _ hs) (dps_keep kt ds _ (by simpa [TD] using t) ha)
theorem dps_keep (kt : KT K H H') : ∀ (ds : List PyData) (vs : List V), TDs ds = true → DpAll K H vs ds → DpAll K H' vs ds
  | [], _, _, h => by cases h; exact .nil
  | d :: ds, _, t, h => by
    have t' : TD d = true ∧ TDs ds = true := by simpa [TDs] using t
    cases h with
    | cons h1 h2 => exact .cons (dp_keep kt d _ t'.1 h1) (dps_keep kt ds _ t'.2 h2)
end
theorem dp_int {v : V} {i : Int} (h : Dp K H v (.int i)) : v = .int i := by cases h; rfl
theorem dp_str {v : V} {x : Str} (h : Dp K H v (.str x)) : v = .str x := by cases h; rfl
theorem dp_tup {v : V} {ds : List PyData} (h : Dp K H v (.tuple ds)) : ∃ a xs, v = .ref a ∧ SqT K H a xs ∧ DpAll K H xs ds := by
  cases h with
  | tup hs ha => exact ⟨_, _, rfl, hs, ha⟩
theorem dps_nil {vs : List V} (h : DpAll K H vs []) : vs = [] := by cases h; rfl
theorem dps_cons {vs : List V} {d : PyData} {ds : List PyData} (h : DpAll K H vs (d :: ds)) : ∃ v r, vs = v :: r ∧ Dp K H v d ∧ DpAll K H r ds := by
  cases h with
  | cons h1 h2 => exact ⟨_, _, rfl, h1, h2⟩
theorem dps_len : ∀ {vs : List V} {ds : List PyData}, DpAll K H vs ds → vs.length = ds.length
  | _, _, .nil => rfl
  | _, _, .cons _ t => by simp [dps_len t]
theorem dps_get : ∀ {vs : List V} {ds : List PyData} {i : Nat} {v : V}, DpAll K H vs ds → vs[i]? = some v → ∃ d, ds[i]? = some d ∧ Dp K H v d
  | _, _, _, _, .nil, e => by simp at e
  | _, _, 0, _, .cons h _, e => by
    simp at e
    subst e
    exact ⟨_, rfl, h⟩
  | _, _, i + 1, v, .cons _ t, e => by
    obtain ⟨d, h1, h2⟩ := dps_get (i := i) (v := v) t (by simpa using e)
    exact ⟨d, by simpa using h1, h2⟩
theorem dps_ints : ∀ {ns : List Int} {vs : List V}, DpAll K H vs (ns.map .int) → vs = ns.map .int
  | [], _, h => dps_nil h
  | n :: ns, _, h => by
    obtain ⟨v, r, rfl, h1, h2⟩ := dps_cons h
    rw [dp_int h1, dps_ints h2]
    rfl
theorem dps_of_ints : ∀ (ns : List Int), DpAll K H (ns.map V.int) (ns.map .int)
  | [] => .nil
  | n :: ns => .cons (.int n) (dps_of_ints ns)
theorem dps_snoc : ∀ {vs : List V} {ds : List PyData} {v : V} {d : PyData}, DpAll K H vs ds → Dp K H v d → DpAll K H (vs ++ [v]) (ds ++ [d])
  | _, _, _, _, .nil, h => .cons h .nil
  | _, _, _, _, .cons a t, h => .cons a (dps_snoc t h)
end

/-! ### machines -/
inductive Tst where
  | any | below (n : Int) | rest (m r : Int) | chance (m r : Int) | known (ks : List Int)
inductive Asw where
  | num (n : Int) | plus (n : Int) | times (n : Int) | rest (m : Int) | non
def Tst.dt : Tst → PyData
  | .any => .tuple [.str "any"]
  | .below n => .tuple [.str "below", .int n]
  | .rest m r => .tuple [.str "rest", .int m, .int r]
  | .chance m r => .tuple [.str "chance", .int m, .int r]
  | .known ks => .tuple [.str "known", .tuple (ks.map .int)]
def Asw.dt : Asw → PyData
  | .num n => .tuple [.str "num", .int n]
  | .plus n => .tuple [.str "plus", .int n]
  | .times n => .tuple [.str "times", .int n]
  | .rest m => .tuple [.str "rest", .int m]
  | .non => .tuple [.str "none"]
abbrev Mach := List (Tst × Asw)
def rowDt (r : Tst × Asw) : PyData := .tuple [r.1.dt, r.2.dt]
def machDt (m : Mach) : PyData := .tuple (m.map rowDt)
def Tst.Ok : Tst → Prop
  | .any => True
  | .below n => 0 ≤ n ∧ n ≤ 9999
  | .rest m r => 2 ≤ m ∧ m ≤ 99 ∧ 0 ≤ r ∧ r < m
  | .chance m r => 2 ≤ m ∧ m ≤ 99 ∧ 0 ≤ r ∧ r < m
  | .known ks => 1 ≤ ks.length ∧ ks.length ≤ 8 ∧ ks.Pairwise (· < ·) ∧ ∀ k ∈ ks, 0 ≤ k ∧ k ≤ 9999
def Asw.Ok : Asw → Prop
  | .num n => -9999 ≤ n ∧ n ≤ 9999
  | .plus n => -9999 ≤ n ∧ n ≤ 9999
  | .times n => -9999 ≤ n ∧ n ≤ 9999
  | .rest m => 2 ≤ m ∧ m ≤ 99
  | .non => True
def MachOk (m : Mach) : Prop := 1 ≤ m.length ∧ m.length ≤ 12 ∧ ∀ r ∈ m, r.1.Ok ∧ r.2.Ok
def Tst.holds (q s : Int) : Tst → Bool
  | .any => true
  | .below n => decide (q < n)
  | .rest m r => decide (q % m = r)
  | .chance m r => decide ((7 * q + 13 * s) % m = r)
  | .known ks => decide (q ∈ ks)
def Asw.out (q : Int) : Asw → Option Int
  | .num n => some n
  | .plus n => some (q + n)
  | .times n => some (q * n)
  | .rest m => some (q % m)
  | .non => none
def tell (q s : Int) : Mach → Option Int
  | [] => none
  | (t, a) :: r => if t.holds q s then a.out q else tell q s r
def oV : Option Int → V
  | none => .non
  | some i => .int i
theorem Tst.td (t : Tst) : TD t.dt = true := by
  cases t with
  | known ks =>
    have h : TDs (ks.map PyData.int) = true := tds_mem.mpr fun d hd => by
      obtain ⟨k, _, rfl⟩ := List.mem_map.mp hd
      rfl
    simp [Tst.dt, TD, TDs, h]
  | _ => simp [Tst.dt, TD, TDs]
theorem Asw.td (a : Asw) : TD a.dt = true := by cases a <;> simp [Asw.dt, TD, TDs]
theorem row_td (r : Tst × Asw) : TD (rowDt r) = true := by simp [rowDt, TD, TDs, r.1.td, r.2.td]
theorem mach_td (m : Mach) : TD (machDt m) = true := by
  have h : TDs (m.map rowDt) = true := tds_mem.mpr fun d hd => by
    obtain ⟨r, _, rfl⟩ := List.mem_map.mp hd
    exact row_td r
  simp [machDt, TD, h]

/-! ### dice -/
def Dice (xs : List V) : Prop := ∃ (a b : Int) (r : List Int), xs = .int a :: .int b :: r.map V.int ∧ 0 ≤ a ∧ a < 2147483647 ∧ 0 ≤ b ∧ r.length ≤ 63 ∧ ∀ z ∈ r, 0 ≤ z
end Mh
namespace Mh
open PySem L2
/-! ### defs of the text -/
structure Df (K : PySem.W.Frag) (mg : Str → Option Value) (x : Str) (st : Stmt) (ps : List Str) (f : Addr) (fd : FuncData) : Prop where
  F : Fun K x x st f fd
  n : mg x = some (.ref f)
  b : Binds K fd ps []
/-- with keyword-only parameters behind the first m, all told -/
structure DfK (K : PySem.W.Frag) (mg : Str → Option Value) (x : Str) (st : Stmt) (ps : List Str) (m : Nat) (ks : List Str) (f : Addr) (fd : FuncData) : Prop where
  F : Fun K x x st f fd
  n : mg x = some (.ref f)
  kb : KBn K fd ps m ks (fun us ws => us ++ ws) (fun vs zs => vs ++ zs)
/-- with keyword-only parameters that some calls leave out: dvs their values -/
structure DfS (K : PySem.W.Frag) (mg : Str → Option Value) (x : Str) (st : Stmt) (ps : List Str) (m : Nat) (ks : List Str) (dvs : List V) (f : Addr) (fd : FuncData) (ds : List Value) : Prop where
  F : Fun K x x st f fd
  n : mg x = some (.ref f)
  kb : KBn K fd ps m ks (fun us ws => us ++ ws) (fun vs zs => vs ++ zs)
  b0 : Binds K fd ps ds
  v0 : Vals dvs ds
/-- a module's value -/
def GV (mg : Str → Option Value) (x : Str) (v : V) : Prop := ∃ u, mg x = some u ∧ RelV v u
theorem pe_gv {X : Cx} {x : Str} {v : V} {pos : Pos} (hg : Gl X x) (h : GV X.mg x v) (hd : (x == ("__debug__" : Str)) = false := by decide) : PE X (.Name x pos) (tC v) := by
  obtain ⟨u, h1, h2⟩ := h
  exact pe_glob hg h1 h2 hd
theorem at0 {x : V} {r : List V} : atI (x :: r) 0 = some x := atI_nat (j := 0) rfl
theorem at1 {x y : V} {r : List V} : atI (x :: y :: r) 1 = some y := atI_nat (j := 1) rfl
theorem at2 {x y z : V} {r : List V} : atI (x :: y :: z :: r) 2 = some z := atI_nat (j := 2) rfl
def spLaw (K : PySem.W.Frag) : Sp := fun vs H Q _ => ∃ (a : Addr) (ns : List Int), vs = [.ref a] ∧ SqL K H a (ns.map V.int) ∧ ns.length ≤ 63 ∧ ∀ H', Q (.bl true) H'
end Mh
namespace Mh
open PySem L2
theorem execs_app (env : Env) (bs : List Stmt) : ∀ as : List Stmt, execs (as ++ bs) env = (do
    match ← execs as env with
    | .next => execs bs env
    | f => pure f)
  | [] => by
    show execs bs env = (pure Flow.next >>= _)
    rw [pure_bind]
  | a :: as => by
    show execs (a :: (as ++ bs)) env = _
    rw [arm_execs_cons, arm_execs_cons, bind_assoc]
    congr 1
    funext f
    cases f with
    | next => exact execs_app env bs as
    | brk => rw [pure_bind]
    | cont => rw [pure_bind]
    | ret v => rw [pure_bind]
/-- a block in two parts, with a word between them -/
theorem pss_at {X : Cx} {l : List Stmt} (n : Nat) {t u : TS} (h1 : PSs X (l.take n) t) (h2 : PSs X (l.drop n) u) : PSs X l (Evl.tCut t u) := by
  refine ⟨fun pins s σ H D I h => ?_⟩
  obtain ⟨Mid, hm, hu⟩ := h
  rw [← List.take_append_drop n l, execs_app]
  refine wpAny_bind (thn (h1.run pins s σ H { D with nx := Mid } I hm) fun f s1 q => ?_)
  cases f with
  | next =>
    obtain ⟨σ', H', I', q⟩ := q
    exact h2.run pins s1 σ' H' D I' (hu σ' H' q)
  | ret v => exact wpAny_pure q
  | brk => exact wpAny_pure q
  | cont => exact wpAny_pure q
end Mh
/-! Tasks as data; how deep data are. -/
namespace Mh
open PySem L2
structure Qn where
  q : Int
  due : Int
  twin : Option (Int × Int)
structure Task where
  qs : List Qn
  wt : Int
def twinDt : Option (Int × Int) → PyData
  | none => .none
  | some (y, e) => .tuple [.int y, .int e]
def Qn.dt (r : Qn) : PyData := .tuple [.int r.q, .int r.due, twinDt r.twin]
def Task.dt (t : Task) : PyData := .tuple [.tuple (t.qs.map Qn.dt), .int t.wt]
def dueOk (i : Int) : Prop := -99999999 ≤ i ∧ i ≤ 99999999
def Qn.Ok (r : Qn) : Prop := 0 ≤ r.q ∧ r.q ≤ 9999 ∧ dueOk r.due ∧ ∀ y e, r.twin = some (y, e) → 0 ≤ y ∧ y ≤ 9999 ∧ dueOk e
def Task.Ok (t : Task) : Prop := 1 ≤ t.qs.length ∧ t.qs.length ≤ 16 ∧ (∀ r ∈ t.qs, r.Ok) ∧ (t.qs.map Qn.q).Nodup ∧ 1 ≤ t.wt ∧ t.wt ≤ 9
theorem twin_td (o : Option (Int × Int)) : TD (twinDt o) = true := by
  cases o with
  | none => rfl
  | some p => rfl
theorem qn_td (r : Qn) : TD r.dt = true := by simp [Qn.dt, TD, TDs, twin_td]
theorem tds_map {α : Type} {f : α → PyData} (h : ∀ a, TD (f a) = true) (l : List α) : TDs (l.map f) = true := tds_mem.mpr fun d hd => by
  obtain ⟨r, _, rfl⟩ := List.mem_map.mp hd
  exact h r
theorem task_td (t : Task) : TD t.dt = true := by simp [Task.dt, TD, TDs, tds_map qn_td]
/-- data no deeper than n, no list longer than 1000 -/
def deep : Nat → PyData → Bool
  | _, .none => true
  | _, .bool _ => true
  | _, .int _ => true
  | _, .str _ => true
  | n + 1, .list ds => decide (ds.length ≤ 1000) && ds.all (deep n)
  | n + 1, .tuple ds => decide (ds.length ≤ 1000) && ds.all (deep n)
  | _, _ => false
theorem ty_lst {K : PySem.W.Frag} {H : Hp} {a : Addr} {xs : List V} (h : SqL K H a xs) : TyX K H (.ref a) (.type "list") := by
  rcases h with h | h
  · rcases h with h | ⟨o, h⟩
    · exact .base (.lst h)
    · exact .base (.frz h)
  · obtain ⟨o, its, n, h1, h2, _⟩ := h
    exact .kList h1 h2
/-- all lists and tuples stay -/
theorem same_sql {K : PySem.W.Frag} {H H' : Hp} {a : Addr} {xs : List V} (e : Same H H') (h : SqL K H a xs) : SqL K H' a xs := e.seq h
mutual
theorem dp_same {K : PySem.W.Frag} {H H' : Hp} (e : Same H H') : ∀ (d : PyData) (v : V), Dp K H v d → Dp K H' v d
  | .none, _, h => by cases h; exact .non
  | .bool b, _, h => by cases h; exact .bl b
  | .int i, _, h => by cases h; exact .int i
  | .str x, _, h => by cases h; exact .str x
  | .dict _, _, h => by cases h
  | .list ds, _, h => by
    cases h with
    | lst hs ha => exact .lst (e.seq hs) (dps_same e ds _ ha)
  | .tuple ds, _, h => by
    cases h with
    | tup hs ha => exact .tup (KT.same e _ _ hs) (dps_same e ds _ ha)
theorem dps_same {K : PySem.W.Frag} {H H' : Hp} (e : Same H H') : ∀ (ds : List PyData) (vs : List V), DpAll K H vs ds → DpAll K H' vs ds
  | [], _, h => by cases h; exact .nil
  | d :: ds, _, h => by
    cases h with
    | cons h1 h2 => exact .cons (dp_same e d _ h1) (dps_same e ds _ h2)
end
theorem dps_at {K : PySem.W.Frag} {H : Hp} : ∀ {vs : List V} {ds : List PyData} {i : Nat} {d : PyData}, DpAll K H vs ds → ds[i]? = some d → ∃ v, vs[i]? = some v ∧ Dp K H v d
  | _, _, _, _, .nil, e => by simp at e
  | _, _, 0, _, .cons h _, e => by
    simp at e
    subst e
    exact ⟨_, rfl, h⟩
  | _, _, i + 1, d, .cons _ t, e => by
    obtain ⟨v, h1, h2⟩ := dps_at (i := i) (d := d) t (by simpa using e)
    exact ⟨v, by simpa using h1, h2⟩
/-- what a task's right answers are -/
def Qn.good (m : Mach) (s : Int) (r : Qn) : Bool := decide (tell r.q s m = some r.due)
/-- bounds of what a machine tells -/
theorem tell_bound {q s : Int} : ∀ {m : Mach} {i : Int}, (∀ r ∈ m, r.1.Ok ∧ r.2.Ok) → 0 ≤ q → q ≤ 9999 → tell q s m = some i → dueOk i
  | [], _, _, _, _, h => by cases h
  | (t, a) :: m, i, ho, h0, h1, h => by
    have o1 := (ho _ List.mem_cons_self).2
    unfold tell at h
    split at h
    · cases a with
      | num n =>
        have e : n = i := Option.some.inj h
        subst e
        exact ⟨by have := o1.1; omega, by have := o1.2; omega⟩
      | plus n =>
        have e : q + n = i := Option.some.inj h
        subst e
        exact ⟨by have := o1.1; omega, by have := o1.2; omega⟩
      | times n =>
        have e : q * n = i := Option.some.inj h
        subst e
        have n0 := o1.1
        have n1 := o1.2
        have p1 : q * n ≤ q * 9999 := Int.mul_le_mul_of_nonneg_left n1 h0
        have p2 : q * (-9999) ≤ q * n := Int.mul_le_mul_of_nonneg_left n0 h0
        exact ⟨by omega, by omega⟩
      | rest n =>
        have e : q % n = i := Option.some.inj h
        subst e
        have n0 := o1.1
        have n1 := o1.2
        have p1 := Int.emod_nonneg q (b := n) (by omega)
        have p2 := Int.emod_lt_of_pos q (b := n) (by omega)
        exact ⟨by omega, by omega⟩
      | non => cases h
    · exact tell_bound (fun r hr => ho r (List.mem_cons_of_mem _ hr)) h0 h1 h
end Mh
namespace Mh
open PySem L2
/-- data that may be compared -/
def Sh (n : Nat) (d : PyData) : Prop := d.canLay0 = true ∧ d.depth ≤ n
theorem sh_int {n : Nat} (i : Int) : Sh n (.int i) := ⟨by simp [PyData.canLay0], by simp [PyData.depth]⟩
theorem sh_non {n : Nat} : Sh n .none := ⟨by simp [PyData.canLay0], by simp [PyData.depth]⟩
theorem sh_all {n : Nat} : ∀ {ds : List PyData}, (∀ d ∈ ds, Sh n d) → PyData.canLayAll0 ds = true ∧ PyData.depthAll ds ≤ n
  | [], _ => ⟨by simp [PyData.canLayAll0], by simp [PyData.depthAll]⟩
  | d :: ds, h => by
    obtain ⟨h1, h2⟩ := sh_all (n := n) (ds := ds) fun x hx => h x (List.mem_cons_of_mem _ hx)
    obtain ⟨h3, h4⟩ := h d List.mem_cons_self
    exact ⟨by simp [PyData.canLayAll0, h1, h3], by simp only [PyData.depthAll]; omega⟩
theorem sh_list {n : Nat} {ds : List PyData} (h : ∀ d ∈ ds, Sh n d) : Sh (n + 1) (.list ds) := by
  obtain ⟨h1, h2⟩ := sh_all h
  exact ⟨by simpa [PyData.canLay0] using h1, by simp only [PyData.depth]; omega⟩
theorem sh_tuple {n : Nat} {ds : List PyData} (h : ∀ d ∈ ds, Sh n d) : Sh (n + 1) (.tuple ds) := by
  obtain ⟨h1, h2⟩ := sh_all h
  exact ⟨by simpa [PyData.canLay0] using h1, by simp only [PyData.depth]; omega⟩
theorem Sh.mono {n m : Nat} {d : PyData} (h : Sh n d) (l : n ≤ m) : Sh m d := ⟨h.1, Nat.le_trans h.2 l⟩
theorem Sh.shaped {n : Nat} {d : PyData} (h : Sh n d) (l : n ≤ 64) : SeqAt.shaped d = true := by
  unfold SeqAt.shaped
  rw [h.1, decide_eq_true (Nat.le_trans h.2 l)]
  rfl
theorem eqv_nil {ds : List PyData} : PyData.eqv (.list ds) (.list []) = ds.isEmpty := by
  cases ds <;> simp [PyData.eqv, PyData.eqvAll]
theorem dps_zip {K : PySem.W.Frag} {H : Hp} : ∀ {zs : List (V × PyData)}, (∀ z ∈ zs, Dp K H z.1 z.2) → DpAll K H (zs.map (·.1)) (zs.map (·.2))
  | [], _ => .nil
  | z :: zs, h => .cons (h z List.mem_cons_self) (dps_zip fun y hy => h y (List.mem_cons_of_mem _ hy))
theorem eraseIdx_map {α β : Type} (f : α → β) : ∀ (l : List α) (i : Nat), (l.map f).eraseIdx i = (l.eraseIdx i).map f
  | [], _ => rfl
  | _ :: _, 0 => rfl
  | a :: l, i + 1 => by simp [eraseIdx_map f l i]
theorem perm_erase {α : Type} : ∀ {l : List α} {i : Nat} {a : α}, l[i]? = some a → (a :: l.eraseIdx i).Perm l
  | [], i, a, h => by simp at h
  | b :: l, 0, a, h => by
    simp at h
    subst h
    exact List.Perm.refl _
  | b :: l, i + 1, a, h => by
    have h2 := perm_erase (l := l) (i := i) (a := a) (by simpa using h)
    show (a :: b :: l.eraseIdx i).Perm (b :: l)
    exact (List.Perm.swap b a _).trans (List.Perm.cons b h2)
end Mh
/-! The same rules within a comprehension, where the written part is told by its name. -/
namespace Mh
open PySem L2
section
variable {X : Cx} {K : PySem.W.Frag}
theorem ixK_list (e : X.K = K) : IxR X (rIxL K) := by subst e; exact ix_list
theorem ixK_tup (e : X.K = K) : IxR X (rIxT K) := by subst e; exact ix_tup
theorem ixK_seq (e : X.K = K) : IxR X (rIx K) := by subst e; exact ix_seq
theorem opK_in_seq (e : X.K = K) : OpR X (compareOp .In) (rIn K false) := by subst e; exact op_in_seq
theorem opK_notIn_seq (e : X.K = K) : OpR X (compareOp .NotIn) (rIn K true) := by subst e; exact op_notIn_seq
theorem opK_eqD (e : X.K = K) (hu : X.A.units + 64 < cLine) : OpR X (compareOp .Eq) (rEqD K) := by subst e; exact op_eqD hu
theorem opK_neD (e : X.K = K) (hu : X.A.units + 64 < cLine) : OpR X (compareOp .NotEq) (rNeD K) := by subst e; exact op_neD hu
theorem opK_catA (e : X.K = K) : OpR X (binaryOp .Add) (rCatA K) := by subst e; exact op_catA
def rLenQ (K : PySem.W.Frag) : List V → Hp → VK → Prop := fun xs H Q => ∃ p ys, xs = [.ref p] ∧ (SqL K H p ys ∨ SqT K H p ys) ∧ Q (.int ys.length) H
theorem callK_len_seq (e : X.K = K) : CallR X (.builtin "len") (rLenQ K) := by subst e; exact call_len_seq
theorem crK_sum (e : X.K = K) (hc : X.calm = true) : CallR X (.builtin "sum") (rSum K) := by subst e; exact cr_sum hc
theorem crK_all (e : X.K = K) (hc : X.calm = true) : CallR X (.builtin "all") (rAll K) := by subst e; exact cr_all hc
theorem crK_any (e : X.K = K) (hc : X.calm = true) : CallR X (.builtin "any") (rAny K) := by subst e; exact cr_any hc
def rListQ (K : PySem.W.Frag) : List V → Hp → VK → Prop := fun xs H Q => ∃ p ys, xs = [.ref p] ∧ (SqL K H p ys ∨ SqT K H p ys) ∧ ∀ l, H l = none → Q (.ref l) (upd H l (.lst ys))
theorem callK_list_of (e : X.K = K) : CallR X (.type "list") (rListQ K) := by subst e; exact call_list_of
def rTupleQ (K : PySem.W.Frag) : List V → Hp → VK → Prop := fun xs H Q => ∃ p ys, xs = [.ref p] ∧ ((SqL K H p ys ∧ ∀ l, H l = none → Q (.ref l) (upd H l (.tup ys))) ∨ (SqT K H p ys ∧ Q (.ref p) H))
theorem callK_tuple_of (e : X.K = K) : CallR X (.type "tuple") (rTupleQ K) := by subst e; exact call_tuple_of
theorem slK_list (e : X.K = K) : SlR X (rSlL K) := by subst e; exact sl_list
theorem slK_tup (e : X.K = K) : SlR X (rSlT K) := by subst e; exact sl_tup
end
end Mh
/-! A dict of names compared with one that is empty. -/
namespace Mh
open PySem L2
section
variable {X : Cx}
def rEqD0 : R2 := fun x y H Q => ∃ a b ks, x = .ref a ∧ y = .ref b ∧ H a = some (.dK ks) ∧ H b = some (.dK []) ∧ Q (.bl (ks.length == 0)) H
def rNeD0 : R2 := fun x y H Q => ∃ a b ks, x = .ref a ∧ y = .ref b ∧ H a = some (.dK ks) ∧ H b = some (.dK []) ∧ Q (.bl (!(ks.length == 0))) H
theorem op_eq_dict0 (hu : X.A.units < cLine) : OpR X (compareOp .Eq) rEqD0 := by
  intro pins s σ H x y v u Q I rx ry h
  obtain ⟨a, b, ks, rfl, rfl, ea, eb, q⟩ := h
  obtain rfl : v = Value.ref a := rx
  obtain rfl : u = Value.ref b := ry
  obtain ⟨_, ya, va, ra, da⟩ := (show ObjOk X.prog X.w H s.heap a (.dK ks) from I.hok a _ ea)
  obtain ⟨_, yb, vb, rb, db⟩ := (show ObjOk X.prog X.w H s.heap b (.dK []) from I.hok b _ eb)
  have hb : vb.length = 0 := by rw [← rb.length]; rfl
  have ha : va.length = ks.length := ra.length.symm
  refine PySem.W.keq_eq (knd := mixKind X.prog X.w) (r := true) ya yb da db hu (fun e => ?_) (fin_bl I q (by rw [ha, hb, Bool.and_true]))
  have k0 : ks = [] := List.length_eq_zero_iff.mp (by omega)
  subst k0
  exact hits_all rb ra (by simp)
theorem op_ne_dict0 (hu : X.A.units < cLine) : OpR X (compareOp .NotEq) rNeD0 := by
  intro pins s σ H x y v u Q I rx ry h
  obtain ⟨a, b, ks, rfl, rfl, ea, eb, q⟩ := h
  obtain rfl : v = Value.ref a := rx
  obtain rfl : u = Value.ref b := ry
  obtain ⟨_, ya, va, ra, da⟩ := (show ObjOk X.prog X.w H s.heap a (.dK ks) from I.hok a _ ea)
  obtain ⟨_, yb, vb, rb, db⟩ := (show ObjOk X.prog X.w H s.heap b (.dK []) from I.hok b _ eb)
  have hb : vb.length = 0 := by rw [← rb.length]; rfl
  have ha : va.length = ks.length := ra.length.symm
  refine PySem.W.keq_ne (knd := mixKind X.prog X.w) (r := true) ya yb da db hu (fun e => ?_) (fin_bl I q (by rw [ha, hb, Bool.and_true]))
  have k0 : ks = [] := List.length_eq_zero_iff.mp (by omega)
  subst k0
  exact hits_all rb ra (by simp)
end
end Mh
/-! Two sorted lists of the same texts are one. -/
namespace Mh
open PySem L2
def leS (a b : Str) : Prop := ¬ b.cps.toList < a.cps.toList
theorem leS_of {a b : Str} (h : PySem.Spec.ltCps b.cps.toList a.cps.toList = false) : leS a b := by
  intro z
  rw [PyProof.Rows.ltCps_eq, decide_eq_false_iff_not] at h
  exact h z
theorem leS_trans {a b c : Str} (h1 : leS a b) (h2 : leS b c) : leS a c := by
  have q : a.cps.toList ≤ c.cps.toList := List.le_trans (show a.cps.toList ≤ b.cps.toList from h1) (show b.cps.toList ≤ c.cps.toList from h2)
  exact q
theorem leS_antisymm {a b : Str} (h1 : leS a b) (h2 : leS b a) : a = b := by
  have q : a.cps.toList = b.cps.toList := List.le_antisymm (show a.cps.toList ≤ b.cps.toList from h1) (show b.cps.toList ≤ a.cps.toList from h2)
  cases a
  cases b
  have q := Array.toList_inj.mp q
  simp at q
  rw [q]
theorem rising_pw : ∀ {p : Str} {l : List Str}, PyProof.Rows.risingS p l = true → (p :: l).Pairwise leS
  | p, [], _ => by simp
  | p, x :: r, h => by
    have h : (!PySem.Spec.ltCps x.cps.toList p.cps.toList && PyProof.Rows.risingS x r) = true := h
    rw [Bool.and_eq_true, Bool.not_eq_true'] at h
    have px := leS_of h.1
    have ih := rising_pw h.2
    refine List.pairwise_cons.mpr ⟨fun y hy => ?_, ih⟩
    rcases List.mem_cons.mp hy with rfl | hy
    · exact px
    · exact leS_trans px ((List.pairwise_cons.mp ih).1 y hy)
theorem sorted_pw {l : List Str} (h : PyProof.Rows.sortedS l = true) : l.Pairwise leS := by
  cases l with
  | nil => exact List.Pairwise.nil
  | cons x r => exact rising_pw h
theorem pw_uniq : ∀ {l m : List Str}, l.Perm m → l.Pairwise leS → m.Pairwise leS → l = m
  | [], m, p, _, _ => (List.nil_perm.mp p).symm
  | a :: l, [], p, _, _ => absurd p.length_eq (by simp)
  | a :: l, b :: m, p, h1, h2 => by
    have e : a = b := by
      rcases List.mem_cons.mp (p.mem_iff.mp (List.mem_cons_self (a := a) (l := l))) with e | e
      · exact e
      · rcases List.mem_cons.mp (p.mem_iff.mpr (List.mem_cons_self (a := b) (l := m))) with q | q
        · exact q.symm
        · exact leS_antisymm ((List.pairwise_cons.mp h1).1 b q) ((List.pairwise_cons.mp h2).1 a e)
    subst e
    rw [pw_uniq (List.Perm.cons_inv p) (List.pairwise_cons.mp h1).2 (List.pairwise_cons.mp h2).2]
theorem sorted_uniq {l m : List Str} (p : l.Perm m) (h1 : PyProof.Rows.sortedS l = true) (h2 : PyProof.Rows.sortedS m = true) : l = m := pw_uniq p (sorted_pw h1) (sorted_pw h2)
/-- the names, sorted -/
instance (a b : Str) : Decidable (leS a b) := inferInstanceAs (Decidable (¬ b.cps.toList < a.cps.toList))
def sortN (l : List Str) : List Str := l.mergeSort fun a b => decide (leS a b)
theorem sortN_perm (l : List Str) : (sortN l).Perm l := List.mergeSort_perm l _
theorem sortN_pw (l : List Str) : (sortN l).Pairwise leS := by
  have h := List.pairwise_mergeSort (le := fun a b => decide (leS a b)) (fun a b c h1 h2 => decide_eq_true (leS_trans (of_decide_eq_true h1) (of_decide_eq_true h2)))
    (fun a b => by
      have t : a.cps.toList ≤ b.cps.toList ∨ b.cps.toList ≤ a.cps.toList := List.le_total _ _
      rcases t with t | t
      · rw [decide_eq_true (show leS a b from t)]
        rfl
      · rw [decide_eq_true (show leS b a from t), Bool.or_true]) l
  exact h.imp fun h => of_decide_eq_true h
theorem sortN_eq {ys l : List Str} (p : ys.Perm l) (h : PyProof.Rows.sortedS ys = true) : ys = sortN l := pw_uniq (p.trans (sortN_perm l).symm) (sorted_pw h) (sortN_pw l)
theorem sortN_len (l : List Str) : (sortN l).length = l.length := (sortN_perm l).length_eq
end Mh
/-! isinstance of data; math.comb. -/
namespace Mh
open PySem L2
theorem ty_tupD {K : PySem.W.Frag} {H : Hp} {a : Addr} {xs : List V} (h : SqT K H a xs) : TyX K H (.ref a) (.type "tuple") := by
  rcases h with h | h
  · rcases h with h | ⟨o, h⟩
    · exact .base (.tup h)
    · exact .fTuple h
  · obtain ⟨o, its, n, h1, h2, _⟩ := h
    exact .kTuple h1 h2
def tyD : PyData → String
  | .none => "NoneType"
  | .bool _ => "bool"
  | .int _ => "int"
  | .str _ => "str"
  | .list _ => "list"
  | .tuple _ => "tuple"
  | .dict _ => "dict"
theorem dp_ty {K : PySem.W.Frag} {H : Hp} {v : V} {d : PyData} (h : Dp K H v d) : TyX K H v (.type (tyD d)) := by
  cases h with
  | non => exact .base .non
  | bl b => exact .base (.bl b)
  | int i => exact .base (.int i)
  | str x => exact .base (.str x)
  | lst h _ => exact ty_lst h
  | tup h _ => exact ty_tupD h
def isTup : PyData → Bool
  | .tuple _ => true
  | _ => false
def isLst : PyData → Bool
  | .list _ => true
  | _ => false
def isStrD : PyData → Bool
  | .str _ => true
  | _ => false
def isBool : PyData → Bool
  | .bool _ => true
  | _ => false
def isIntD : PyData → Bool
  | .int _ => true
  | .bool _ => true
  | _ => false
section
variable {K : PySem.W.Frag}
theorem kit_tup (d : PyData) : PySem.W.kitOne K (.type (tyD d)) (.type "tuple") = some (isTup d) := by
  cases d <;> exact kit_ty (by dsimp only [tyD, isTup, isLst, isStrD, isBool, isIntD]; decide +kernel)
theorem kit_str (d : PyData) : PySem.W.kitOne K (.type (tyD d)) (.type "str") = some (isStrD d) := by
  cases d <;> exact kit_ty (by dsimp only [tyD, isTup, isLst, isStrD, isBool, isIntD]; decide +kernel)
theorem kit_lst (d : PyData) : PySem.W.kitOne K (.type (tyD d)) (.type "list") = some (isLst d) := by
  cases d <;> exact kit_ty (by dsimp only [tyD, isTup, isLst, isStrD, isBool, isIntD]; decide +kernel)
theorem kit_bool (d : PyData) : PySem.W.kitOne K (.type (tyD d)) (.type "bool") = some (isBool d) := by
  cases d <;> exact kit_ty (by dsimp only [tyD, isTup, isLst, isStrD, isBool, isIntD]; decide +kernel)
theorem kit_int (d : PyData) : PySem.W.kitOne K (.type (tyD d)) (.type "int") = some (isIntD d) := by
  cases d <;> exact kit_ty (by dsimp only [tyD, isTup, isLst, isStrD, isBool, isIntD]; decide +kernel)
end
/-- in how many ways j are taken of n -/
def binom : Nat → Nat → Nat
  | _, 0 => 1
  | 0, _ + 1 => 0
  | n + 1, k + 1 => binom n k + binom n (k + 1)
theorem comb_step : ∀ n, n < 33 → ∀ k, k < 34 → PySem.W.mcComb ((n + 1 : Nat) : Int) ((k + 1 : Nat) : Int) = PySem.W.mcComb (n : Int) (k : Int) + PySem.W.mcComb (n : Int) ((k + 1 : Nat) : Int) := by decide +kernel
theorem comb_binom : ∀ {n k : Nat}, n ≤ 33 → k ≤ 34 → PySem.W.mcComb (n : Int) (k : Int) = ((binom n k : Nat) : Int)
  | n, 0, _, _ => by
    have e := PySem.W.mcComb_ends (a := (n : Int)) (b := ((0 : Nat) : Int)) (by omega) (by omega) (.inl rfl)
    rw [e]
    cases n <;> rfl
  | 0, k + 1, _, _ => PySem.W.mcComb_above (by omega)
  | n + 1, k + 1, hn, hk => by
    rw [comb_step n (by omega) k (by omega), comb_binom (n := n) (k := k) (by omega) (by omega), comb_binom (n := n) (k := k + 1) (by omega) (by omega)]
    rfl
section
variable {X : Cx}
def rComb : List V → Hp → VK → Prop := fun vs H Q => ∃ a b : Nat, vs = [.int a, .int b] ∧ a ≤ 33 ∧ b ≤ 34 ∧ Q (.int ((binom a b : Nat) : Int)) H
theorem cr_comb : CallR X (.builtin "math.comb") rComb := by
  intro pins s σ H vs us Q I r h
  obtain ⟨a, b, rfl, ha, hb, q⟩ := h
  obtain ⟨t, u, rfl⟩ := Vals.int2 r
  exact PySem.W.mc_comb (by omega) (by omega) (by omega) (.inl (by omega)) fun _ => by
    rw [comb_binom ha hb]
    exact ⟨.int _, H, I.tok _, ⟨_, rfl⟩, q⟩
end
end Mh
namespace Mh
open PySem L2
def top (i : Nat) : Stmt := PySem.Challenge.pw_measurehall_k09_whole_ways_tried.main.body.getD i (.Pass ⟨0, 0, 0, 0⟩)
abbrev s_is_number : Stmt := top 14
abbrev N_is_number : List Str := ["value", "low", "high"]
theorem sc_is_number : FnScope N_is_number ["value", "low", "high"] (defScope s_is_number) := ⟨rfl, rfl, rfl, by decide +kernel, rfl, by decide +kernel, by decide +kernel⟩
abbrev s_is_question : Stmt := top 15
abbrev N_is_question : List Str := ["value"]
theorem sc_is_question : FnScope N_is_question ["value"] (defScope s_is_question) := ⟨rfl, rfl, rfl, by decide +kernel, rfl, by decide +kernel, by decide +kernel⟩
abbrev s_is_seed : Stmt := top 16
abbrev N_is_seed : List Str := ["value"]
theorem sc_is_seed : FnScope N_is_seed ["value"] (defScope s_is_seed) := ⟨rfl, rfl, rfl, by decide +kernel, rfl, by decide +kernel, by decide +kernel⟩
abbrev s_is_divisor : Stmt := top 17
abbrev N_is_divisor : List Str := ["value"]
theorem sc_is_divisor : FnScope N_is_divisor ["value"] (defScope s_is_divisor) := ⟨rfl, rfl, rfl, by decide +kernel, rfl, by decide +kernel, by decide +kernel⟩
abbrev s_is_known : Stmt := top 18
abbrev N_is_known : List Str := ["numbers", "one", "other", "number"]
theorem sc_is_known : FnScope N_is_known ["numbers"] (defScope s_is_known) := ⟨rfl, rfl, rfl, by decide +kernel, rfl, by decide +kernel, by decide +kernel⟩
abbrev s_is_test : Stmt := top 19
abbrev N_is_test : List Str := ["test", "bound", "divisor", "rest", "numbers"]
theorem sc_is_test : FnScope N_is_test ["test"] (defScope s_is_test) := ⟨rfl, rfl, rfl, by decide +kernel, rfl, by decide +kernel, by decide +kernel⟩
abbrev s_is_answer : Stmt := top 20
abbrev N_is_answer : List Str := ["answer", "number", "divisor"]
theorem sc_is_answer : FnScope N_is_answer ["answer"] (defScope s_is_answer) := ⟨rfl, rfl, rfl, by decide +kernel, rfl, by decide +kernel, by decide +kernel⟩
abbrev s_is_row : Stmt := top 21
abbrev N_is_row : List Str := ["row"]
theorem sc_is_row : FnScope N_is_row ["row"] (defScope s_is_row) := ⟨rfl, rfl, rfl, by decide +kernel, rfl, by decide +kernel, by decide +kernel⟩
abbrev s_check_machine : Stmt := top 22
abbrev N_check_machine : List Str := ["machine", "at", "row"]
theorem sc_check_machine : FnScope N_check_machine ["machine"] (defScope s_check_machine) := ⟨rfl, rfl, rfl, by decide +kernel, rfl, by decide +kernel, by decide +kernel⟩
abbrev s_check_seed : Stmt := top 23
abbrev N_check_seed : List Str := ["seed"]
theorem sc_check_seed : FnScope N_check_seed ["seed"] (defScope s_check_seed) := ⟨rfl, rfl, rfl, by decide +kernel, rfl, by decide +kernel, by decide +kernel⟩
abbrev s_does_hold : Stmt := top 24
abbrev N_does_hold : List Str := ["test", "question", "seed", "bound", "divisor", "rest", "numbers"]
theorem sc_does_hold : FnScope N_does_hold ["test", "question", "seed"] (defScope s_does_hold) := ⟨rfl, rfl, rfl, by decide +kernel, rfl, by decide +kernel, by decide +kernel⟩
abbrev s_outcome : Stmt := top 25
abbrev N_outcome : List Str := ["answer", "question", "number", "divisor"]
theorem sc_outcome : FnScope N_outcome ["answer", "question"] (defScope s_outcome) := ⟨rfl, rfl, rfl, by decide +kernel, rfl, by decide +kernel, by decide +kernel⟩
abbrev s_run : Stmt := top 26
abbrev N_run : List Str := ["machine", "question", "seed", "test", "answer"]
theorem sc_run : FnScope N_run ["machine", "question", "seed"] (defScope s_run) := ⟨rfl, rfl, rfl, by decide +kernel, rfl, by decide +kernel, by decide +kernel⟩
abbrev s_is_due : Stmt := top 31
abbrev N_is_due : List Str := ["value"]
theorem sc_is_due : FnScope N_is_due ["value"] (defScope s_is_due) := ⟨rfl, rfl, rfl, by decide +kernel, rfl, by decide +kernel, by decide +kernel⟩
abbrev s_is_twin : Stmt := top 32
abbrev N_is_twin : List Str := ["twin"]
theorem sc_is_twin : FnScope N_is_twin ["twin"] (defScope s_is_twin) := ⟨rfl, rfl, rfl, by decide +kernel, rfl, by decide +kernel, by decide +kernel⟩
abbrev s_is_asked : Stmt := top 33
abbrev N_is_asked : List Str := ["asked"]
theorem sc_is_asked : FnScope N_is_asked ["asked"] (defScope s_is_asked) := ⟨rfl, rfl, rfl, by decide +kernel, rfl, by decide +kernel, by decide +kernel⟩
abbrev s_is_framed : Stmt := top 34
abbrev N_is_framed : List Str := ["task", "questions", "weight"]
theorem sc_is_framed : FnScope N_is_framed ["task"] (defScope s_is_framed) := ⟨rfl, rfl, rfl, by decide +kernel, rfl, by decide +kernel, by decide +kernel⟩
abbrev s_check_task : Stmt := top 35
abbrev N_check_task : List Str := ["task", "found", "at", "asked"]
theorem sc_check_task : FnScope N_check_task ["task"] (defScope s_check_task) := ⟨rfl, rfl, rfl, by decide +kernel, rfl, by decide +kernel, by decide +kernel⟩
abbrev s_check_run : Stmt := top 36
abbrev N_check_run : List Str := ["machine", "task", "seed"]
theorem sc_check_run : FnScope N_check_run ["machine", "task", "seed"] (defScope s_check_run) := ⟨rfl, rfl, rfl, by decide +kernel, rfl, by decide +kernel, by decide +kernel⟩
abbrev s_heart : Stmt := top 37
abbrev N_heart : List Str := ["machine", "task", "seed", "paired", "many", "here", "there", "ways", "question", "due", "twin", "laid", "_"]
theorem sc_heart : FnScope N_heart ["machine", "task", "seed"] (defScope s_heart) := ⟨rfl, rfl, rfl, by decide +kernel, rfl, by decide +kernel, by decide +kernel⟩
abbrev s_dice : Stmt := top 39
abbrev N_dice : List Str := ["_law_script", "_law_k", "_law_found", "_law_cell"]
theorem sc_dice : FnScope N_dice ["_law_script", "_law_k"] (defScope s_dice) := ⟨rfl, rfl, rfl, by decide +kernel, rfl, by decide +kernel, by decide +kernel⟩
abbrev s_off : Stmt := top 40
abbrev N_off : List Str := ["_law_d", "_law_upto", "_law_found"]
theorem sc_off : FnScope N_off ["_law_d", "_law_upto"] (defScope s_off) := ⟨rfl, rfl, rfl, by decide +kernel, rfl, by decide +kernel, by decide +kernel⟩
abbrev s_law : Stmt := top 41
abbrev N_law : List Str := ["_law_script", "_law_d", "_law_many", "_law_rule", "_law_rows", "_law_known", "_law_machine", "_law_count", "_law_here", "_law_there", "_law_ways", "_law_every", "_law_found", "_law_every_row", "_law_turn", "_law_marks", "_law_whole", "_law_k", "_law_row"]
theorem sc_law : FnScope N_law ["_law_script"] (defScope s_law) := ⟨rfl, rfl, rfl, by decide +kernel, rfl, by decide +kernel, by decide +kernel⟩
structure Adr where
  is_number : Addr
  is_number_ : FuncData
  is_question : Addr
  is_question_ : FuncData
  is_seed : Addr
  is_seed_ : FuncData
  is_divisor : Addr
  is_divisor_ : FuncData
  is_known : Addr
  is_known_ : FuncData
  is_test : Addr
  is_test_ : FuncData
  is_answer : Addr
  is_answer_ : FuncData
  is_row : Addr
  is_row_ : FuncData
  check_machine : Addr
  check_machine_ : FuncData
  check_seed : Addr
  check_seed_ : FuncData
  does_hold : Addr
  does_hold_ : FuncData
  outcome : Addr
  outcome_ : FuncData
  run : Addr
  run_ : FuncData
  is_due : Addr
  is_due_ : FuncData
  is_twin : Addr
  is_twin_ : FuncData
  is_asked : Addr
  is_asked_ : FuncData
  is_framed : Addr
  is_framed_ : FuncData
  check_task : Addr
  check_task_ : FuncData
  check_run : Addr
  check_run_ : FuncData
  heart : Addr
  heart_ : FuncData
  heart_ds : List Value
  dice : Addr
  dice_ : FuncData
  off : Addr
  off_ : FuncData
  law : Addr
  law_ : FuncData
structure Txt (K : PySem.W.Frag) (mg : Str → Option Value) (A : Adr) : Prop where
  n_abs : mg "abs" = none
  n_all : mg "all" = none
  n_bool : mg "bool" = none
  n_enumerate : mg "enumerate" = none
  n_int : mg "int" = none
  n_isinstance : mg "isinstance" = none
  n_len : mg "len" = none
  n_range : mg "range" = none
  n_set : mg "set" = none
  n_sum : mg "sum" = none
  n_tuple : mg "tuple" = none
  n_zip : mg "zip" = none
  c_LAST_QUESTION : GV mg "LAST_QUESTION" (.int 9999)
  c_LAST_SEED : GV mg "LAST_SEED" (.int 999)
  c_MOST_ROWS : GV mg "MOST_ROWS" (.int 12)
  c_MOST_KNOWN : GV mg "MOST_KNOWN" (.int 8)
  c_LEAST_DIVISOR : GV mg "LEAST_DIVISOR" (.int 2)
  c_MOST_DIVISOR : GV mg "MOST_DIVISOR" (.int 99)
  c_MOST_IN_ANSWER : GV mg "MOST_IN_ANSWER" (.int 9999)
  c_MOST_QUESTIONS : GV mg "MOST_QUESTIONS" (.int 16)
  c_MOST_DUE : GV mg "MOST_DUE" (.int 99999999)
  c_MOST_WEIGHT : GV mg "MOST_WEIGHT" (.int 9)
  m_comb : mg "comb" = some (.builtin "math.comb")
  is_number : Df K mg "is_number" s_is_number ["value", "low", "high"] A.is_number A.is_number_
  is_question : Df K mg "is_question" s_is_question ["value"] A.is_question A.is_question_
  is_seed : Df K mg "is_seed" s_is_seed ["value"] A.is_seed A.is_seed_
  is_divisor : Df K mg "is_divisor" s_is_divisor ["value"] A.is_divisor A.is_divisor_
  is_known : Df K mg "is_known" s_is_known ["numbers"] A.is_known A.is_known_
  is_test : Df K mg "is_test" s_is_test ["test"] A.is_test A.is_test_
  is_answer : Df K mg "is_answer" s_is_answer ["answer"] A.is_answer A.is_answer_
  is_row : Df K mg "is_row" s_is_row ["row"] A.is_row A.is_row_
  check_machine : Df K mg "check_machine" s_check_machine ["machine"] A.check_machine A.check_machine_
  check_seed : Df K mg "check_seed" s_check_seed ["seed"] A.check_seed A.check_seed_
  does_hold : Df K mg "does_hold" s_does_hold ["test", "question", "seed"] A.does_hold A.does_hold_
  outcome : Df K mg "outcome" s_outcome ["answer", "question"] A.outcome A.outcome_
  run : Df K mg "run" s_run ["machine", "question", "seed"] A.run A.run_
  is_due : Df K mg "is_due" s_is_due ["value"] A.is_due A.is_due_
  is_twin : Df K mg "is_twin" s_is_twin ["twin"] A.is_twin A.is_twin_
  is_asked : Df K mg "is_asked" s_is_asked ["asked"] A.is_asked A.is_asked_
  is_framed : Df K mg "is_framed" s_is_framed ["task"] A.is_framed A.is_framed_
  check_task : Df K mg "check_task" s_check_task ["task"] A.check_task A.check_task_
  check_run : Df K mg "check_run" s_check_run ["machine", "task", "seed"] A.check_run A.check_run_
  heart : DfS K mg "heart" s_heart ["machine", "task", "seed"] 2 ["seed"] [(.int 0)] A.heart A.heart_ A.heart_ds
  dice : Df K mg "_law_dice" s_dice ["_law_script", "_law_k"] A.dice A.dice_
  off : Df K mg "_law_off" s_off ["_law_d", "_law_upto"] A.off A.off_
  law : Df K mg "law" s_law ["_law_script"] A.law A.law_
end Mh
namespace Mh
open PySem L2
local macro_rules | `(tactic| walk_at "g") => `(tactic| repeat (first
  | refine ⟨_, rfl, ?_⟩
  | refine ⟨_, _, rfl, rfl, ?_⟩
  | refine ⟨_, _, _, _, rfl, rfl, SqL.of (by assumption), at0, ?_⟩
  | refine ⟨_, _, _, _, rfl, rfl, SqL.of (by assumption), at1, ?_⟩
  | refine ⟨_, _, _, _, rfl, rfl, SqT.of (by assumption), at0, ?_⟩
  | refine ⟨_, _, _, _, rfl, rfl, SqT.of (by assumption), at1, ?_⟩
  | refine ⟨_, _, rfl, .inl (SqL.of (by assumption)), ?_⟩
  | refine ⟨rfl, ?_⟩
  | refine iteT ?_
  | refine iteF ?_))
/-- what may be handed in: none, truths, numbers, texts, lists, tuples -/
inductive Odd (K : PySem.W.Frag) (H : Hp) : V → Prop where
  | non : Odd K H .non
  | bl (b : Bool) : Odd K H (.bl b)
  | int (i : Int) : Odd K H (.int i)
  | str (x : Str) : Odd K H (.str x)
  | lst {a : Addr} {xs : List V} (h : SqL K H a xs) : Odd K H (.ref a)
  | tup {a : Addr} {xs : List V} (h : SqT K H a xs) : Odd K H (.ref a)
theorem Odd.of {K : PySem.W.Frag} {H : Hp} {v : V} {d : PyData} (h : Dp K H v d) : Odd K H v := by
  cases h with
  | non => exact .non
  | bl b => exact .bl b
  | int i => exact .int i
  | str x => exact .str x
  | lst h _ => exact .lst h
  | tup h _ => exact .tup h
def isNum (lo hi : Int) : V → Bool
  | .int i => decide (lo ≤ i) && decide (i ≤ hi)
  | _ => false
def spIsNum (K : PySem.W.Frag) : Sp := fun vs H Q _ => ∃ (v : V) (lo hi : Int), vs = [v, .int lo, .int hi] ∧ Odd K H v ∧ Q (.bl (isNum lo hi v)) H
def spIs (K : PySem.W.Frag) (lo hi : Int) : Sp := fun vs H Q _ => ∃ (v : V), vs = [v] ∧ Odd K H v ∧ Q (.bl (isNum lo hi v)) H
section
variable {P : Program} {w : World} {K : PySem.W.Frag} {mg : Str → Option Value} {base : Heap} {A : Adr}
theorem ok_is_number (T : Txt K mg A) : FnOk P w K mg base CX0 1 A.is_number A.is_number_ ["value", "low", "high"] (spIsNum K) := by
  refine T.is_number.F.ok sc_is_number (fun vs H Q E h => ?_) (fun cdv Ar outer s H vs Q E hr h => ?_)
  · obtain ⟨v, lo, hi, rfl, _⟩ := h
    rfl
  · obtain ⟨v, lo, hi, rfl, od, k⟩ := h
    refine ⟨_, (pss_cons (ps_if (PW.pt (pw_or (pt_val (pe_callB call_isi (by rfl) T.n_isinstance PyProof.Rows.boot_isinstance (pa_cons (pv 0) (pa_cons (pe_bltn (v := .ty "bool") (by rfl) T.n_bool (by decide +kernel) rfl) pa_nil)))) (pw_or1 (pt_not (pt_val (pe_callB call_isi (by rfl) T.n_isinstance PyProof.Rows.boot_isinstance (pa_cons (pv 0) (pa_cons (pe_bltn (v := .ty "int") (by rfl) T.n_int (by decide +kernel) rfl) pa_nil))))))))
    (pss_one (ps_ret pe_bl))
    pss_nil)
    (pss_one (ps_ret (pe_chain op_le op_le (pv 1) (pv 0) (pv 2))))), ?_⟩
    refine ⟨v, rfl, ?_⟩
    cases od with
    | non =>
      refine ⟨_, _, .type "NoneType", _, false, rfl, .ty _, .base .non, kit_ty (by decide +kernel), _, rfl, ?_⟩
      refine ⟨_, rfl, _, _, .type "NoneType", _, false, rfl, .ty _, .base .non, kit_ty (by decide +kernel), _, rfl, ?_⟩
      exact k
    | bl b =>
      refine ⟨_, _, .type "bool", _, true, rfl, .ty _, .base (.bl b), kit_ty (by decide +kernel), _, rfl, ?_⟩
      exact k
    | int i =>
      refine ⟨_, _, .type "int", _, false, rfl, .ty _, .base (.int i), kit_ty (by decide +kernel), _, rfl, ?_⟩
      refine ⟨_, rfl, _, _, .type "int", _, true, rfl, .ty _, .base (.int i), kit_ty (by decide +kernel), _, rfl, ?_⟩
      refine iteF ?_
      refine ⟨_, rfl, _, rfl, _, _, rfl, rfl, _, rfl, ?_⟩
      have e : isNum lo hi (.int i) = (decide (lo ≤ i) && decide (i ≤ hi)) := rfl
      rw [e] at k
      cases h1 : decide (lo ≤ i) with
      | true =>
        rw [h1] at k
        refine ite2 (fun _ => ?_) (fun z => absurd rfl z)
        refine ⟨_, rfl, _, _, rfl, rfl, ?_⟩
        exact k
      | false =>
        rw [h1] at k
        exact iteF k
    | str x =>
      refine ⟨_, _, .type "str", _, false, rfl, .ty _, .base (.str x), kit_ty (by decide +kernel), _, rfl, ?_⟩
      refine ⟨_, rfl, _, _, .type "str", _, false, rfl, .ty _, .base (.str x), kit_ty (by decide +kernel), _, rfl, ?_⟩
      exact k
    | lst hl =>
      refine ⟨_, _, .type "list", _, false, rfl, .ty _, (ty_lst hl), kit_ty (by decide +kernel), _, rfl, ?_⟩
      refine ⟨_, rfl, _, _, .type "list", _, false, rfl, .ty _, (ty_lst hl), kit_ty (by decide +kernel), _, rfl, ?_⟩
      exact k
    | tup hl =>
      refine ⟨_, _, .type "tuple", _, false, rfl, .ty _, (ty_tupD hl), kit_ty (by decide +kernel), _, rfl, ?_⟩
      refine ⟨_, rfl, _, _, .type "tuple", _, false, rfl, .ty _, (ty_tupD hl), kit_ty (by decide +kernel), _, rfl, ?_⟩
      exact k
theorem ok_is_question (T : Txt K mg A) : FnOk P w K mg base CX0 2 A.is_question A.is_question_ ["value"] (spIs K 0 9999) := by
  refine T.is_question.F.ok sc_is_question (fun vs H Q E h => ?_) (fun cdv Ar outer s H vs Q E hr h => ?_)
  · obtain ⟨v, rfl, _⟩ := h
    rfl
  · obtain ⟨v, rfl, od, k⟩ := h
    refine ⟨_, (pss_one (ps_ret (pe_call (ok_is_number T) (hr.mono (by decide)) (by rfl) T.is_number.n T.is_number.F.kp T.is_number.b .nil pass0 (pa_cons (pv 0) (pa_cons pe_int (pa_cons (pe_gv (by rfl) T.c_LAST_QUESTION) pa_nil)))))), ?_⟩
    exact ⟨_, rfl, v, 0, 9999, rfl, od, k⟩
theorem ok_is_seed (T : Txt K mg A) : FnOk P w K mg base CX0 2 A.is_seed A.is_seed_ ["value"] (spIs K 0 999) := by
  refine T.is_seed.F.ok sc_is_seed (fun vs H Q E h => ?_) (fun cdv Ar outer s H vs Q E hr h => ?_)
  · obtain ⟨v, rfl, _⟩ := h
    rfl
  · obtain ⟨v, rfl, od, k⟩ := h
    refine ⟨_, (pss_one (ps_ret (pe_call (ok_is_number T) (hr.mono (by decide)) (by rfl) T.is_number.n T.is_number.F.kp T.is_number.b .nil pass0 (pa_cons (pv 0) (pa_cons pe_int (pa_cons (pe_gv (by rfl) T.c_LAST_SEED) pa_nil)))))), ?_⟩
    exact ⟨_, rfl, v, 0, 999, rfl, od, k⟩
theorem ok_is_divisor (T : Txt K mg A) : FnOk P w K mg base CX0 2 A.is_divisor A.is_divisor_ ["value"] (spIs K 2 99) := by
  refine T.is_divisor.F.ok sc_is_divisor (fun vs H Q E h => ?_) (fun cdv Ar outer s H vs Q E hr h => ?_)
  · obtain ⟨v, rfl, _⟩ := h
    rfl
  · obtain ⟨v, rfl, od, k⟩ := h
    refine ⟨_, (pss_one (ps_ret (pe_call (ok_is_number T) (hr.mono (by decide)) (by rfl) T.is_number.n T.is_number.F.kp T.is_number.b .nil pass0 (pa_cons (pv 0) (pa_cons (pe_gv (by rfl) T.c_LEAST_DIVISOR) (pa_cons (pe_gv (by rfl) T.c_MOST_DIVISOR) pa_nil)))))), ?_⟩
    exact ⟨_, rfl, v, 2, 99, rfl, od, k⟩
end
end Mh
namespace Mh
open PySem L2
local macro_rules | `(tactic| walk_at "g") => `(tactic| repeat (first
  | refine ⟨_, rfl, ?_⟩
  | refine ⟨_, _, rfl, rfl, ?_⟩
  | refine ⟨rfl, ?_⟩))
/-- a pattern of another length; of this length; another text; this text; a name -/
local macro_rules | `(tactic| walk_at "len-") => `(tactic| (refine ⟨_, _, rfl, (by assumption), ifn (by simp) ?_⟩))
local macro_rules | `(tactic| walk_at "len+") => `(tactic| (refine ⟨_, _, rfl, (by assumption), ifp rfl ?_⟩))
local macro_rules | `(tactic| walk_at "str-") => `(tactic| (refine ⟨_, _, rfl, rfl, ifn (by decide +kernel) ?_⟩))
local macro_rules | `(tactic| walk_at "str+") => `(tactic| (refine ⟨_, _, rfl, rfl, ifp rfl ?_⟩))
local macro_rules | `(tactic| walk_at "name") => `(tactic| (refine ⟨_, _, rfl, ?_⟩))
section
variable {K : PySem.W.Frag} {H : Hp}
/-! what stands at an address, test by test -/
theorem dp_1 {v : V} {x : Str} (h : Dp K H v (.tuple [.str x])) : ∃ a, v = .ref a ∧ SqT K H a [.str x] := by
  obtain ⟨a, xs, rfl, hs, ha⟩ := dp_tup h
  obtain ⟨u, r, rfl, h1, h2⟩ := dps_cons ha
  have e := dps_nil h2
  subst e
  have e := dp_str h1
  subst e
  exact ⟨a, rfl, hs⟩
theorem dp_2 {v : V} {x : Str} {d : PyData} (h : Dp K H v (.tuple [.str x, d])) : ∃ a u, v = .ref a ∧ SqT K H a [.str x, u] ∧ Dp K H u d := by
  obtain ⟨a, xs, rfl, hs, ha⟩ := dp_tup h
  obtain ⟨u, r, rfl, h1, h2⟩ := dps_cons ha
  obtain ⟨u2, r2, rfl, h3, h4⟩ := dps_cons h2
  have e := dps_nil h4
  subst e
  have e := dp_str h1
  subst e
  exact ⟨a, u2, rfl, hs, h3⟩
theorem dp_2i {v : V} {x : Str} {i : Int} (h : Dp K H v (.tuple [.str x, .int i])) : ∃ a, v = .ref a ∧ SqT K H a [.str x, .int i] := by
  obtain ⟨a, u, rfl, hs, h1⟩ := dp_2 h
  have e := dp_int h1
  subst e
  exact ⟨a, rfl, hs⟩
theorem dp_3i {v : V} {x : Str} {i j : Int} (h : Dp K H v (.tuple [.str x, .int i, .int j])) : ∃ a, v = .ref a ∧ SqT K H a [.str x, .int i, .int j] := by
  obtain ⟨a, xs, rfl, hs, ha⟩ := dp_tup h
  obtain ⟨u, r, rfl, h1, h2⟩ := dps_cons ha
  obtain ⟨u2, r2, rfl, h3, h4⟩ := dps_cons h2
  obtain ⟨u3, r3, rfl, h5, h6⟩ := dps_cons h4
  have e := dps_nil h6
  subst e
  have e := dp_str h1
  subst e
  have e := dp_int h3
  subst e
  have e := dp_int h5
  subst e
  exact ⟨a, rfl, hs⟩
theorem dp_pair {v : V} {d e : PyData} (h : Dp K H v (.tuple [d, e])) : ∃ a u z, v = .ref a ∧ SqT K H a [u, z] ∧ Dp K H u d ∧ Dp K H z e := by
  obtain ⟨a, xs, rfl, hs, ha⟩ := dp_tup h
  obtain ⟨u, r, rfl, h1, h2⟩ := dps_cons ha
  obtain ⟨u2, r2, rfl, h3, h4⟩ := dps_cons h2
  have e := dps_nil h4
  subst e
  exact ⟨a, u, u2, rfl, hs, h1, h3⟩
end
theorem dI {i j : Int} : decide (V.int i = V.int j) = decide (i = j) := by
  by_cases h : i = j
  · subst h
    rw [decide_eq_true rfl, decide_eq_true rfl]
  · rw [decide_eq_false h, decide_eq_false fun z => h (V.int.inj z)]
theorem inV_ints {ns : List Int} {q : Int} : inV (.int q) (ns.map V.int) = decide (q ∈ ns) := by
  unfold inV
  induction ns with
  | nil => simp
  | cons n ns ih =>
    rw [List.map_cons, List.any_cons, ih]
    by_cases e : q = n
    · subst e
      simp [eqV]
    · have e2 : ¬ n = q := fun z => e z.symm
      simp [eqV, e, e2]
theorem flat_ints {ns : List Int} : (ns.map V.int).all flatV = true := by
  rw [List.all_eq_true]
  intro x hx
  obtain ⟨n, _, rfl⟩ := List.mem_map.mp hx
  rfl
def spHolds (K : PySem.W.Frag) : Sp := fun vs H Q _ => ∃ (v : V) (t : Tst) (q s : Int), vs = [v, .int q, .int s] ∧ Dp K H v t.dt ∧ t.Ok ∧ Q (.bl (t.holds q s)) H
def spOut (K : PySem.W.Frag) : Sp := fun vs H Q _ => ∃ (v : V) (a : Asw) (q : Int), vs = [v, .int q] ∧ Dp K H v a.dt ∧ a.Ok ∧ Q (oV (a.out q)) H
def spRun (K : PySem.W.Frag) : Sp := fun vs H Q _ => ∃ (v : V) (m : Mach) (q s : Int), vs = [v, .int q, .int s] ∧ Dp K H v (machDt m) ∧ MachOk m ∧ Q (oV (tell q s m)) H
section
variable {P : Program} {w : World} {K : PySem.W.Frag} {mg : Str → Option Value} {base : Heap} {A : Adr}
theorem ok_does_hold (T : Txt K mg A) : FnOk P w K mg base CX0 1 A.does_hold A.does_hold_ ["test", "question", "seed"] (spHolds K) := by
  refine T.does_hold.F.ok sc_does_hold (fun vs H Q E h => ?_) (fun cdv Ar outer s H vs Q E hr h => ?_)
  · obtain ⟨v, t, q, s, rfl, _⟩ := h
    rfl
  · obtain ⟨v, t, q, z, rfl, hv, ho, k⟩ := h
    refine ⟨_, (pss_one (ps_match (pv 0) (pcs_cons [] sc_does_hold.nd own0 (pp_seq (ppq_cons pp_str ppq_nil)) (pss_one (ps_ret pe_bl))
    (pcs_cons [("bound", 3)] sc_does_hold.nd (ownC ⟨rfl, Or.inl rfl, Or.inl rfl⟩ own0) (pp_seq (ppq_cons pp_str (ppq_cons pp_name ppq_nil))) (pss_one (ps_ret (pe_cmpR op_lt (pv 1) (pv 3) (nomark _))))
    (pcs_cons [("divisor", 4), ("rest", 5)] sc_does_hold.nd (ownC ⟨rfl, Or.inl rfl, Or.inl rfl⟩ (ownC ⟨rfl, Or.inl rfl, Or.inl rfl⟩ own0)) (pp_seq (ppq_cons pp_str (ppq_cons pp_name (ppq_cons pp_name ppq_nil)))) (pss_one (ps_ret (pe_cmpR op_eq (pe_op op_mod (pv 1) (pv 4)) (pv 5) (nomark _))))
    (pcs_cons [("divisor", 4), ("rest", 5)] sc_does_hold.nd (ownC ⟨rfl, Or.inl rfl, Or.inl rfl⟩ (ownC ⟨rfl, Or.inl rfl, Or.inl rfl⟩ own0)) (pp_seq (ppq_cons pp_str (ppq_cons pp_name (ppq_cons pp_name ppq_nil)))) (pss_one (ps_ret (pe_cmpR op_eq (pe_op op_mod (pe_op op_add (pe_op op_mul pe_int (pv 1)) (pe_op op_mul pe_int (pv 2))) (pv 4)) (pv 5) (nomark _))))
    (pcs_cons [("numbers", 6)] sc_does_hold.nd (ownC ⟨rfl, Or.inl rfl, Or.inl rfl⟩ own0) (pp_seq (ppq_cons pp_str (ppq_cons pp_name ppq_nil))) (pss_one (ps_ret (pe_cmpR op_in_seq (pv 1) (pv 6) (by rfl))))
    (pcs_cons [] sc_does_hold.nd own0 pp_any (pss_one (ps_ret pe_bl))
    pcs_nil)))))))), ?_⟩
    refine ⟨_, rfl, ?_⟩
    cases t with
    | any =>
      obtain ⟨a, rfl, hs⟩ := dp_1 hv
      walk_at "len+"
      walk_at "str+"
      exact ⟨rfl, k⟩
    | below n =>
      obtain ⟨a, rfl, hs⟩ := dp_2i hv
      walk_at "len-"
      walk_at "len+"
      walk_at "str+"
      walk_at "name"
      refine ⟨rfl, ?_⟩
      walk_at "g"
      exact k
    | rest m r =>
      obtain ⟨a, rfl, hs⟩ := dp_3i hv
      walk_at "len-"
      walk_at "len-"
      walk_at "len+"
      walk_at "str+"
      walk_at "name"
      walk_at "name"
      refine ⟨rfl, ?_⟩
      walk_at "g"
      refine ⟨by have := ho.1; show 0 < m; omega, ?_⟩
      walk_at "g"
      show Q (.bl (decide (V.int (q % m) = V.int r))) H
      rw [dI]
      exact k
    | chance m r =>
      obtain ⟨a, rfl, hs⟩ := dp_3i hv
      walk_at "len-"
      walk_at "len-"
      walk_at "len+"
      walk_at "str-"
      walk_at "len+"
      walk_at "str+"
      walk_at "name"
      walk_at "name"
      refine ⟨rfl, ?_⟩
      refine ⟨_, rfl, _, _, rfl, rfl, .inl (by decide), _, rfl, _, _, rfl, rfl, .inl (by decide), ?_⟩
      walk_at "g"
      refine ⟨by have := ho.1; show 0 < m; omega, ?_⟩
      walk_at "g"
      show Q (.bl (decide (V.int ((7 * q + 13 * z) % m) = V.int r))) H
      rw [dI]
      exact k
    | known ks =>
      obtain ⟨a, u, rfl, hs, hu⟩ := dp_2 hv
      obtain ⟨b, xs, rfl, hb, hx⟩ := dp_tup hu
      have e := dps_ints hx
      subst e
      walk_at "len-"
      walk_at "len+"
      walk_at "str-"
      walk_at "len-"
      walk_at "len-"
      walk_at "len+"
      walk_at "str+"
      walk_at "name"
      refine ⟨rfl, ?_⟩
      refine ⟨_, rfl, _, rfl, b, _, rfl, .inr hb, rfl, flat_ints, ?_⟩
      show Q (.bl (inV (.int q) (ks.map V.int))) H
      rw [inV_ints]
      exact k
theorem ok_outcome (T : Txt K mg A) : FnOk P w K mg base CX0 1 A.outcome A.outcome_ ["answer", "question"] (spOut K) := by
  refine T.outcome.F.ok sc_outcome (fun vs H Q E h => ?_) (fun cdv Ar outer s H vs Q E hr h => ?_)
  · obtain ⟨v, t, q, rfl, _⟩ := h
    rfl
  · obtain ⟨v, t, q, rfl, hv, ho, k⟩ := h
    refine ⟨_, (pss_one (ps_match (pv 0) (pcs_cons [("number", 2)] sc_outcome.nd (ownC ⟨rfl, Or.inl rfl, Or.inl rfl⟩ own0) (pp_seq (ppq_cons pp_str (ppq_cons pp_name ppq_nil))) (pss_one (ps_ret (pv 2)))
    (pcs_cons [("number", 2)] sc_outcome.nd (ownC ⟨rfl, Or.inl rfl, Or.inl rfl⟩ own0) (pp_seq (ppq_cons pp_str (ppq_cons pp_name ppq_nil))) (pss_one (ps_ret (pe_op op_add (pv 1) (pv 2))))
    (pcs_cons [("number", 2)] sc_outcome.nd (ownC ⟨rfl, Or.inl rfl, Or.inl rfl⟩ own0) (pp_seq (ppq_cons pp_str (ppq_cons pp_name ppq_nil))) (pss_one (ps_ret (pe_op op_mul (pv 1) (pv 2))))
    (pcs_cons [("divisor", 3)] sc_outcome.nd (ownC ⟨rfl, Or.inl rfl, Or.inl rfl⟩ own0) (pp_seq (ppq_cons pp_str (ppq_cons pp_name ppq_nil))) (pss_one (ps_ret (pe_op op_mod (pv 1) (pv 3))))
    (pcs_cons [] sc_outcome.nd own0 pp_any (pss_one (ps_ret pe_non))
    pcs_nil))))))), ?_⟩
    refine ⟨_, rfl, ?_⟩
    cases t with
    | num n =>
      obtain ⟨a, rfl, hs⟩ := dp_2i hv
      walk_at "len+"
      walk_at "str+"
      walk_at "name"
      exact ⟨rfl, _, rfl, k⟩
    | plus n =>
      obtain ⟨a, rfl, hs⟩ := dp_2i hv
      walk_at "len+"
      walk_at "str-"
      walk_at "len+"
      walk_at "str+"
      walk_at "name"
      exact ⟨rfl, _, rfl, _, rfl, _, _, rfl, rfl, k⟩
    | times n =>
      obtain ⟨a, rfl, hs⟩ := dp_2i hv
      walk_at "len+"
      walk_at "str-"
      walk_at "len+"
      walk_at "str-"
      walk_at "len+"
      walk_at "str+"
      walk_at "name"
      exact ⟨rfl, _, rfl, _, rfl, _, _, rfl, rfl, .inr ⟨by have := ho.1; omega, by have := ho.2; omega⟩, k⟩
    | rest m =>
      obtain ⟨a, rfl, hs⟩ := dp_2i hv
      walk_at "len+"
      walk_at "str-"
      walk_at "len+"
      walk_at "str-"
      walk_at "len+"
      walk_at "str-"
      walk_at "len+"
      walk_at "str+"
      walk_at "name"
      exact ⟨rfl, _, rfl, _, rfl, _, _, rfl, rfl, (by have := ho.1; show 0 < m; omega), k⟩
    | non =>
      obtain ⟨a, rfl, hs⟩ := dp_1 hv
      walk_at "len-"
      walk_at "len-"
      walk_at "len-"
      walk_at "len-"
      exact ⟨rfl, k⟩
end
end Mh
namespace Mh
open PySem L2
local macro_rules | `(tactic| walk_at "g") => `(tactic| repeat (first
  | refine ⟨_, rfl, ?_⟩
  | refine ⟨_, _, rfl, rfl, ?_⟩
  | refine ⟨rfl, ?_⟩))
theorem row_at {K : PySem.W.Frag} {H : Hp} {vs : List V} {m : Mach} {i : Nat} {x : V} (ha : DpAll K H vs (m.map rowDt)) (hi : vs[i]? = some x) :
    ∃ t a, m[i]? = some (t, a) ∧ ∃ p u z, x = .ref p ∧ SqT K H p [u, z] ∧ Dp K H u t.dt ∧ Dp K H z a.dt := by
  obtain ⟨d, h1, h2⟩ := dps_get ha hi
  rw [List.getElem?_map] at h1
  cases e : m[i]? with
  | none =>
    rw [e] at h1
    cases h1
  | some r =>
    rw [e] at h1
    have e2 : rowDt r = d := Option.some.inj h1
    subst e2
    exact ⟨r.1, r.2, rfl, dp_pair h2⟩
theorem drop_at {α : Type} {m : List α} {i : Nat} {r : α} (h : m[i]? = some r) : m.drop i = r :: m.drop (i + 1) := by
  obtain ⟨h1, h2⟩ := List.getElem?_eq_some_iff.mp h
  rw [List.drop_eq_getElem_cons h1, h2]
section
variable {P : Program} {w : World} {K : PySem.W.Frag} {mg : Str → Option Value} {base : Heap} {A : Adr}
theorem ok_run (T : Txt K mg A) : FnOk P w K mg base CX0 2 A.run A.run_ ["machine", "question", "seed"] (spRun K) := by
  refine T.run.F.ok sc_run (fun vs H Q E h => ?_) (fun cdv Ar outer s H vs Q E hr h => ?_)
  · obtain ⟨v, t, q, z, rfl, _⟩ := h
    rfl
  · obtain ⟨v, m, q, z, rfl, hv, ho, k⟩ := h
    obtain ⟨p, vs, rfl, hs, ha⟩ := dp_tup hv
    refine ⟨_, (pss_cons (ps_for PassesOwn.never rfl (pi_tup (pv 0)) (pg_tup rfl (pgs_cons (pg_name (i := 3) sc_run.nd rfl (Or.inl rfl)) (pgs_cons (pg_name (i := 4) sc_run.nd rfl (Or.inl rfl)) pgs_nil)))
    (pss_one (ps_if (pt_val (pe_call (ok_does_hold T) (hr.mono (by decide)) (by rfl) T.does_hold.n T.does_hold.F.kp T.does_hold.b .nil pass0 (pa_cons (pv 3) (pa_cons (pv 1) (pa_cons (pv 2) pa_nil)))))
    (pss_one (ps_ret (pe_call (ok_outcome T) (hr.mono (by decide)) (by rfl) T.outcome.n T.outcome.F.kp T.outcome.b .nil pass0 (pa_cons (pv 4) (pa_cons (pv 1) pa_nil)))))
    pss_nil)))
    (pss_one (ps_ret pe_non))), ?_⟩
    refine ⟨_, rfl, p, rfl, ⟨vs, hs⟩, for_tup (K := K) (a := p) (xs := vs) (fun i σ H' => H' = H ∧ (∃ x y, σ = [some (.ref p), some (.int q), some (.int z), x, y]) ∧ tell q z m = tell q z (m.drop i)) ⟨rfl, ⟨_, _, rfl⟩, rfl⟩
      (fun i σ H' _ ⟨e, _⟩ => by rw [e]; exact hs) ?_ ?_⟩
    · rintro i x σ H' hi ⟨rfl, ⟨y1, y2, rfl⟩, et⟩
      obtain ⟨t, a, hm, b, u, y, rfl, hb, hu, hy⟩ := row_at ha hi
      obtain ⟨ok1, ok2⟩ := ho.2.2 _ (List.mem_of_getElem? hm)
      rw [drop_at hm] at et
      refine ⟨b, _, rfl, hb, rfl, _, _, rfl, _, _, rfl, rfl, ?_⟩
      refine ⟨_, rfl, _, rfl, _, rfl, u, t, q, z, rfl, hu, ok1, _, rfl, ?_⟩
      refine ite2 (fun e => ?_) (fun e => ?_)
      · refine ⟨_, rfl, _, rfl, y, a, q, rfl, hy, ok2, ?_⟩
        have e2 : tell q z m = a.out q := by
          rw [et]
          show (if t.holds q z = true then a.out q else _) = _
          rw [if_pos e]
        rw [← e2]
        exact k
      · refine ⟨rfl, ⟨_, _, rfl⟩, ?_⟩
        rw [et]
        show (if t.holds q z = true then a.out q else _) = _
        rw [if_neg e]
    · rintro σ H' ⟨rfl, ⟨y1, y2, rfl⟩, et⟩
      have hl : vs.length = m.length := by
        have e := dps_len ha
        rwa [List.length_map] at e
      rw [hl, List.drop_length] at et
      rw [et] at k
      exact k
end
def spKnown (K : PySem.W.Frag) : Sp := fun vs H Q _ => ∃ (a : Addr) (ks : List Int), vs = [.ref a] ∧ SqT K H a (ks.map V.int) ∧ (Tst.known ks).Ok ∧ ∀ H', Same H H' → Q (.bl true) H'
def spTst (K : PySem.W.Frag) : Sp := fun vs H Q _ => ∃ (v : V) (t : Tst), vs = [v] ∧ Dp K H v t.dt ∧ t.Ok ∧ ∀ H', Same H H' → Q (.bl true) H'
def spAsw (K : PySem.W.Frag) : Sp := fun vs H Q _ => ∃ (v : V) (t : Asw), vs = [v] ∧ Dp K H v t.dt ∧ t.Ok ∧ ∀ H', Same H H' → Q (.bl true) H'
def spRow (K : PySem.W.Frag) : Sp := fun vs H Q _ => ∃ (v : V) (r : Tst × Asw), vs = [v] ∧ Dp K H v (rowDt r) ∧ r.1.Ok ∧ r.2.Ok ∧ ∀ H', Same H H' → Q (.bl true) H'
end Mh
namespace Mh
open PySem L2
local macro_rules | `(tactic| walk_at "g") => `(tactic| repeat (first
  | refine ⟨_, rfl, ?_⟩
  | refine ⟨_, _, rfl, rfl, ?_⟩
  | refine ⟨rfl, ?_⟩))
theorem ty_tup {K : PySem.W.Frag} {H : Hp} {a : Addr} {xs : List V} (h : SqT K H a xs) : TyX K H (.ref a) (.type "tuple") := by
  rcases h with h | h
  · rcases h with h | ⟨o, h⟩
    · exact .base (.tup h)
    · exact .fTuple h
  · obtain ⟨o, its, n, h1, h2, _⟩ := h
    exact .kTuple h1 h2
theorem walk_zipT {K : PySem.W.Frag} {a b : Addr} {xs ys : List V} {n : Nat} (hn : n = min xs.length ys.length) : Walk (RZ.ItzT K a b) n (fun H => SqT K H a xs ∧ SqT K H b ys) (YPair (fun i => xs[i]?) (fun i => ys[i]?)) := by
  subst hn
  refine ⟨fun i _ hi q => ?_, fun _ q => ⟨xs, ys, q.1, q.2, by omega⟩, fun i H v H' _ q y => ?_⟩
  · exact ⟨xs, ys, xs[i]'(by omega), ys[i]'(by omega), q.1, q.2, by simp [show i < xs.length by omega], by simp [show i < ys.length by omega]⟩
  · obtain ⟨p, x, z, h1, h2, h3, h4, h5⟩ := y
    exact ⟨p, x, z, h1, h2, h3, h4 xs q.1, h5 ys q.2⟩
theorem yes_ {σ : St} {H : Hp} {Q : Bool → Hp → Prop} (h : Q true H) : tYes σ H Q := h
theorem int_at {ks : List Int} {i : Nat} {x : V} (h : (ks.map V.int)[i]? = some x) : ∃ z, ks[i]? = some z ∧ x = .int z := by
  rw [List.getElem?_map] at h
  cases e : ks[i]? with
  | none =>
    rw [e] at h
    cases h
  | some z =>
    rw [e] at h
    exact ⟨z, rfl, (Option.some.inj h).symm⟩
theorem same_put {H H1 : Hp} {p : Addr} {o : HO} (a : Same H H1) (h : H p = none) : Same H (upd H1 p o) := fun b u e => by
  rw [upd_ne (ne_of_none e h)]
  exact a b u e
section
variable {P : Program} {w : World} {K : PySem.W.Frag} {mg : Str → Option Value} {base : Heap} {A : Adr}
theorem ok_is_known (T : Txt K mg A) : FnOk P w K mg base CX0 3 A.is_known A.is_known_ ["numbers"] (spKnown K) := by
  refine T.is_known.F.ok sc_is_known (fun vs H Q E h => ?_) (fun cdv Ar outer s H vs Q E hr h => ?_)
  · obtain ⟨v, t, rfl, _⟩ := h
    rfl
  · obtain ⟨a, ks, rfl, hs, ⟨l1, l8, pw, hk⟩, k⟩ := h
    refine ⟨_, (pss_cons (ps_if (PW.pt (pw_or (pt_not (pt_val (pe_callB call_isi (by rfl) T.n_isinstance PyProof.Rows.boot_isinstance (pa_cons (pv 0) (pa_cons (pe_bltn (v := .ty "tuple") (by rfl) T.n_tuple PyProof.Rows.boot_tuple rfl) pa_nil))))) (pw_or1 (pt_not (pt_chain op_le op_le pe_int (pe_callB call_len_seq (by rfl) T.n_len PySem.boot_len (pa_cons (pv 0) pa_nil)) (pe_gv (by rfl) T.c_MOST_KNOWN))))))
    (pss_one (ps_ret pe_bl))
    pss_nil)
    (pss_cons (ps_if (pt_not (pt_val (pe_callB (cr_all rfl) (by rfl) T.n_all PyProof.Rows.boot_all (pa_cons (pe_lc (own := [("number", 3)]) (g := gName 3) (tt := tYes) rfl sc_is_known.nd (pi_tup (pv 0)) (blkOk_by (N := N_is_known) (sc := defScope s_is_known) (by decide +kernel)) (fun _ _ _ _ _ => pg_name (i := 3) sc_is_known.nd rfl (Or.inl rfl) (hf := Or.inr rfl)) (fun _ _ _ _ _ => pts_nil) (fun _ _ _ _ _ => (pe_call (ok_is_question T) (hr.mono (by decide)) (by rfl) T.is_question.n T.is_question.F.kp T.is_question.b .nil pass0 (pa_cons (pv 3) pa_nil)))) pa_nil))))
    (pss_one (ps_ret pe_bl))
    pss_nil)
    (pss_one (ps_ret (pe_callB (cr_all rfl) (by rfl) T.n_all PyProof.Rows.boot_all (pa_cons (pe_lc (own := [("one", 1), ("other", 2)]) (g := gTup K 2 (gCons (gName 1) (gCons (gName 2) gNil))) (tt := tYes) rfl sc_is_known.nd (RZ.pi_zipA (by rfl) T.n_zip (pa_cons (pv 0) (pa_cons (pe_slice sl_tup (pv 0) (po_some pe_int) po_none) pa_nil))) (blkOk_by (N := N_is_known) (sc := defScope s_is_known) (by decide +kernel)) (fun _ _ _ _ _ => pg_tup rfl (pgs_cons (pg_name (i := 1) sc_is_known.nd rfl (Or.inl rfl) (hf := Or.inr rfl)) (pgs_cons (pg_name (i := 2) sc_is_known.nd rfl (Or.inl rfl) (hf := Or.inr rfl)) pgs_nil))) (fun _ _ _ _ _ => pts_nil) (fun _ _ _ _ _ => (pe_cmpR op_lt (pv 1) (pv 2) (nomark _)))) pa_nil)))))), ?_⟩
    refine ⟨_, rfl, _, _, .type "tuple", _, true, rfl, .ty _, ty_tup hs, kit_ty (by decide +kernel), _, rfl, ?_⟩
    refine iteF ?_
    refine ⟨_, rfl, a, _, rfl, .inr hs, _, _, rfl, rfl, _, rfl, ?_⟩
    refine ifp (by rw [List.length_map]; exact decide_eq_true (by omega)) ?_
    refine ⟨_, _, rfl, rfl, _, rfl, ?_⟩
    refine ifn (by rw [List.length_map, decide_eq_true (show ((ks.length : Nat) : Int) ≤ 8 by omega)]; simp) ?_
    refine ⟨_, rfl, a, rfl, ⟨_, hs⟩, fun D hD => lc_tup (K := K) (a := a) (xs := ks.map V.int) (fun i H' => Same H H' ∧ H' D = some (.lst ((List.replicate i true).map V.bl))) ⟨(Bt.new (S := []) hD).same, upd_same⟩ (fun i H' _ p => KT.same p.1 _ _ hs) ?_ ?_⟩
    · rintro i x H' hi ⟨sm, hl⟩
      obtain ⟨z, hz, rfl⟩ := int_at hi
      have hz2 := hk z (List.mem_of_getElem? hz)
      have il : i < ks.length := (List.getElem?_eq_some_iff.mp hz).1
      refine ⟨rfl, ?_⟩
      refine yes_ ?_
      refine iteT ?_
      refine ⟨_, rfl, _, rfl, .int z, _, hl, ?_, same_put sm hD, ?_⟩
      · rw [List.length_map, List.length_replicate, sizeLine_eq]
        omega
      · have e : isNum 0 9999 (.int z) = true := by simp [isNum, hz2.1, hz2.2]
        rw [e, upd_same, List.replicate_succ', List.map_append]
        rfl
    · rintro H1 ⟨sm, hl⟩
      refine ⟨D, _, rfl, SqL.of hl, _, rfl, ?_⟩
      refine ifn (by simp) ?_
      have hs1 := KT.same sm _ _ hs
      refine ⟨_, rfl, _, rfl, ⟨_, rfl, a, _, rfl, hs1, ?_, fun p hp => ?_⟩⟩
      · rw [show (some (1 : Int)) = some ((1 : Nat) : Int) from rfl, HT.sIx_nat, List.length_map]
        omega
      have hc : cutV (ks.map V.int) (some 1) none = (ks.drop 1).map V.int := by
        unfold cutV
        rw [show (some (1 : Int)) = some ((1 : Nat) : Int) from rfl, HT.sIx_nat, HT.sIx_none, List.length_map, Nat.min_eq_left l1, List.map_drop]
        exact List.take_of_length_le (by simp)
      rw [hc]
      have sm2 : Same H (upd H1 p (.tup ((ks.drop 1).map V.int))) := same_put sm (sm.free hp)
      refine ⟨a, p, _, _, rfl, .inr ⟨KT.same sm2 _ _ hs, SqT.of upd_same, fun D2 hD2 => ?_⟩⟩
      have hn : ks.length - 1 = min (ks.map V.int).length ((ks.drop 1).map V.int).length := by
        simp only [List.length_map, List.length_drop]
        omega
      refine lc_it (walk_zipT hn) (fun i H' => Same (upd H1 p (.tup ((ks.drop 1).map V.int))) H' ∧ H' D2 = some (.lst ((List.replicate i true).map V.bl))) ⟨(Bt.new (S := []) hD2).same, upd_same⟩
        (fun i H' _ q => ⟨KT.same (sm2.trans q.1) _ _ hs, KT.same q.1 _ _ (SqT.of upd_same)⟩) ?_ ?_
      · rintro i x H2 H3 hi ⟨sm3, hl3⟩ ⟨b, x1, x2, rfl, hb, rfl, hx1, hx2⟩
        obtain ⟨z1, hz1, rfl⟩ := int_at hx1
        obtain ⟨z2, hz2, rfl⟩ := int_at hx2
        have hlt : z1 < z2 := by
          rw [List.getElem?_drop] at hz2
          obtain ⟨g1, e1⟩ := List.getElem?_eq_some_iff.mp hz1
          obtain ⟨g2, e2⟩ := List.getElem?_eq_some_iff.mp hz2
          have q := List.pairwise_iff_getElem.mp pw i (1 + i) g1 g2 (by omega)
          rw [e1, e2] at q
          exact q
        have nb : D2 ≠ b := ne_of_none hl3 hb
        refine ⟨b, _, rfl, SqT.of upd_same, rfl, _, _, rfl, _, _, rfl, rfl, ?_⟩
        refine ⟨rfl, ?_⟩
        refine yes_ ?_
        refine iteT ?_
        refine ⟨_, rfl, _, rfl, _, _, rfl, rfl, _, (upd_ne nb).trans hl3, ?_, same_put (same_put sm3 (sm3.free hb)) hD2, ?_⟩
        · rw [List.length_map, List.length_replicate, sizeLine_eq]
          omega
        · show upd _ D2 (.lst (_ ++ [V.bl (decide (z1 < z2))])) D2 = _
          rw [decide_eq_true hlt, upd_same, List.replicate_succ', List.map_append]
          rfl
      · rintro H2 ⟨sm3, hl3⟩
        refine ⟨D2, _, rfl, SqL.of hl3, ?_⟩
        have e : (List.replicate (ks.length - 1) true).all id = true := by simp
        rw [e]
        exact k _ (sm2.trans sm3)
end
end Mh
namespace Mh
open PySem L2
local macro_rules | `(tactic| walk_at "len-") => `(tactic| (refine ⟨_, _, rfl, (by assumption), ifn (by simp) ?_⟩))
local macro_rules | `(tactic| walk_at "len+") => `(tactic| (refine ⟨_, _, rfl, (by assumption), ifp rfl ?_⟩))
local macro_rules | `(tactic| walk_at "str-") => `(tactic| (refine ⟨_, _, rfl, rfl, ifn (by decide +kernel) ?_⟩))
local macro_rules | `(tactic| walk_at "str+") => `(tactic| (refine ⟨_, _, rfl, rfl, ifp rfl ?_⟩))
local macro_rules | `(tactic| walk_at "name") => `(tactic| (refine ⟨_, _, rfl, ?_⟩))
theorem isNum_t {lo hi i : Int} (h1 : lo ≤ i) (h2 : i ≤ hi) : isNum lo hi (.int i) = true := by simp [isNum, h1, h2]
def spMach (K : PySem.W.Frag) : Sp := fun vs H Q _ => ∃ (v : V) (m : Mach), vs = [v] ∧ Dp K H v (machDt m) ∧ MachOk m ∧ ∀ H', Same H H' → Q .non H'
def spChk (lo hi : Int) : Sp := fun vs H Q _ => ∃ (i : Int), vs = [.int i] ∧ lo ≤ i ∧ i ≤ hi ∧ Q .non H
def spAnswered (K : PySem.W.Frag) : Sp := fun vs H Q _ => ∃ (v : V) (m : Mach) (q s : Int), vs = [v, .int q, .int s] ∧ Dp K H v (machDt m) ∧ MachOk m ∧ 0 ≤ q ∧ q ≤ 9999 ∧ 0 ≤ s ∧ s ≤ 999 ∧ ∀ H', Same H H' → Q (oV (tell q s m)) H'
section
variable {P : Program} {w : World} {K : PySem.W.Frag} {mg : Str → Option Value} {base : Heap} {A : Adr}
theorem ok_is_test (T : Txt K mg A) : FnOk P w K mg base CX0 4 A.is_test A.is_test_ ["test"] (spTst K) := by
  refine T.is_test.F.ok sc_is_test (fun vs H Q E h => ?_) (fun cdv Ar outer s H vs Q E hr h => ?_)
  · obtain ⟨v, t, rfl, _⟩ := h
    rfl
  · obtain ⟨v, t, rfl, hv, ho, k⟩ := h
    have k0 := k H (Same.refl H)
    refine ⟨_, (pss_cons (ps_if (pt_not (pt_val (pe_callB call_isi (by rfl) T.n_isinstance PyProof.Rows.boot_isinstance (pa_cons (pv 0) (pa_cons (pe_bltn (v := .ty "tuple") (by rfl) T.n_tuple PyProof.Rows.boot_tuple rfl) pa_nil)))))
    (pss_one (ps_ret pe_bl))
    pss_nil)
    (pss_one (ps_match (pv 0) (pcs_cons [] sc_is_test.nd own0 (pp_seq (ppq_cons pp_str ppq_nil)) (pss_one (ps_ret pe_bl))
    (pcs_cons [("bound", 1)] sc_is_test.nd (ownC ⟨rfl, Or.inl rfl, Or.inl rfl⟩ own0) (pp_seq (ppq_cons pp_str (ppq_cons pp_name ppq_nil))) (pss_one (ps_ret (pe_call (ok_is_question T) (hr.mono (by decide)) (by rfl) T.is_question.n T.is_question.F.kp T.is_question.b .nil pass0 (pa_cons (pv 1) pa_nil))))
    (pcs_cons [("divisor", 2), ("rest", 3)] sc_is_test.nd (ownC ⟨rfl, Or.inl rfl, Or.inl rfl⟩ (ownC ⟨rfl, Or.inl rfl, Or.inl rfl⟩ own0)) (pp_seq (ppq_cons (pp_or (ppo_cons pp_str (ppo_cons pp_str ppo_nil))) (ppq_cons pp_name (ppq_cons pp_name ppq_nil)))) (pss_one (ps_ret (pe_and (pe_call (ok_is_divisor T) (hr.mono (by decide)) (by rfl) T.is_divisor.n T.is_divisor.F.kp T.is_divisor.b .nil pass0 (pa_cons (pv 2) pa_nil)) (pe_one (pe_call (ok_is_number T) (hr.mono (by decide)) (by rfl) T.is_number.n T.is_number.F.kp T.is_number.b .nil pass0 (pa_cons (pv 3) (pa_cons pe_int (pa_cons (pe_op op_sub (pv 2) pe_int) pa_nil))))))))
    (pcs_cons [("numbers", 4)] sc_is_test.nd (ownC ⟨rfl, Or.inl rfl, Or.inl rfl⟩ own0) (pp_seq (ppq_cons pp_str (ppq_cons pp_name ppq_nil))) (pss_one (ps_ret (pe_call (ok_is_known T) (hr.mono (by decide)) (by rfl) T.is_known.n T.is_known.F.kp T.is_known.b .nil pass0 (pa_cons (pv 4) pa_nil))))
    (pcs_cons [] sc_is_test.nd own0 pp_any (pss_one (ps_ret pe_bl))
    pcs_nil)))))))), ?_⟩
    cases t with
    | any =>
      obtain ⟨a, rfl, hs⟩ := dp_1 hv
      refine ⟨_, rfl, _, _, .type "tuple", _, true, rfl, .ty _, ty_tup hs, kit_ty (by decide +kernel), _, rfl, ?_⟩
      refine iteF ?_
      refine ⟨_, rfl, ?_⟩
      walk_at "len+"
      walk_at "str+"
      exact ⟨rfl, k0⟩
    | below n =>
      obtain ⟨a, rfl, hs⟩ := dp_2i hv
      refine ⟨_, rfl, _, _, .type "tuple", _, true, rfl, .ty _, ty_tup hs, kit_ty (by decide +kernel), _, rfl, ?_⟩
      refine iteF ?_
      refine ⟨_, rfl, ?_⟩
      walk_at "len-"
      walk_at "len+"
      walk_at "str+"
      walk_at "name"
      refine ⟨rfl, _, rfl, _, rfl, .int n, ?_⟩
      rw [isNum_t ho.1 ho.2]
      exact k0
    | rest m r =>
      obtain ⟨h1, h2, h3, h4⟩ := ho
      obtain ⟨a, rfl, hs⟩ := dp_3i hv
      refine ⟨_, rfl, _, _, .type "tuple", _, true, rfl, .ty _, ty_tup hs, kit_ty (by decide +kernel), _, rfl, ?_⟩
      refine iteF ?_
      refine ⟨_, rfl, ?_⟩
      walk_at "len-"
      walk_at "len-"
      walk_at "len+"
      walk_at "str+"
      walk_at "name"
      walk_at "name"
      refine ⟨rfl, _, rfl, _, rfl, .int m, ?_⟩
      rw [isNum_t h1 h2]
      refine ⟨_, rfl, ?_⟩
      refine iteT ?_
      refine ⟨_, rfl, _, rfl, _, _, rfl, rfl, _, _, _, rfl, .int r, ?_⟩
      rw [isNum_t h3 (by omega)]
      exact k0
    | chance m r =>
      obtain ⟨h1, h2, h3, h4⟩ := ho
      obtain ⟨a, rfl, hs⟩ := dp_3i hv
      refine ⟨_, rfl, _, _, .type "tuple", _, true, rfl, .ty _, ty_tup hs, kit_ty (by decide +kernel), _, rfl, ?_⟩
      refine iteF ?_
      refine ⟨_, rfl, ?_⟩
      walk_at "len-"
      walk_at "len-"
      walk_at "len+"
      walk_at "str-"
      refine ⟨rfl, ifp rfl ?_⟩
      walk_at "name"
      walk_at "name"
      refine ⟨rfl, _, rfl, _, rfl, .int m, ?_⟩
      rw [isNum_t h1 h2]
      refine ⟨_, rfl, ?_⟩
      refine iteT ?_
      refine ⟨_, rfl, _, rfl, _, _, rfl, rfl, _, _, _, rfl, .int r, ?_⟩
      rw [isNum_t h3 (by omega)]
      exact k0
    | known ks =>
      obtain ⟨a, u, rfl, hs, hu⟩ := dp_2 hv
      obtain ⟨b, xs, rfl, hb, hx⟩ := dp_tup hu
      have e := dps_ints hx
      subst e
      refine ⟨_, rfl, _, _, .type "tuple", _, true, rfl, .ty _, ty_tup hs, kit_ty (by decide +kernel), _, rfl, ?_⟩
      refine iteF ?_
      refine ⟨_, rfl, ?_⟩
      walk_at "len-"
      walk_at "len+"
      walk_at "str-"
      walk_at "len-"
      walk_at "len+"
      walk_at "str+"
      walk_at "name"
      exact ⟨rfl, _, rfl, b, ks, rfl, hb, ho, k⟩
theorem ok_is_answer (T : Txt K mg A) : FnOk P w K mg base CX0 4 A.is_answer A.is_answer_ ["answer"] (spAsw K) := by
  refine T.is_answer.F.ok sc_is_answer (fun vs H Q E h => ?_) (fun cdv Ar outer s H vs Q E hr h => ?_)
  · obtain ⟨v, t, rfl, _⟩ := h
    rfl
  · obtain ⟨v, t, rfl, hv, ho, k⟩ := h
    have k0 := k H (Same.refl H)
    refine ⟨_, (pss_cons (ps_if (pt_not (pt_val (pe_callB call_isi (by rfl) T.n_isinstance PyProof.Rows.boot_isinstance (pa_cons (pv 0) (pa_cons (pe_bltn (v := .ty "tuple") (by rfl) T.n_tuple PyProof.Rows.boot_tuple rfl) pa_nil)))))
    (pss_one (ps_ret pe_bl))
    pss_nil)
    (pss_one (ps_match (pv 0) (pcs_cons [("number", 1)] sc_is_answer.nd (ownC ⟨rfl, Or.inl rfl, Or.inl rfl⟩ own0) (pp_seq (ppq_cons (pp_or (ppo_cons pp_str (ppo_cons pp_str (ppo_cons pp_str ppo_nil)))) (ppq_cons pp_name ppq_nil))) (pss_one (ps_ret (pe_call (ok_is_number T) (hr.mono (by decide)) (by rfl) T.is_number.n T.is_number.F.kp T.is_number.b .nil pass0 (pa_cons (pv 1) (pa_cons (pe_un un_neg (pe_gv (by rfl) T.c_MOST_IN_ANSWER)) (pa_cons (pe_gv (by rfl) T.c_MOST_IN_ANSWER) pa_nil))))))
    (pcs_cons [("divisor", 2)] sc_is_answer.nd (ownC ⟨rfl, Or.inl rfl, Or.inl rfl⟩ own0) (pp_seq (ppq_cons pp_str (ppq_cons pp_name ppq_nil))) (pss_one (ps_ret (pe_call (ok_is_divisor T) (hr.mono (by decide)) (by rfl) T.is_divisor.n T.is_divisor.F.kp T.is_divisor.b .nil pass0 (pa_cons (pv 2) pa_nil))))
    (pcs_cons [] sc_is_answer.nd own0 (pp_seq (ppq_cons pp_str ppq_nil)) (pss_one (ps_ret pe_bl))
    (pcs_cons [] sc_is_answer.nd own0 pp_any (pss_one (ps_ret pe_bl))
    pcs_nil))))))), ?_⟩
    cases t with
    | num n =>
      obtain ⟨a, rfl, hs⟩ := dp_2i hv
      refine ⟨_, rfl, _, _, .type "tuple", _, true, rfl, .ty _, ty_tup hs, kit_ty (by decide +kernel), _, rfl, ?_⟩
      refine iteF ?_
      refine ⟨_, rfl, ?_⟩
      walk_at "len+"
      walk_at "str+"
      walk_at "name"
      refine ⟨rfl, _, rfl, _, rfl, _, _, _, rfl, .int n, ?_⟩
      rw [isNum_t ho.1 ho.2]
      exact k0
    | plus n =>
      obtain ⟨a, rfl, hs⟩ := dp_2i hv
      refine ⟨_, rfl, _, _, .type "tuple", _, true, rfl, .ty _, ty_tup hs, kit_ty (by decide +kernel), _, rfl, ?_⟩
      refine iteF ?_
      refine ⟨_, rfl, ?_⟩
      walk_at "len+"
      walk_at "str-"
      refine ⟨rfl, ifp rfl ?_⟩
      walk_at "name"
      refine ⟨rfl, _, rfl, _, rfl, _, _, _, rfl, .int n, ?_⟩
      rw [isNum_t ho.1 ho.2]
      exact k0
    | times n =>
      obtain ⟨a, rfl, hs⟩ := dp_2i hv
      refine ⟨_, rfl, _, _, .type "tuple", _, true, rfl, .ty _, ty_tup hs, kit_ty (by decide +kernel), _, rfl, ?_⟩
      refine iteF ?_
      refine ⟨_, rfl, ?_⟩
      walk_at "len+"
      walk_at "str-"
      refine ⟨rfl, ifn (by decide +kernel) ?_⟩
      refine ⟨rfl, ifp rfl ?_⟩
      walk_at "name"
      refine ⟨rfl, _, rfl, _, rfl, _, _, _, rfl, .int n, ?_⟩
      rw [isNum_t ho.1 ho.2]
      exact k0
    | rest m =>
      obtain ⟨a, rfl, hs⟩ := dp_2i hv
      refine ⟨_, rfl, _, _, .type "tuple", _, true, rfl, .ty _, ty_tup hs, kit_ty (by decide +kernel), _, rfl, ?_⟩
      refine iteF ?_
      refine ⟨_, rfl, ?_⟩
      walk_at "len+"
      walk_at "str-"
      refine ⟨rfl, ifn (by decide +kernel) ?_⟩
      refine ⟨rfl, ifn (by decide +kernel) ?_⟩
      walk_at "len+"
      walk_at "str+"
      walk_at "name"
      refine ⟨rfl, _, rfl, _, rfl, .int m, ?_⟩
      rw [isNum_t ho.1 ho.2]
      exact k0
    | non =>
      obtain ⟨a, rfl, hs⟩ := dp_1 hv
      refine ⟨_, rfl, _, _, .type "tuple", _, true, rfl, .ty _, ty_tup hs, kit_ty (by decide +kernel), _, rfl, ?_⟩
      refine iteF ?_
      refine ⟨_, rfl, ?_⟩
      walk_at "len-"
      walk_at "len-"
      walk_at "len+"
      walk_at "str+"
      exact ⟨rfl, k0⟩
theorem ok_is_row (T : Txt K mg A) : FnOk P w K mg base CX0 5 A.is_row A.is_row_ ["row"] (spRow K) := by
  refine T.is_row.F.ok sc_is_row (fun vs H Q E h => ?_) (fun cdv Ar outer s H vs Q E hr h => ?_)
  · obtain ⟨v, t, rfl, _⟩ := h
    rfl
  · obtain ⟨v, ⟨t, a⟩, rfl, hv, ho1, ho2, k⟩ := h
    obtain ⟨b, u, z, rfl, hs, hu, hz⟩ := dp_pair hv
    refine ⟨_, (pss_cons (ps_if (PW.pt (pw_or (pt_not (pt_val (pe_callB call_isi (by rfl) T.n_isinstance PyProof.Rows.boot_isinstance (pa_cons (pv 0) (pa_cons (pe_bltn (v := .ty "tuple") (by rfl) T.n_tuple PyProof.Rows.boot_tuple rfl) pa_nil))))) (pw_or1 (pt_cmpR op_ne (pe_callB call_len_seq (by rfl) T.n_len PySem.boot_len (pa_cons (pv 0) pa_nil)) pe_int (nomark _)))))
    (pss_one (ps_ret pe_bl))
    pss_nil)
    (pss_one (ps_ret (pe_and (pe_call (ok_is_test T) (hr.mono (by decide)) (by rfl) T.is_test.n T.is_test.F.kp T.is_test.b .nil pass0 (pa_cons (pe_ix ix_tup (pv 0) pe_int (fun _ _ => rfl)) pa_nil)) (pe_one (pe_call (ok_is_answer T) (hr.mono (by decide)) (by rfl) T.is_answer.n T.is_answer.F.kp T.is_answer.b .nil pass0 (pa_cons (pe_ix ix_tup (pv 0) pe_int (fun _ _ => rfl)) pa_nil))))))), ?_⟩
    refine ⟨_, rfl, _, _, .type "tuple", _, true, rfl, .ty _, ty_tup hs, kit_ty (by decide +kernel), _, rfl, ?_⟩
    refine iteF ?_
    refine ⟨_, rfl, b, _, rfl, .inr hs, rfl, _, rfl, ?_⟩
    refine iteF ?_
    refine ⟨_, rfl, b, _, _, _, rfl, rfl, hs, at0, u, t, rfl, hu, ho1, fun H1 s1 => ⟨_, rfl, ?_⟩⟩
    refine iteT ?_
    exact ⟨_, rfl, b, _, _, _, rfl, rfl, KT.same s1 _ _ hs, at1, z, a, rfl, dp_keep (KT.same s1) _ _ a.td hz, ho2, fun H2 s2 => k H2 (s1.trans s2)⟩
end
end Mh
namespace Mh
open PySem L2
def spDice (K : PySem.W.Frag) : Sp := fun vs H Q _ => ∃ (a : Addr) (ns : List Int) (k0 : Int), vs = [.ref a, .int k0] ∧ SqL K H a (ns.map V.int) ∧ ns.length ≤ 63 ∧ 0 ≤ k0 ∧ k0 < 2147483647 ∧
  ∀ p H' xs, H p = none → Same H H' → H' p = some (.lst xs) → Dice xs → Q (.ref p) H'
section
variable {P : Program} {w : World} {K : PySem.W.Frag} {mg : Str → Option Value} {base : Heap} {A : Adr}
theorem ok_check_machine (T : Txt K mg A) : FnOk P w K mg base CX0 6 A.check_machine A.check_machine_ ["machine"] (spMach K) := by
  refine T.check_machine.F.ok sc_check_machine (fun vs H Q E h => ?_) (fun cdv Ar outer s H vs Q E hr h => ?_)
  · obtain ⟨v, t, rfl, _⟩ := h
    rfl
  · obtain ⟨v, m, rfl, hv, ⟨l1, l12, ho⟩, k⟩ := h
    obtain ⟨p, vs, rfl, hs, ha⟩ := dp_tup hv
    have hl : vs.length = m.length := by
      have e := dps_len ha
      rwa [List.length_map] at e
    refine ⟨_, (pss_cons (ps_if (PW.pt (pw_or (pt_not (pt_val (pe_callB call_isi (by rfl) T.n_isinstance PyProof.Rows.boot_isinstance (pa_cons (pv 0) (pa_cons (pe_bltn (v := .ty "tuple") (by rfl) T.n_tuple PyProof.Rows.boot_tuple rfl) pa_nil))))) (pw_or1 (pt_cmpR op_eq (pe_callB call_len_seq (by rfl) T.n_len PySem.boot_len (pa_cons (pv 0) pa_nil)) pe_int (nomark _)))))
    (pss_one ps_never)
    pss_nil)
    (pss_one (ps_for PassesOwn.never rfl (pi_enumT (by rfl) T.n_enumerate (pa_cons (pv 0) pa_nil)) (pg_tup rfl (pgs_cons (pg_name (i := 1) sc_check_machine.nd rfl (Or.inl rfl)) (pgs_cons (pg_name (i := 2) sc_check_machine.nd rfl (Or.inl rfl)) pgs_nil)))
    (pss_one (ps_if (PW.pt (pw_or (pt_cmpR op_eq (pv 1) (pe_gv (by rfl) T.c_MOST_ROWS) (nomark _)) (pw_or1 (pt_not (pt_val (pe_call (ok_is_row T) (hr.mono (by decide)) (by rfl) T.is_row.n T.is_row.F.kp T.is_row.b .nil pass0 (pa_cons (pv 2) pa_nil)))))))
    (pss_one ps_never)
    pss_nil))))), ?_⟩
    refine ⟨_, rfl, _, _, .type "tuple", _, true, rfl, .ty _, ty_tup hs, kit_ty (by decide +kernel), _, rfl, ?_⟩
    refine iteF ?_
    refine ⟨_, rfl, p, _, rfl, .inr hs, rfl, _, rfl, ?_⟩
    refine ifn (by rw [dI, decide_eq_false (by omega)]; simp) ?_
    refine ⟨_, rfl, p, _, rfl, hs, for_it (walk_enumT (xs := vs)) (fun i σ H' => Same H H' ∧ ∃ x y, σ = [some (.ref p), x, y]) ⟨Same.refl H, _, _, rfl⟩ (fun i σ H' _ ⟨e, _⟩ => KT.same e _ _ hs) ?_ ?_⟩
    · rintro i x σ H1 H2 hi ⟨sm, y1, y2, rfl⟩ ⟨b, x1, x2, rfl, hb, rfl, hx1, hx2⟩
      have e1 := Option.some.inj hx1
      subst e1
      obtain ⟨t, a, hm, c, u, z, rfl, hc, hu, hz⟩ := row_at ha hx2
      obtain ⟨ok1, ok2⟩ := ho _ (List.mem_of_getElem? hm)
      have sm2 : Same H (upd H1 b (.tup [.int (i : Nat), .ref c])) := same_put sm (sm.free hb)
      have kt := KT.same (K := K) sm2
      refine ⟨b, _, rfl, SqT.of upd_same, rfl, _, _, rfl, _, _, rfl, rfl, ?_⟩
      refine ⟨_, rfl, rfl, _, rfl, ?_⟩
      refine ifn (by rw [dI, decide_eq_false (by omega)]; simp) ?_
      refine ⟨_, rfl, .ref c, (t, a), rfl, .tup (kt _ _ hc) (.cons (dp_keep kt _ _ t.td hu) (.cons (dp_keep kt _ _ a.td hz) .nil)), ok1, ok2, fun H3 s3 => ⟨_, rfl, ?_⟩⟩
      refine iteF ?_
      exact ⟨sm2.trans s3, _, _, rfl⟩
    · rintro σ H1 ⟨sm, _⟩
      exact k H1 sm
theorem ok_check_seed (T : Txt K mg A) : FnOk P w K mg base CX0 3 A.check_seed A.check_seed_ ["seed"] (spChk 0 999) := by
  refine T.check_seed.F.ok sc_check_seed (fun vs H Q E h => ?_) (fun cdv Ar outer s H vs Q E hr h => ?_)
  · obtain ⟨v, rfl, _⟩ := h
    rfl
  · obtain ⟨v, rfl, h0, h1, k⟩ := h
    refine ⟨_, (pss_one (ps_if (pt_not (pt_val (pe_call (ok_is_seed T) (hr.mono (by decide)) (by rfl) T.is_seed.n T.is_seed.F.kp T.is_seed.b .nil pass0 (pa_cons (pv 0) pa_nil))))
    (pss_one ps_never)
    pss_nil)), ?_⟩
    refine ⟨_, rfl, _, rfl, .int v, ?_⟩
    rw [isNum_t h0 h1]
    refine ⟨_, rfl, ?_⟩
    exact iteF k
theorem ok_dice (T : Txt K mg A) : FnOk P w K mg base CX0 1 A.dice A.dice_ ["_law_script", "_law_k"] (spDice K) := by
  refine T.dice.F.ok sc_dice (fun vs H Q E h => ?_) (fun cdv Ar outer s H vs Q E hr h => ?_)
  · obtain ⟨a, ns, k0, rfl, _⟩ := h
    rfl
  · obtain ⟨a, ns, k0, rfl, hs, hl, h0, h1, k⟩ := h
    refine ⟨_, (pss_cons (ps_set (i := 2) sc_dice.nd rfl (Or.inl rfl) (pv 1))
    (pss_cons (ps_for PassesOwn.never rfl (pi_list (pv 0)) (pg_name (i := 3) sc_dice.nd rfl (Or.inl rfl))
    (pss_one (ps_set (i := 2) sc_dice.nd rfl (Or.inl rfl) (pe_op op_mod (pe_op op_add (pe_op op_mul (pv 2) pe_int) (pe_callB call_abs (by rfl) T.n_abs PyProof.Rows.boot_abs (pa_cons (pv 3) pa_nil))) pe_int))))
    (pss_one (ps_ret (pe_op op_cat (pe_lst (pa_cons (pv 2) (pa_cons pe_int pa_nil))) (pe_lc (own := [("_law_cell", 3)]) (g := gName 3)  rfl sc_dice.nd (pi_list (pv 0)) (blkOk_by (N := N_dice) (sc := defScope s_dice) (by decide +kernel)) (fun _ _ _ _ _ => pg_name (i := 3) sc_dice.nd rfl (Or.inl rfl) (hf := Or.inr rfl)) (fun _ _ _ _ _ => (pts_one (pt_cmpR op_ge (pv 3) (pe_op op_pow pe_int pe_int) (nomark _)))) (fun _ _ _ _ _ => (pv 3)))))))), ?_⟩
    refine ⟨_, rfl, _, rfl, a, rfl, ⟨_, hs⟩, for_list (K := K) (a := a) (xs := ns.map V.int) (fun i σ H' => H' = H ∧ ∃ f y, σ = [some (.ref a), some (.int k0), some (.int f), y] ∧ 0 ≤ f ∧ f < 2147483647) ⟨rfl, _, _, rfl, h0, h1⟩
      (fun i σ H' _ ⟨e, _⟩ => by rw [e]; exact hs) ?_ ?_⟩
    · rintro i x σ H1 hi ⟨rfl, f, y, rfl, f0, f1⟩
      obtain ⟨z, hz, rfl⟩ := int_at hi
      refine ⟨_, rfl, _, _, rfl, rfl, .inl ⟨by omega, by omega⟩, _, rfl, _, rfl, _, _, rfl, rfl, _, _, rfl, rfl, (by show (0 : Int) < 2147483647; decide), ?_⟩
      exact ⟨rfl, _, _, rfl, Int.emod_nonneg _ (by decide), Int.emod_lt_of_pos _ (by decide)⟩
    · rintro σ H1 ⟨rfl, f, y, rfl, f0, f1⟩
      refine ⟨_, rfl, (by show 2 ≤ sizeLine; decide), fun p hp => ?_⟩
      have sm := same_put (Same.refl H1) (o := .lst [.int f, .int 0]) hp
      refine ⟨_, rfl, a, rfl, ⟨_, sm.seq hs⟩, fun D hD => lc_list (K := K) (a := a) (xs := ns.map V.int) (fun i H' => Same (upd H1 p (.lst [.int f, .int 0])) H' ∧ ∃ r : List Int, H' D = some (.lst (r.map V.int)) ∧ r.length ≤ i ∧ ∀ z ∈ r, 0 ≤ z)
        ⟨(Bt.new (S := []) hD).same, [], upd_same, Nat.le_refl _, by simp⟩ (fun i H' _ q => (sm.trans q.1).seq hs) ?_ ?_⟩
      · rintro i x H2 hi ⟨sm2, r, hr2, hr3, hr4⟩
        obtain ⟨z, hz, rfl⟩ := int_at hi
        have il := (List.getElem?_eq_some_iff.mp hz).1
        refine ⟨rfl, _, rfl, _, _, rfl, rfl, ⟨by decide, by decide, by decide⟩, _, _, rfl, rfl, _, rfl, ?_⟩
        refine ite2 (fun e => ?_) (fun e => ?_)
        · refine ⟨_, rfl, _, hr2, ?_, same_put sm2 hD, r ++ [z], ?_, ?_, ?_⟩
          · rw [List.length_map, sizeLine_eq]
            omega
          · rw [upd_same, List.map_append]
            rfl
          · simp
            omega
          · intro y hy
            rcases List.mem_append.mp hy with h | h
            · exact hr4 y h
            · have e2 : y = z := by simpa using h
              have e3 := of_decide_eq_true e
              rw [e2]
              have e4 : (10 : Int) ^ (18 : Int).toNat = 1000000000000000000 := by decide
              rw [e4] at e3
              omega
        · exact ⟨sm2, r, hr2, by omega, hr4⟩
      · rintro H2 ⟨sm2, r, hr2, hr3, hr4⟩
        rw [List.length_map] at hr3
        refine ⟨p, D, _, _, rfl, rfl, sm2 _ _ upd_same, hr2, ?_, fun p2 hp2 => ?_⟩
        · rw [List.length_map, sizeLine_eq]
          simp
          omega
        · have smA := sm.trans sm2
          exact k p2 _ _ (smA.free hp2) (same_put smA (smA.free hp2)) upd_same ⟨f, 0, r, rfl, f0, f1, by decide, by omega, hr4⟩
end
end Mh
namespace Mh
open PySem L2
local macro_rules | `(tactic| walk_at "g") => `(tactic| repeat (first
  | refine ⟨_, rfl, ?_⟩
  | refine ⟨_, _, rfl, rfl, ?_⟩
  | refine ⟨_, _, _, _, rfl, rfl, SqL.of (by assumption), at0, ?_⟩
  | refine ⟨_, _, _, _, rfl, rfl, SqL.of (by assumption), at1, ?_⟩
  | refine ⟨_, _, rfl, .inl (SqL.of (by assumption)), ?_⟩
  | refine ⟨rfl, ?_⟩))
def spOff : Sp := fun vs H Q _ => ∃ (d : Addr) (n : Int) (xs : List V), vs = [.ref d, .int n] ∧ H d = some (.lst xs) ∧ Dice xs ∧ 0 < n ∧ n < 1073741824 ∧
  ∀ (r : Int) (ys : List V), 0 ≤ r → r < n → Dice ys → Q (.int r) (upd H d (.lst ys))
section
variable {P : Program} {w : World} {K : PySem.W.Frag} {mg : Str → Option Value} {base : Heap} {A : Adr}
theorem ok_off (T : Txt K mg A) : FnOk P w K mg base CX0 1 A.off A.off_ ["_law_d", "_law_upto"] spOff := by
  refine T.off.F.ok sc_off (fun vs H Q E h => ?_) (fun cdv Ar outer s H vs Q E hr h => ?_)
  · obtain ⟨d, n, xs, rfl, _⟩ := h
    rfl
  · obtain ⟨d, n, xs, rfl, hd, ⟨a, b, r, rfl, a0, a1, b0, hl, hz⟩, n0, n1, k⟩ := h
    refine ⟨_, (Evl.pss_cut (ps_if (PW.pt (pw_and (pt_cmpR op_eq (pe_ix ix_list (pv 0) pe_int (fun _ _ => rfl)) pe_int (nomark _)) (pw_and1 (pt_cmpR op_gt (pe_callB call_len_seq (by rfl) T.n_len PySem.boot_len (pa_cons (pv 0) pa_nil)) pe_int (nomark _)))))
    (pss_one (ps_asg (pe_bm PySem.F.plainAttrs_list PySem.F.slot_list_pop PySem.F.type_list_pop mt_popAt (pv 0) (pa_cons pe_int pa_nil)) (pg_sub (pv 0) pe_int set_list)))
    pss_nil)
    (pss_cons (ps_if (pt_cmpR op_gt (pe_ix ix_list (pv 0) pe_int (fun _ _ => rfl)) pe_int (nomark _))
    (pss_cons (ps_set (i := 2) sc_off.nd rfl (Or.inl rfl) (pe_op op_mod (pe_ix ix_list (pv 0) pe_int (fun _ _ => rfl)) (pv 1)))
    (pss_cons (ps_asg (pe_op op_fdiv (pe_ix ix_list (pv 0) pe_int (fun _ _ => rfl)) (pv 1)) (pg_sub (pv 0) pe_int set_list))
    (pss_one (ps_ret (pv 2)))))
    pss_nil)
    (pss_cons (ps_asg (pe_op op_mod (pe_op op_add (pe_op op_mul (pe_ix ix_list (pv 0) pe_int (fun _ _ => rfl)) pe_int) pe_int) pe_int) (pg_sub (pv 0) pe_int set_list))
    (pss_one (ps_ret (pe_op op_mod (pe_op op_fdiv (pe_ix ix_list (pv 0) pe_int (fun _ _ => rfl)) pe_int) (pv 1))))))), ?_⟩
    refine ⟨fun σ H1 => σ = [some (.ref d), some (.int n), none] ∧ (∀ ys, upd H1 d (.lst ys) = upd H d (.lst ys)) ∧ ∃ (b1 : Int) (r1 : List Int), H1 d = some (.lst (.int a :: .int b1 :: r1.map V.int)) ∧ 0 ≤ b1 ∧ r1.length ≤ 63 ∧ ∀ z ∈ r1, 0 ≤ z, ?_, ?_⟩
    · have here : (∀ ys, upd H d (.lst ys) = upd H d (.lst ys)) ∧ ∃ (b1 : Int) (r1 : List Int), H d = some (.lst (.int a :: .int b1 :: r1.map V.int)) ∧ 0 ≤ b1 ∧ r1.length ≤ 63 ∧ ∀ z ∈ r1, 0 ≤ z := ⟨fun _ => rfl, b, r, hd, b0, hl, hz⟩
      walk_at "g"
      refine ite2 (fun e => ?_) (fun e => ?_)
      · walk_at "g"
        refine ite2 (fun e2 => ?_) (fun e2 => ?_)
        · have l2 := of_decide_eq_true e2
          cases r with
          | nil => simp at l2
          | cons z r =>
            refine ⟨_, rfl, .inl ⟨rfl, _, SqL.of hd⟩, ?_⟩
            refine ⟨d, _, 2, 2, .int z, rfl, rfl, hd, by decide, by decide, by simp [seqIndex?]; omega, rfl, ?_⟩
            refine ⟨_, rfl, d, _, 1, 1, rfl, rfl, upd_same, by simp [ixN]; omega, ?_⟩
            refine ⟨rfl, fun ys => ?_, z, r, ?_, hz z (by simp), by simp at hl; omega, fun y hy => hz y (by simp [hy])⟩
            · rw [upd_upd, upd_upd]
            · rw [upd_same]
              rfl
        · exact ⟨rfl, here⟩
      · exact ⟨rfl, here⟩
    · rintro σ H1 ⟨rfl, hu1, b1, r1, h1, b10, hl1, hz1⟩
      walk_at "g"
      refine ite2 (fun e => ?_) (fun e => ?_)
      · walk_at "g"
        refine ⟨n0, ?_⟩
        walk_at "g"
        refine ⟨⟨n0, n1⟩, ?_⟩
        refine ⟨_, rfl, d, _, 1, 1, rfl, rfl, h1, by simp [ixN]; omega, ?_⟩
        walk_at "g"
        rw [hu1]
        exact k _ _ (Int.emod_nonneg _ (by omega)) (Int.emod_lt_of_pos _ n0) ⟨a, b1 / n, r1, rfl, a0, a1, Int.ediv_nonneg b10 (by omega), hl1, hz1⟩
      · walk_at "g"
        refine ⟨.inr (by decide), ?_⟩
        walk_at "g"
        refine ⟨by show (0 : Int) < 2147483647; decide, ?_⟩
        refine ⟨_, rfl, d, _, 0, 0, rfl, rfl, h1, by simp [ixN]; omega, ?_⟩
        have h2 : upd H1 d (.lst ((V.int a :: V.int b1 :: r1.map V.int).set 0 (V.int ((a * 48271 + 11) % 2147483647)))) d = some (.lst (.int ((a * 48271 + 11) % 2147483647) :: .int b1 :: r1.map V.int)) := upd_same
        walk_at "g"
        refine ⟨⟨by decide, by decide⟩, ?_⟩
        walk_at "g"
        refine ⟨n0, ?_⟩
        rw [hu1]
        exact k _ _ (Int.emod_nonneg _ (by omega)) (Int.emod_lt_of_pos _ n0) ⟨(a * 48271 + 11) % 2147483647, b1, r1, rfl, Int.emod_nonneg _ (by decide), Int.emod_lt_of_pos _ (by decide), b10, hl1, hz1⟩
end

/-! ### draws, as readings -/
/-- the dice stand at d -/
def DS (d : Addr) (H : Hp) : Prop := ∃ ys, H d = some (.lst ys) ∧ Dice ys
section
variable {K : PySem.W.Frag} {σ : St} {H : Hp} {Q : VK} {d : Addr} {i : Nat}
theorem DS.kt {H' : Hp} (h : DS d H) (b : Bt [d] H H') : KT K H H' := by
  obtain ⟨ys, h1, _⟩ := h
  exact b.kt1 h1
theorem DS.ne {p : Addr} (h : DS d H) (hp : H p = none) : d ≠ p := by
  obtain ⟨ys, h1, _⟩ := h
  exact ne_of_none h1 hp
theorem DS.new {p : Addr} {o : HO} (h : DS d H) (hp : H p = none) : DS d (upd H p o) := by
  have n := h.ne hp
  obtain ⟨ys, h1, h2⟩ := h
  exact ⟨ys, (upd_ne n).trans h1, h2⟩
abbrev tOffE (i : Nat) (t : TE) : TE := tCall spOff [] E0 (tCons (tVar i) (tCons t tNil))
theorem nil_ {σ : St} {H : Hp} {Q : List V → Hp → Prop} (h : Q [] H) : tNil σ H Q := h
theorem rd_offV {x : V} {n : Int} (hx : x = .int n) (hd : DS d H) (h0 : 0 < n) (h1 : n < 1073741824) (k : ∀ (r : Int) (H' : Hp), 0 ≤ r → r < n → Bt [d] H H' → DS d H' → Q (.int r) H') :
    spOff ([.ref d, x] ++ []) H Q E0 := by
  obtain ⟨ys, h2, h3⟩ := hd
  subst hx
  exact ⟨d, n, ys, rfl, h2, h3, h0, h1, fun r zs r0 r1 dz => k r _ r0 r1 (Bt.refl.set (by simp)) ⟨zs, upd_same, dz⟩⟩
theorem rd_off {n : Int} (hσ : σ[i]? = some (some (.ref d))) (hd : DS d H) (h0 : 0 < n) (h1 : n < 1073741824) (k : ∀ (r : Int) (H' : Hp), 0 ≤ r → r < n → Bt [d] H H' → DS d H' → Q (.int r) H') :
    tOffE i (tC (.int n)) σ H Q := ⟨_, hσ, rd_offV rfl hd h0 h1 k⟩
theorem at_two {x y : V} {r : Int} (r0 : 0 ≤ r) (r1 : r < 2) : ∃ z, atI [x, y] r = some z ∧ (z = x ∨ z = y) := by
  have h : r = 0 ∨ r = 1 := by omega
  rcases h with h | h
  · subst h
    exact ⟨x, at0, .inl rfl⟩
  · subst h
    exact ⟨y, at1, .inr rfl⟩
theorem at_three {x y u : V} {r : Int} (r0 : 0 ≤ r) (r1 : r < 3) : ∃ z, atI [x, y, u] r = some z ∧ (z = x ∨ z = y ∨ z = u) := by
  have h : r = 0 ∨ r = 1 ∨ r = 2 := by omega
  rcases h with h | h | h
  · subst h
    exact ⟨x, at0, .inl rfl⟩
  · subst h
    exact ⟨y, at1, .inr (.inl rfl)⟩
  · subst h
    exact ⟨u, at2, .inr (.inr rfl)⟩
/-- [off(a), off(b)][off(2)] -/
theorem rd_pick {a b : Int} (hσ : σ[i]? = some (some (.ref d))) (hd : DS d H) (a0 : 0 < a) (a1 : a < 1073741824) (b0 : 0 < b) (b1 : b < 1073741824)
    (k : ∀ (r : Int) (H' : Hp), 0 ≤ r → (r < a ∨ r < b) → Bt [d] H H' → DS d H' → Q (.int r) H') :
    tOp (rIxL K) (tLst (tCons (tOffE i (tC (.int a))) (tCons (tOffE i (tC (.int b))) tNil))) (tOffE i (tC (.int 2))) σ H Q := by
  refine rd_off hσ hd a0 a1 fun r1 H1 r10 r11 b1' d1 => ?_
  refine rd_off hσ d1 b0 b1 fun r2 H2 r20 r21 b2' d2 => ?_
  refine ⟨by show 2 ≤ sizeLine; decide, fun l hl => ?_⟩
  refine rd_off hσ (d2.new hl) (by decide) (by decide) fun r3 H3 r30 r31 b3' d3 => ?_
  obtain ⟨z, hz, hc⟩ := at_two (x := .int r1) (y := .int r2) r30 r31
  have nl : l ∉ [d] := by
    simp only [List.mem_singleton]
    exact (d2.ne hl).symm
  refine ⟨l, _, r3, z, rfl, rfl, SqL.of (b3' _ _ nl upd_same), hz, ?_⟩
  have bt : Bt [d] H H3 := ((b1'.trans b2').trans (Bt.new hl)).trans b3'
  rcases hc with rfl | rfl
  · exact k r1 H3 r10 (.inl r11) bt d3
  · exact k r2 H3 r20 (.inr r21) bt d3
/-- [x, y][off(2)], x and y written -/
theorem rd_two {x y : V} (hσ : σ[i]? = some (some (.ref d))) (hd : DS d H)
    (k : ∀ (z : V) (H' : Hp), (z = x ∨ z = y) → Bt [d] H H' → DS d H' → Q z H') :
    tOp (rIxL K) (tLst (tCons (tC x) (tCons (tC y) tNil))) (tOffE i (tC (.int 2))) σ H Q := by
  refine ⟨by show 2 ≤ sizeLine; decide, fun l hl => ?_⟩
  refine rd_off hσ (hd.new hl) (by decide) (by decide) fun r3 H3 r30 r31 b3' d3 => ?_
  obtain ⟨z, hz, hc⟩ := at_two (x := x) (y := y) r30 r31
  have nl : l ∉ [d] := by
    simp only [List.mem_singleton]
    exact (hd.ne hl).symm
  exact ⟨l, _, r3, z, rfl, rfl, SqL.of (b3' _ _ nl upd_same), hz, k z H3 hc ((Bt.new hl).trans b3') d3⟩
end
/-- what is drawn: a value that tells some datum that can be -/
def spGen (K : PySem.W.Frag) {α : Type} (dt : α → PyData) (ok : α → Prop) : Sp := fun vs H Q _ => ∃ (d : Addr), vs = [.ref d] ∧ DS d H ∧
  ∀ (v : V) (t : α) (H' : Hp), Bt [d] H H' → DS d H' → Dp K H' v (dt t) → ok t → Q v H'
end Mh
namespace Mh
open PySem L2
section
variable {P : Program} {w : World} {K : PySem.W.Frag} {mg : Str → Option Value} {base : Heap} {A : Adr}
end
end Mh
namespace Mh
open PySem L2
section
variable {P : Program} {w : World} {K : PySem.W.Frag} {mg : Str → Option Value} {base : Heap} {A : Adr}
end
end Mh
namespace Mh
open PySem L2
theorem putK_len {κ : Type} [DecidableEq κ] (kvs : List (κ × V)) (k : κ) (v : V) : (putK kvs k v).length ≤ kvs.length + 1 := by
  unfold putK
  split
  · simp
  · simp
theorem at_neg1 {x y : V} : atI [x, y] (-1) = some y := by simp [atI, ixN]
theorem at_neg1' {x : V} : atI [x] (-1) = some x := by simp [atI, ixN]
def spTold (K : PySem.W.Frag) : Sp := fun vs H Q _ => ∃ (v : V) (m : Mach) (q s : Int), vs = [v, .int q, .int s] ∧ Dp K H v (machDt m) ∧ MachOk m ∧ ∀ H', Same H H' → Q (oV (tell q s m)) H'
section
variable {P : Program} {w : World} {K : PySem.W.Frag} {mg : Str → Option Value} {base : Heap} {A : Adr}
/-- the dict of an answer's outcomes, behind its making -/
abbrev kNum : Key := Sum.inr "num"
abbrev kNone : Key := Sum.inr "none"
abbrev kPlus : Key := Sum.inr "plus"
abbrev kTimes : Key := Sum.inr "times"
abbrev kRest : Key := Sum.inr "rest"
def toldD (x : V) : List (Key × V) := mergeK [] [(kNum, x), (kNone, .non)]
theorem toldD_len (x : V) : (toldD x).length ≤ 2 := by
  have h1 := putK_len (putK [] kNum x) kNone V.non
  have h2 := putK_len ([] : List (Key × V)) kNum x
  have h3 : (toldD x).length = (putK (putK [] kNum x) kNone V.non).length := rfl
  rw [h3]
  simp at h2
  omega
theorem toldD_at (x : V) (k : Key) : valV (toldD x) k = if k = kNone then some .non else if k = kNum then some x else none := by
  show valV (putK (putK [] kNum x) kNone V.non) k = _
  rw [valV_put, valV_put]
  rfl
end
end Mh
namespace Mh
open PySem L2
def spAlike (K : PySem.W.Frag) (n : Nat) : Sp := fun vs H Q _ => ∃ (x y : V) (dd : PyData), vs = [x, y] ∧ Dp K H x dd ∧ Dp K H y dd ∧ deep n dd = true ∧ ∀ H', Same H H' → Q (.bl true) H'
section
variable {P : Program} {w : World} {K : PySem.W.Frag} {mg : Str → Option Value} {base : Heap} {A : Adr}
end
end Mh
namespace Mh
open PySem L2
theorem seqIx {i : Int} {n : Nat} (h0 : 0 ≤ i) (h1 : i < n) : seqIndex? i n = some i.toNat := by
  unfold seqIndex?
  have e : (if i < 0 then i + (n : Int) else i) = i := if_neg (by omega)
  simp only [e]
  rw [if_pos (by simp [h0, h1])]
/-- what may be mixed -/
def Mixable (K : PySem.W.Frag) (H : Hp) (zs : List (V × PyData)) : Prop := ∀ z ∈ zs, Dp K H z.1 z.2 ∧ TD z.2 = true ∧ Sh 20 z.2
theorem Mixable.kt {K : PySem.W.Frag} {H H' : Hp} {zs : List (V × PyData)} (h : Mixable K H zs) (kt : KT K H H') : Mixable K H' zs := fun z hz =>
  ⟨dp_keep kt _ _ (h z hz).2.1 (h z hz).1, (h z hz).2⟩
theorem Mixable.perm {K : PySem.W.Frag} {H : Hp} {zs ys : List (V × PyData)} (h : Mixable K H zs) (p : ys.Perm zs) : Mixable K H ys := fun z hz => h z (p.mem_iff.mp hz)
def spMixed (K : PySem.W.Frag) : Sp := fun vs H Q _ => ∃ (d a : Addr) (zs : List (V × PyData)), vs = [.ref d, .ref a] ∧ DS d H ∧ SqL K H a (zs.map (·.1)) ∧ zs.length ≤ 1000 ∧ Mixable K H zs ∧
  ∀ (p : Addr) (ys : List (V × PyData)) (H' : Hp), H p = none → Bt [d] H H' → DS d H' → H' p = some (.lst (ys.map (·.1))) → ys.Perm zs → Mixable K H' ys → Q (.ref p) H'
section
variable {P : Program} {w : World} {K : PySem.W.Frag} {mg : Str → Option Value} {base : Heap} {A : Adr}
end
end Mh
namespace Mh
open PySem L2
theorem DS.same {d : Addr} {H H' : Hp} (h : DS d H) (e : Same H H') : DS d H' := by
  obtain ⟨ys, h1, h2⟩ := h
  exact ⟨ys, e _ _ h1, h2⟩
theorem cut_take {xs : List V} {v : Int} (h : 0 ≤ v) : cutV xs none (some v) = xs.take v.toNat := by
  obtain ⟨k, rfl⟩ : ∃ k : Nat, v = (k : Int) := ⟨v.toNat, by omega⟩
  unfold cutV
  rw [HT.sIx_none, HT.sIx_nat, List.drop_zero, Int.toNat_natCast, Nat.sub_zero, List.take_eq_take_iff]
  omega
/-- what stands while a task's rows are drawn -/
def TaskHF (K : PySem.W.Frag) (d l rw : Addr) (nums : List Int) (v : V) (m : Mach) (H H' : Hp) (rs : List Qn) : Prop :=
  DS d H' ∧ Bt [d] H H' ∧ H' l = some (.lst (nums.map V.int)) ∧ Dp K H' v (machDt m) ∧ ∃ vs, H' rw = some (.lst vs) ∧ DpAll K H' vs (rs.map Qn.dt)
theorem TaskHF.step {K : PySem.W.Frag} {d l rw : Addr} {nums : List Int} {v : V} {m : Mach} {H H1 H2 : Hp} {rs : List Qn} (h : TaskHF K d l rw nums v m H H1 rs) (nl : l ∉ [d]) (nr : rw ∉ [d]) (b : Bt [d] H1 H2) (d2 : DS d H2) :
    TaskHF K d l rw nums v m H H2 rs := by
  obtain ⟨h1, h2, h3, h4, vs, h5, h6⟩ := h
  exact ⟨d2, h2.trans b, b _ _ nl h3, dp_keep (h1.kt b) _ _ (mach_td m) h4, vs, b _ _ nr h5, dps_keep (h1.kt b) _ _ (tds_map qn_td rs) h6⟩
section
variable {K : PySem.W.Frag} {σ : St} {H : Hp} {d : Addr} {i j : Nat}
theorem rd_orN {x : V} {n c : Int} {Q : Bool → Hp → Prop} (hj : σ[j]? = some (some x)) (hσ : σ[i]? = some (some (.ref d))) (hd : DS d H) (n0 : 0 < n) (n1 : n < 1073741824)
    (k : ∀ (b : Bool) (H' : Hp), (b = false → x ≠ .non) → Bt [d] H H' → DS d H' → Q b H') :
    tOr (tTest (tOp (fun x y H Q => y = V.non ∧ Q (.bl (decide (x = .non))) H) (tVar j) (tC .non))) (tTest (tOp rEq (tOffE i (tC (.int n))) (tC (.int c)))) σ H Q := by
  refine ⟨_, hj, rfl, _, rfl, ?_⟩
  refine ite2 (fun e => ?_) (fun e => ?_)
  · exact k true H (fun z => by cases z) Bt.refl hd
  · refine rd_off hσ hd n0 n1 fun r H1 r0 r1 b1 d1 => ⟨rfl, _, rfl, ?_⟩
    exact k _ H1 (fun _ z => e (decide_eq_true z)) b1 d1
theorem rd_orE {x : V} {n c c1 : Int} {Q : Bool → Hp → Prop} (hj : σ[j]? = some (some x)) (hx : ∃ y, x = .int y) (hσ : σ[i]? = some (some (.ref d))) (hd : DS d H) (n0 : 0 < n) (n1 : n < 1073741824)
    (k : ∀ (b : Bool) (H' : Hp), Bt [d] H H' → DS d H' → Q b H') :
    tOr (tTest (tOp rEq (tVar j) (tC (.int c1)))) (tTest (tOp rEq (tOffE i (tC (.int n))) (tC (.int c)))) σ H Q := by
  obtain ⟨y, rfl⟩ := hx
  refine ⟨_, hj, rfl, _, rfl, ?_⟩
  refine ite2 (fun e => ?_) (fun e => ?_)
  · exact k true H Bt.refl hd
  · exact rd_off hσ hd n0 n1 fun r H1 r0 r1 b1 d1 => ⟨rfl, _, rfl, k _ H1 b1 d1⟩
end
/-- a task drawn for a machine -/
def spGenTask (K : PySem.W.Frag) : Sp := fun vs H Q _ => ∃ (d : Addr) (v : V) (m : Mach), vs = [.ref d, v] ∧ DS d H ∧ Dp K H v (machDt m) ∧ MachOk m ∧
  ∀ (u : V) (t : Task) (H' : Hp), Bt [d] H H' → DS d H' → Dp K H' u t.dt → t.Ok → Q u H'
def n16 : List (V × PyData) := (List.range 16).map fun i => (V.int (0 + (i : Nat)), PyData.int (0 + (i : Nat)))
def vI : V × PyData → Int := fun z => match z.1 with
  | .int i => i
  | _ => 0
section
variable {P : Program} {w : World} {K : PySem.W.Frag} {mg : Str → Option Value} {base : Heap} {A : Adr}
end
end Mh
namespace Mh
open PySem L2
/-- the numbers of the questions among the first n that a machine does -/
def rightN (m : Mach) (s : Int) (qs : List Qn) (n : Nat) : List Int := ((List.range n).filter fun k => (qs[k]?.any (Qn.good m s))).map fun k : Nat => ((k : Nat) : Int)
def rightL (m : Mach) (s : Int) (qs : List Qn) : List Int := rightN m s qs qs.length
/-- law: the numbers of the right ones -/
def spRightL (K : PySem.W.Frag) : Sp := fun vs H Q _ => ∃ (v t : V) (m : Mach) (tk : Task) (s : Int), vs = [v, t, .int s] ∧ Dp K H v (machDt m) ∧ Dp K H t tk.dt ∧ MachOk m ∧ tk.Ok ∧
  ∀ p H', H p = none → Same H H' → H' p = some (.lst ((rightL m s tk.qs).map V.int)) → Q (.ref p) H'
/-- program: the numbers of the right ones, and how many -/
def spRight (K : PySem.W.Frag) : Sp := fun vs H Q _ => ∃ (v t : V) (m : Mach) (tk : Task) (s : Int), vs = [v, t, .int s] ∧ Dp K H v (machDt m) ∧ Dp K H t tk.dt ∧ MachOk m ∧ tk.Ok ∧ 0 ≤ s ∧ s ≤ 999 ∧
  ∀ u H', Same H H' → Dp K H' u (.tuple ((rightL m s tk.qs).map PyData.int)) → Q u H'
def spScore (K : PySem.W.Frag) : Sp := fun vs H Q _ => ∃ (v t : V) (m : Mach) (tk : Task) (s : Int), vs = [v, t, .int s] ∧ Dp K H v (machDt m) ∧ Dp K H t tk.dt ∧ MachOk m ∧ tk.Ok ∧ 0 ≤ s ∧ s ≤ 999 ∧
  ∀ H', Same H H' → Q (.int (rightL m s tk.qs).length) H'
theorem same_none {H H' : Hp} {p : Addr} (s : Same H H') (h : H' p = none) : H p = none := by
  cases e : H p with
  | none => rfl
  | some o => rw [s _ _ e] at h; cases h
theorem rightL_len (m : Mach) (s : Int) (qs : List Qn) : (rightL m s qs).length ≤ qs.length := by
  unfold rightL rightN
  rw [List.length_map]
  have := List.length_filter_le (fun k => (qs[k]?.any (Qn.good m s))) (List.range qs.length)
  rwa [List.length_range] at this
theorem deep_ints {n : Nat} {ns : List Int} (h : ns.length ≤ 1000) : deep (n + 1) (.tuple (ns.map PyData.int)) = true := by
  have e : (ns.map PyData.int).all (deep n) = true := List.all_eq_true.mpr fun d hd => by
    obtain ⟨i, _, rfl⟩ := List.mem_map.mp hd
    cases n <;> rfl
  show (decide ((ns.map PyData.int).length ≤ 1000) && (ns.map PyData.int).all (deep n)) = true
  rw [e, List.length_map, decide_eq_true h]
  rfl
section
variable {P : Program} {w : World} {K : PySem.W.Frag} {mg : Str → Option Value} {base : Heap} {A : Adr}
end
end Mh
namespace Mh
open PySem L2
theorem tIf_two {tT : TT} {ta tb : TE} {σ : St} {H : Hp} {Q : VK} (R : V → Hp → Prop) (rest : ∀ v H', R v H' → Q v H') (h : (∀ v H', R v H' → Q v H') → tIf tT ta tb σ H Q) : tIf tT ta tb σ H Q := h rest
theorem dps_ints_eq {K : PySem.W.Frag} {H : Hp} : ∀ {ns : List Int} {vs : List V}, DpAll K H vs (ns.map PyData.int) → vs = ns.map V.int
  | [], _, h => by cases h; rfl
  | n :: ns, _, h => by
    cases h with
    | cons h1 h2 =>
      cases h1
      rw [dps_ints_eq h2]
      rfl
theorem binom_zero (n : Nat) : binom n 0 = 1 := by cases n <;> rfl
theorem binom_over : ∀ {n k : Nat}, n < k → binom n k = 0
  | _, 0, h => by omega
  | 0, k + 1, _ => rfl
  | n + 1, k + 1, h => by
    show binom n k + binom n (k + 1) = 0
    rw [binom_over (n := n) (k := k) (by omega), binom_over (n := n) (k := k + 1) (by omega)]
theorem binom_le (n : Nat) : ∀ k, binom n k ≤ 2 ^ n := by
  induction n with
  | zero =>
    intro k
    cases k <;> simp [binom]
  | succ n IH =>
    intro k
    cases k with
    | zero =>
      rw [binom_zero]
      exact Nat.one_le_two_pow
    | succ k =>
      show binom n k + binom n (k + 1) ≤ 2 ^ (n + 1)
      have h1 := IH k
      have h2 := IH (k + 1)
      rw [Nat.pow_succ]
      omega
def rowL (n : Nat) : List Int := (List.range (n + 1)).map fun k => ((binom n k : Nat) : Int)
theorem rowL_at {n k : Nat} (h : k ≤ n) : (rowL n)[k]? = some ((binom n k : Nat) : Int) := by
  unfold rowL
  rw [List.getElem?_map, List.getElem?_range (by omega)]
  rfl
theorem rowL_len (n : Nat) : (rowL n).length = n + 1 := by simp [rowL]
theorem rowL_snoc (n j : Nat) (h : j ≤ n) : (rowL n).take (j + 1) = (rowL n).take j ++ [((binom n j : Nat) : Int)] := by
  rw [List.take_add_one, rowL_at h]
  rfl
theorem row_zip {i j : Nat} (h : j ≤ i + 1) : ∃ a b : Int, (V.int 0 :: (rowL i).map V.int)[j]? = some (.int a) ∧ ((rowL i).map V.int ++ [V.int 0])[j]? = some (.int b) ∧ a + b = ((binom (i + 1) j : Nat) : Int) := by
  have hb : ((rowL i).map V.int ++ [V.int 0])[j]? = some (.int ((binom i j : Nat) : Int)) := by
    by_cases e : j ≤ i
    · rw [List.getElem?_append_left (by rw [List.length_map, rowL_len]; omega), List.getElem?_map, rowL_at e]
      rfl
    · have e2 : j = i + 1 := by omega
      subst e2
      rw [List.getElem?_append_right (by rw [List.length_map, rowL_len]; omega), List.length_map, rowL_len, Nat.sub_self, binom_over (by omega)]
      rfl
  cases j with
  | zero =>
    refine ⟨0, _, rfl, hb, ?_⟩
    rw [binom_zero, binom_zero]
    rfl
  | succ j =>
    refine ⟨((binom i j : Nat) : Int), _, ?_, hb, ?_⟩
    · rw [List.getElem?_cons_succ, List.getElem?_map, rowL_at (by omega)]
      rfl
    · show _ = ((binom i j + binom i (j + 1) : Nat) : Int)
      omega
/-! what a machine knows by heart -/
def Qn.twinGood (m : Mach) (s : Int) (r : Qn) : Bool := match r.twin with
  | some (y, e) => decide (tell y s m = some e)
  | none => false
def twinned (qs : List Qn) : List Qn := qs.filter fun r => r.twin.isSome
def hereN (m : Mach) (s : Int) (qs : List Qn) : Nat := ((twinned qs).filter (Qn.good m s)).length
def thereN (m : Mach) (s : Int) (qs : List Qn) : Nat := ((twinned qs).filter (Qn.twinGood m s)).length
/-- the ways for k right ones on questions, a + b in all, n questions -/
def wayK (n a b k : Nat) : Nat := if k ≤ a + b ∧ a + b - k ≤ n then binom n k * binom n (a + b - k) else 0
def waysI (n a b i : Nat) : Nat := ((List.range i).map fun j => wayK n a b (a + j)).sum
def waysN (n a b : Nat) : Nat := waysI n a b (n + 1 - a)
def heartDt (m : Mach) (s : Int) (qs : List Qn) : PyData :=
  let n := (twinned qs).length
  let a := hereN m s qs
  let b := thereN m s qs
  .tuple [.int n, .int a, .int b, .int (waysN n a b : Nat), .int (binom (2 * n) (a + b) : Nat)]
/-- what a machine tells, as data -/
def oDt : Option Int → PyData
  | none => .none
  | some i => .int i
theorem dp_oV {K : PySem.W.Frag} {H : Hp} (o : Option Int) : Dp K H (oV o) (oDt o) := by
  cases o with
  | none => exact .non
  | some i => exact .int i
theorem deep_oDt {n : Nat} (o : Option Int) : deep n (oDt o) = true := by cases o <;> cases n <;> rfl
theorem sh_oDt {n : Nat} (o : Option Int) : Sh n (oDt o) := by
  cases o with
  | none => exact sh_non
  | some i => exact sh_int i
theorem sh_ints {n : Nat} (ns : List Int) : Sh (n + 1) (.tuple (ns.map PyData.int)) := sh_tuple fun d hd => by
  obtain ⟨i, _, rfl⟩ := List.mem_map.mp hd
  exact sh_int i
theorem sh_heart {n : Nat} (m : Mach) (s : Int) (qs : List Qn) : Sh (n + 1) (heartDt m s qs) := sh_ints [_, _, _, _, _]
/-- two that are the same data aren't told apart -/
theorem neD_same {K : PySem.W.Frag} {H : Hp} {x y : V} {d : PyData} {Q : V → Hp → Prop} (hx : Dp K H x d) (hy : Dp K H y d) (h : Sh 20 d) (q : Q (.bl false) H) : rNeD K x y H Q := by
  refine ⟨d, d, hx, hy, h.shaped (by decide), h.shaped (by decide), ?_⟩
  rw [PySem.SeqAt.eqv_refl d h.1]
  exact q
theorem eqD_same {K : PySem.W.Frag} {H : Hp} {x y : V} {d : PyData} {Q : V → Hp → Prop} (hx : Dp K H x d) (hy : Dp K H y d) (h : Sh 20 d) (q : Q (.bl true) H) : rEqD K x y H Q := by
  refine ⟨d, d, hx, hy, h.shaped (by decide), h.shaped (by decide), ?_⟩
  rw [PySem.SeqAt.eqv_refl d h.1]
  exact q
def spHeart (K : PySem.W.Frag) : Sp := fun vs H Q _ => ∃ (v t : V) (m : Mach) (tk : Task) (s : Int), vs = [v, t, .int s] ∧ Dp K H v (machDt m) ∧ Dp K H t tk.dt ∧ MachOk m ∧ tk.Ok ∧ 0 ≤ s ∧ s ≤ 999 ∧
  ∀ u H', Same H H' → Dp K H' u (heartDt m s tk.qs) → Q u H'
/-- law: the rows of ways -/
def spWays : Sp := fun vs H Q _ => ∃ (n : Nat), vs = [.int n] ∧ n ≤ 64 ∧ ∀ p H', H p = none → Same H H' → H' p = some (.lst ((rowL n).map V.int)) → Q (.ref p) H'
section
variable {P : Program} {w : World} {K : PySem.W.Frag} {mg : Str → Option Value} {base : Heap} {A : Adr}
end
end Mh
namespace Mh
open PySem L2
/-! ways tried one by one -/
def marks : Nat → List (List Int)
  | 0 => [[]]
  | i + 1 => (marks i).map (· ++ [0]) ++ (marks i).map (· ++ [1])
def markAll (s : Int) (l : List Int) : Bool := decide (l.sum = s)
def markHere (n : Nat) (a : Int) (l : List Int) : Bool := decide ((l.take n).sum ≥ a)
def c1 (n : Nat) (a s : Int) (ls : List (List Int)) : Nat := (ls.filter fun l => markAll s l && markHere n a l).length
def c2 (s : Int) (ls : List (List Int)) : Nat := (ls.filter (markAll s)).length
theorem marks_fin : ∀ n a b : Fin 5, a.val ≤ n.val → b.val ≤ n.val → c1 n.val (a.val : Nat) ((a.val + b.val : Nat) : Int) (marks (2 * n.val)) = waysN n.val a.val b.val ∧ c2 ((a.val + b.val : Nat) : Int) (marks (2 * n.val)) = binom (2 * n.val) (a.val + b.val) := by
  decide +kernel
theorem marks_small {n a b : Nat} (hn : n ≤ 4) (ha : a ≤ n) (hb : b ≤ n) : c1 n (a : Nat) ((a + b : Nat) : Int) (marks (2 * n)) = waysN n a b ∧ c2 ((a + b : Nat) : Int) (marks (2 * n)) = binom (2 * n) (a + b) :=
  marks_fin ⟨n, by omega⟩ ⟨a, by omega⟩ ⟨b, by omega⟩ ha hb
theorem marks_len : ∀ i, (marks i).length = 2 ^ i
  | 0 => rfl
  | i + 1 => by
    show ((marks i).map _ ++ (marks i).map _).length = _
    rw [List.length_append, List.length_map, List.length_map, marks_len i, Nat.pow_succ]
    omega
theorem marks_each : ∀ i, ∀ l ∈ marks i, l.length = i ∧ ∀ x ∈ l, x = 0 ∨ x = 1
  | 0, l, h => by
    have e : l = [] := by simpa [marks] using h
    subst e
    exact ⟨rfl, by simp⟩
  | i + 1, l, h => by
    rcases List.mem_append.mp (show l ∈ (marks i).map (· ++ [0]) ++ (marks i).map (· ++ [1]) from h) with h | h
    · obtain ⟨y, hy, rfl⟩ := List.mem_map.mp h
      obtain ⟨e1, e2⟩ := marks_each i y hy
      refine ⟨by simp [e1], fun x hx => ?_⟩
      rcases List.mem_append.mp hx with h | h
      · exact e2 x h
      · exact .inl (by simpa using h)
    · obtain ⟨y, hy, rfl⟩ := List.mem_map.mp h
      obtain ⟨e1, e2⟩ := marks_each i y hy
      refine ⟨by simp [e1], fun x hx => ?_⟩
      rcases List.mem_append.mp hx with h | h
      · exact e2 x h
      · exact .inr (by simpa using h)
/-! the rows, what is known -/
def qn9 (w : Int) (k : Nat) : Qn := ⟨(k : Nat), (k : Nat) + w, some (100 + (k : Nat), 100 + (k : Nat) + w)⟩
def rows9 (w : Int) (n : Nat) : List Qn := (List.range n).map (qn9 w)
def kn (g : Nat → Bool) (lo : Int) (i : Nat) : List Int := ((List.range i).filter g).map fun k => lo + ((k : Nat) : Int)
theorem kn_mem {g : Nat → Bool} {lo : Int} {i : Nat} {x : Int} : x ∈ kn g lo i ↔ ∃ k < i, g k = true ∧ x = lo + ((k : Nat) : Int) := by
  unfold kn
  simp only [List.mem_map, List.mem_filter, List.mem_range]
  constructor
  · rintro ⟨k, ⟨h1, h2⟩, rfl⟩
    exact ⟨k, h1, h2, rfl⟩
  · rintro ⟨k, h1, h2, rfl⟩
    exact ⟨k, ⟨h1, h2⟩, rfl⟩
theorem kn_lt (g : Nat → Bool) (lo : Int) (i : Nat) : (kn g lo i).Pairwise (· < ·) := by
  unfold kn
  rw [List.pairwise_map]
  refine ((List.pairwise_lt_range (n := i)).filter g).imp fun {a b} h => ?_
  omega
theorem kn_len (g : Nat → Bool) (lo : Int) (i : Nat) : (kn g lo i).length ≤ i := by
  unfold kn
  rw [List.length_map]
  have := List.length_filter_le g (List.range i)
  rwa [List.length_range] at this
theorem kn_step (g : Nat → Bool) (lo : Int) (i : Nat) : kn g lo (i + 1) = kn g lo i ++ if g i = true then [lo + ((i : Nat) : Int)] else [] := by
  unfold kn
  rw [List.range_succ, List.filter_append, List.map_append]
  congr 1
  by_cases e : g i = true
  · rw [if_pos e]
    simp [e]
  · rw [if_neg e]
    simp [e]
theorem kn_congr {g g' : Nat → Bool} {lo : Int} {i : Nat} (h : ∀ k < i, g k = g' k) : kn g lo i = kn g' lo i := by
  unfold kn
  rw [List.filter_congr fun k hk => h k (List.mem_range.mp hk)]
theorem known_ok {g h : Nat → Bool} {n : Nat} (hn : n ≤ 4) (h0 : kn g 0 n ++ kn h 100 n ≠ []) : (Tst.known (kn g 0 n ++ kn h 100 n)).Ok := by
  have l1 := kn_len g 0 n
  have l2 := kn_len h 100 n
  refine ⟨?_, by rw [List.length_append]; omega, ?_, fun k hk => ?_⟩
  · cases e : kn g 0 n ++ kn h 100 n with
    | nil => exact absurd e h0
    | cons _ _ => simp
  · rw [List.pairwise_append]
    refine ⟨kn_lt _ _ _, kn_lt _ _ _, fun a ha b hb => ?_⟩
    obtain ⟨i, h1, _, rfl⟩ := kn_mem.mp ha
    obtain ⟨j, h3, _, rfl⟩ := kn_mem.mp hb
    omega
  · rcases List.mem_append.mp hk with hk | hk
    · obtain ⟨i, h1, _, rfl⟩ := kn_mem.mp hk
      exact ⟨by omega, by omega⟩
    · obtain ⟨i, h1, _, rfl⟩ := kn_mem.mp hk
      exact ⟨by omega, by omega⟩
/-- the machine of the law -/
def mach9 (ks : List Int) (w : Int) : Mach := if ks = [] then [(.any, .non)] else [(.known ks, .plus w)]
theorem tell9 {ks : List Int} {w q : Int} : tell q 0 (mach9 ks w) = if q ∈ ks then some (q + w) else none := by
  unfold mach9
  by_cases e : ks = []
  · rw [if_pos e, e]
    rfl
  · rw [if_neg e]
    by_cases f : q ∈ ks
    · simp [tell, Tst.holds, f, Asw.out]
    · simp [tell, Tst.holds, f]
theorem twinned9 (w : Int) (n : Nat) : twinned (rows9 w n) = rows9 w n := by
  unfold twinned rows9
  rw [List.filter_eq_self]
  intro r hr
  obtain ⟨k, _, rfl⟩ := List.mem_map.mp hr
  rfl
theorem rows9_len (w : Int) (n : Nat) : (rows9 w n).length = n := by simp [rows9]
theorem here9 {g h : Nat → Bool} {w : Int} {n : Nat} (hn : n ≤ 4) : hereN (mach9 (kn g 0 n ++ kn h 100 n) w) 0 (rows9 w n) = (kn g 0 n).length := by
  unfold hereN
  rw [twinned9]
  unfold rows9 kn
  rw [List.filter_map, List.length_map, List.length_map]
  congr 1
  refine List.filter_congr fun k hk => ?_
  have hk := List.mem_range.mp hk
  show decide (tell ((k : Nat) : Int) 0 (mach9 (kn g 0 n ++ kn h 100 n) w) = some (((k : Nat) : Int) + w)) = g k
  rw [tell9]
  by_cases e : g k = true
  · have m : ((k : Nat) : Int) ∈ kn g 0 n ++ kn h 100 n := List.mem_append_left _ (kn_mem.mpr ⟨k, hk, e, by omega⟩)
    rw [if_pos m, e]
    simp
  · have m : ((k : Nat) : Int) ∉ kn g 0 n ++ kn h 100 n := fun m => by
      rcases List.mem_append.mp m with m | m
      · obtain ⟨i, h1, h2, h3⟩ := kn_mem.mp m
        have : i = k := by omega
        rw [this] at h2
        exact e h2
      · obtain ⟨i, h1, h2, h3⟩ := kn_mem.mp m
        omega
    rw [if_neg m]
    simp [e]
theorem low9 {g h : Nat → Bool} {n : Nat} (hn : n ≤ 4) : ((kn g 0 n ++ kn h 100 n).filter fun k => decide (k < 100)).length = (kn g 0 n).length := by
  rw [List.filter_append]
  have e1 : (kn g 0 n).filter (fun k => decide (k < 100)) = kn g 0 n := List.filter_eq_self.mpr fun x hx => by
    obtain ⟨i, h1, _, rfl⟩ := kn_mem.mp hx
    exact decide_eq_true (by omega)
  have e2 : (kn h 100 n).filter (fun k => decide (k < 100)) = [] := List.filter_eq_nil_iff.mpr fun x hx => by
    obtain ⟨i, h1, _, rfl⟩ := kn_mem.mp hx
    exact fun z => by have := of_decide_eq_true z; omega
  rw [e1, e2, List.append_nil]
/-- a machine that does all -/
theorem all9 {w : Int} {n : Nat} {s : Int} : hereN [(.any, .plus w)] s (rows9 w n) = n ∧ thereN [(.any, .plus w)] s (rows9 w n) = n := by
  unfold hereN thereN
  rw [twinned9]
  constructor
  · rw [List.filter_eq_self.mpr, rows9_len]
    intro r hr
    obtain ⟨k, _, rfl⟩ := List.mem_map.mp hr
    exact decide_eq_true rfl
  · rw [List.filter_eq_self.mpr, rows9_len]
    intro r hr
    obtain ⟨k, _, rfl⟩ := List.mem_map.mp hr
    exact decide_eq_true rfl
theorem heart_all {n : Nat} (hn : n ≤ 4) : waysN n n n = 1 ∧ binom (2 * n) (n + n) = 1 := by
  have h : ∀ n < 5, waysN n n n = 1 ∧ binom (2 * n) (n + n) = 1 := by decide +kernel
  exact h n (by omega)
theorem qn9_ok {w : Int} {k : Nat} (h0 : 0 ≤ w) (h1 : w ≤ 99) (hk : k ≤ 4) : (qn9 w k).Ok := by
  refine ⟨?_, ?_, ⟨?_, ?_⟩, ?_⟩
  · show (0 : Int) ≤ (k : Nat)
    omega
  · show ((k : Nat) : Int) ≤ 9999
    omega
  · show -99999999 ≤ ((k : Nat) : Int) + w
    omega
  · show ((k : Nat) : Int) + w ≤ 99999999
    omega
  · intro y e h
    have h : some ((100 : Int) + (k : Nat), (100 : Int) + (k : Nat) + w) = some (y, e) := h
    have h := Option.some.inj h
    injection h with h1 h2
    subst h1 h2
    exact ⟨by omega, by omega, by omega, by omega⟩
theorem task9_ok {w : Int} {n : Nat} (h0 : 0 ≤ w) (h1 : w ≤ 99) (n0 : 1 ≤ n) (hn : n ≤ 4) : (Task.mk (rows9 w n) 1).Ok := by
  refine ⟨by rw [rows9_len]; exact n0, by rw [rows9_len]; omega, fun r hr => ?_, ?_, by show (1 : Int) ≤ 1; decide, by show (1 : Int) ≤ 9; decide⟩
  · obtain ⟨k, hk, rfl⟩ := List.mem_map.mp hr
    exact qn9_ok h0 h1 (by have := List.mem_range.mp hk; omega)
  · show ((rows9 w n).map Qn.q).Nodup
    have e : (rows9 w n).map Qn.q = (List.range n).map fun k : Nat => (k : Int) := by
      unfold rows9
      rw [List.map_map]
      rfl
    rw [e]
    refine List.Pairwise.imp (R := fun a b => a < b) (fun {a b} h => by omega) ?_
    rw [List.pairwise_map]
    exact (List.pairwise_lt_range (n := n)).imp fun {a b} h => by omega
theorem mach9_ok {g h : Nat → Bool} {n : Nat} {w : Int} (hn : n ≤ 4) (h0 : 0 ≤ w) (h1 : w ≤ 99) : MachOk (mach9 (kn g 0 n ++ kn h 100 n) w) := by
  unfold mach9
  split
  · exact ⟨by simp, by simp, fun r hr => by
      have e : r = (Tst.any, Asw.non) := by simpa using hr
      subst e
      exact ⟨True.intro, True.intro⟩⟩
  · rename_i e
    refine ⟨by simp, by simp, fun r hr => ?_⟩
    have e2 : r = (Tst.known (kn g 0 n ++ kn h 100 n), Asw.plus w) := by simpa using hr
    subst e2
    exact ⟨known_ok hn e, by omega, by omega⟩
end Mh
namespace Mh
open PySem L2
def spTwin (K : PySem.W.Frag) : Sp := fun vs H Q _ => ∃ (v : V) (o : Option (Int × Int)), vs = [v] ∧ Dp K H v (twinDt o) ∧ (∀ y e, o = some (y, e) → 0 ≤ y ∧ y ≤ 9999 ∧ dueOk e) ∧ Q (.bl true) H
def spQn (K : PySem.W.Frag) : Sp := fun vs H Q _ => ∃ (v : V) (r : Qn), vs = [v] ∧ Dp K H v r.dt ∧ r.Ok ∧ Q (.bl true) H
def spTk (K : PySem.W.Frag) : Sp := fun vs H Q _ => ∃ (v : V) (t : Task), vs = [v] ∧ Dp K H v t.dt ∧ t.Ok ∧ Q (.bl true) H
def spTask (K : PySem.W.Frag) : Sp := fun vs H Q _ => ∃ (v : V) (t : Task), vs = [v] ∧ Dp K H v t.dt ∧ t.Ok ∧ ∀ H', Same H H' → Q .non H'
/-- what a question stands as -/
theorem dp_qn {K : PySem.W.Frag} {H : Hp} {v : V} {r : Qn} (h : Dp K H v r.dt) : ∃ a u, v = .ref a ∧ SqT K H a [.int r.q, .int r.due, u] ∧ Dp K H u (twinDt r.twin) := by
  obtain ⟨a, xs, rfl, hs, ha⟩ := dp_tup h
  obtain ⟨u1, xs, rfl, h1, ha⟩ := dps_cons ha
  obtain ⟨u2, xs, rfl, h2, ha⟩ := dps_cons ha
  obtain ⟨u3, xs, rfl, h3, ha⟩ := dps_cons ha
  have e := dps_nil ha
  subst e
  rw [dp_int h1, dp_int h2] at hs
  exact ⟨a, u3, rfl, hs, h3⟩
theorem dp_tk {K : PySem.W.Frag} {H : Hp} {v : V} {t : Task} (h : Dp K H v t.dt) : ∃ a b us, v = .ref a ∧ SqT K H a [.ref b, .int t.wt] ∧ SqT K H b us ∧ DpAll K H us (t.qs.map Qn.dt) ∧ us.length = t.qs.length := by
  obtain ⟨a, xs, rfl, hs, ha⟩ := dp_tup h
  obtain ⟨u1, xs, rfl, h1, ha⟩ := dps_cons ha
  obtain ⟨u2, xs, rfl, h2, ha⟩ := dps_cons ha
  have e := dps_nil ha
  subst e
  obtain ⟨b, us, rfl, hb, hu⟩ := dp_tup h1
  rw [dp_int h2] at hs
  refine ⟨a, b, us, rfl, hs, hb, hu, ?_⟩
  have e := dps_len hu
  rwa [List.length_map] at e
theorem at2' {x y z : V} {r : List V} : atI (x :: y :: z :: r) 2 = some z := atI_nat (j := 2) rfl
section
variable {P : Program} {w : World} {K : PySem.W.Frag} {mg : Str → Option Value} {base : Heap} {A : Adr}
theorem ok_is_due (T : Txt K mg A) : FnOk P w K mg base CX0 2 A.is_due A.is_due_ ["value"] (spIs K (-99999999) 99999999) := by
  refine T.is_due.F.ok sc_is_due (fun vs H Q E h => ?_) (fun cdv Ar outer s H vs Q E hr h => ?_)
  · obtain ⟨v, rfl, _⟩ := h
    rfl
  · obtain ⟨v, rfl, od, k⟩ := h
    refine ⟨_, (pss_one (ps_ret (pe_call (ok_is_number T) (hr.mono (by decide)) (by rfl) T.is_number.n T.is_number.F.kp T.is_number.b .nil pass0 (pa_cons (pv 0) (pa_cons (pe_un un_neg (pe_gv (by rfl) T.c_MOST_DUE)) (pa_cons (pe_gv (by rfl) T.c_MOST_DUE) pa_nil)))))), ?_⟩
    exact ⟨_, rfl, _, rfl, v, _, _, rfl, od, k⟩
theorem ok_is_twin (T : Txt K mg A) : FnOk P w K mg base CX0 3 A.is_twin A.is_twin_ ["twin"] (spTwin K) := by
  refine T.is_twin.F.ok sc_is_twin (fun vs H Q E h => ?_) (fun cdv Ar outer s H vs Q E hr h => ?_)
  · obtain ⟨v, o, rfl, _⟩ := h
    rfl
  · obtain ⟨v, o, rfl, hv, ok, k⟩ := h
    refine ⟨_, (pss_cons (ps_if (pt_cmpR op_isN (pv 0) pe_non (nomark _))
    (pss_one (ps_ret pe_bl))
    pss_nil)
    (pss_cons (ps_if (PW.pt (pw_or (pt_not (pt_val (pe_callB call_isi (by rfl) T.n_isinstance PyProof.Rows.boot_isinstance (pa_cons (pv 0) (pa_cons (pe_bltn (v := .ty "tuple") (by rfl) T.n_tuple PyProof.Rows.boot_tuple rfl) pa_nil))))) (pw_or1 (pt_cmpR op_ne (pe_callB call_len_seq (by rfl) T.n_len PySem.boot_len (pa_cons (pv 0) pa_nil)) pe_int (nomark _)))))
    (pss_one (ps_ret pe_bl))
    pss_nil)
    (pss_one (ps_ret (pe_and (pe_call (ok_is_question T) (hr.mono (by decide)) (by rfl) T.is_question.n T.is_question.F.kp T.is_question.b .nil pass0 (pa_cons (pe_ix ix_tup (pv 0) pe_int (fun _ _ => rfl)) pa_nil)) (pe_one (pe_call (ok_is_due T) (hr.mono (by decide)) (by rfl) T.is_due.n T.is_due.F.kp T.is_due.b .nil pass0 (pa_cons (pe_ix ix_tup (pv 0) pe_int (fun _ _ => rfl)) pa_nil)))))))), ?_⟩
    cases o with
    | none =>
      cases hv
      exact ⟨_, rfl, rfl, _, rfl, k⟩
    | some p =>
      obtain ⟨y, e⟩ := p
      obtain ⟨y0, y1, e0, e1⟩ := ok y e rfl
      obtain ⟨a, u, z, rfl, hs, hu, hz⟩ := dp_pair hv
      have eu := dp_int hu
      have ez := dp_int hz
      subst eu ez
      refine ⟨_, rfl, rfl, _, rfl, ?_⟩
      refine iteF ?_
      refine ⟨_, rfl, _, _, .type "tuple", _, true, rfl, .ty _, ty_tupD hs, kit_ty (by decide +kernel), _, rfl, ?_⟩
      refine iteF ?_
      refine ⟨_, rfl, a, _, rfl, .inr hs, rfl, _, rfl, ?_⟩
      refine iteF ?_
      refine ⟨_, rfl, a, _, _, _, rfl, rfl, hs, at0, _, rfl, .int y, _, rfl, ?_⟩
      refine ifp (isNum_t y0 y1) ?_
      refine ⟨_, rfl, a, _, _, _, rfl, rfl, hs, at1, _, rfl, .int e, ?_⟩
      rw [isNum_t e0 e1]
      exact k
theorem ok_is_asked (T : Txt K mg A) : FnOk P w K mg base CX0 4 A.is_asked A.is_asked_ ["asked"] (spQn K) := by
  refine T.is_asked.F.ok sc_is_asked (fun vs H Q E h => ?_) (fun cdv Ar outer s H vs Q E hr h => ?_)
  · obtain ⟨v, o, rfl, _⟩ := h
    rfl
  · obtain ⟨v, r, rfl, hv, ⟨q0, q1, d, tw⟩, k⟩ := h
    obtain ⟨a, u, rfl, hs, hu⟩ := dp_qn hv
    refine ⟨_, (pss_cons (ps_if (PW.pt (pw_or (pt_not (pt_val (pe_callB call_isi (by rfl) T.n_isinstance PyProof.Rows.boot_isinstance (pa_cons (pv 0) (pa_cons (pe_bltn (v := .ty "tuple") (by rfl) T.n_tuple PyProof.Rows.boot_tuple rfl) pa_nil))))) (pw_or1 (pt_cmpR op_ne (pe_callB call_len_seq (by rfl) T.n_len PySem.boot_len (pa_cons (pv 0) pa_nil)) pe_int (nomark _)))))
    (pss_one (ps_ret pe_bl))
    pss_nil)
    (pss_one (ps_ret (pe_and (pe_call (ok_is_question T) (hr.mono (by decide)) (by rfl) T.is_question.n T.is_question.F.kp T.is_question.b .nil pass0 (pa_cons (pe_ix ix_tup (pv 0) pe_int (fun _ _ => rfl)) pa_nil)) (pe_and (pe_call (ok_is_due T) (hr.mono (by decide)) (by rfl) T.is_due.n T.is_due.F.kp T.is_due.b .nil pass0 (pa_cons (pe_ix ix_tup (pv 0) pe_int (fun _ _ => rfl)) pa_nil)) (pe_one (pe_call (ok_is_twin T) (hr.mono (by decide)) (by rfl) T.is_twin.n T.is_twin.F.kp T.is_twin.b .nil pass0 (pa_cons (pe_ix ix_tup (pv 0) pe_int (fun _ _ => rfl)) pa_nil)))))))), ?_⟩
    refine ⟨_, rfl, _, _, .type "tuple", _, true, rfl, .ty _, ty_tupD hs, kit_ty (by decide +kernel), _, rfl, ?_⟩
    refine iteF ?_
    refine ⟨_, rfl, a, _, rfl, .inr hs, rfl, _, rfl, ?_⟩
    refine iteF ?_
    refine ⟨_, rfl, a, _, _, _, rfl, rfl, hs, at0, _, rfl, .int _, _, rfl, ?_⟩
    refine ifp (isNum_t q0 q1) ?_
    refine ⟨_, rfl, a, _, _, _, rfl, rfl, hs, at1, _, rfl, .int _, _, rfl, ?_⟩
    refine ifp (isNum_t d.1 d.2) ?_
    exact ⟨_, rfl, a, _, _, _, rfl, rfl, hs, at2, u, r.twin, rfl, hu, tw, k⟩
theorem ok_is_framed (T : Txt K mg A) : FnOk P w K mg base CX0 2 A.is_framed A.is_framed_ ["task"] (spTk K) := by
  refine T.is_framed.F.ok sc_is_framed (fun vs H Q E h => ?_) (fun cdv Ar outer s H vs Q E hr h => ?_)
  · obtain ⟨v, o, rfl, _⟩ := h
    rfl
  · obtain ⟨v, t, rfl, hv, ok, k⟩ := h
    obtain ⟨a, b, us, rfl, hs, hb, hu, hl⟩ := dp_tk hv
    refine ⟨_, (pss_cons (ps_if (PW.pt (pw_or (pt_not (pt_val (pe_callB call_isi (by rfl) T.n_isinstance PyProof.Rows.boot_isinstance (pa_cons (pv 0) (pa_cons (pe_bltn (v := .ty "tuple") (by rfl) T.n_tuple PyProof.Rows.boot_tuple rfl) pa_nil))))) (pw_or1 (pt_cmpR op_ne (pe_callB call_len_seq (by rfl) T.n_len PySem.boot_len (pa_cons (pv 0) pa_nil)) pe_int (nomark _)))))
    (pss_one (ps_ret pe_bl))
    pss_nil)
    (pss_cons (ps_asg (pv 0) (pg_tup rfl (pgs_cons (pg_name (i := 1) sc_is_framed.nd rfl (Or.inl rfl)) (pgs_cons (pg_name (i := 2) sc_is_framed.nd rfl (Or.inl rfl)) pgs_nil))))
    (pss_cons (ps_if (PW.pt (pw_or (pt_not (pt_val (pe_callB call_isi (by rfl) T.n_isinstance PyProof.Rows.boot_isinstance (pa_cons (pv 1) (pa_cons (pe_bltn (v := .ty "tuple") (by rfl) T.n_tuple PyProof.Rows.boot_tuple rfl) pa_nil))))) (pw_or1 (pt_cmpR op_eq (pe_callB call_len_seq (by rfl) T.n_len PySem.boot_len (pa_cons (pv 1) pa_nil)) pe_int (nomark _)))))
    (pss_one (ps_ret pe_bl))
    pss_nil)
    (pss_one (ps_ret (pe_call (ok_is_number T) (hr.mono (by decide)) (by rfl) T.is_number.n T.is_number.F.kp T.is_number.b .nil pass0 (pa_cons (pv 2) (pa_cons pe_int (pa_cons (pe_gv (by rfl) T.c_MOST_WEIGHT) pa_nil))))))))), ?_⟩
    refine ⟨_, rfl, _, _, .type "tuple", _, true, rfl, .ty _, ty_tupD hs, kit_ty (by decide +kernel), _, rfl, ?_⟩
    refine iteF ?_
    refine ⟨_, rfl, a, _, rfl, .inr hs, rfl, _, rfl, ?_⟩
    refine iteF ?_
    refine ⟨_, rfl, a, _, rfl, hs, rfl, ?_⟩
    refine ⟨_, _, rfl, _, _, rfl, rfl, ?_⟩
    refine ⟨_, rfl, _, _, .type "tuple", _, true, rfl, .ty _, ty_tupD hb, kit_ty (by decide +kernel), _, rfl, ?_⟩
    refine iteF ?_
    have h1 := ok.1
    refine ⟨_, rfl, b, _, rfl, .inr hb, rfl, _, rfl, ?_⟩
    refine ifn (by rw [dI, decide_eq_false (by omega)]; simp) ?_
    refine ⟨_, rfl, _, _, _, rfl, .int _, ?_⟩
    rw [isNum_t ok.2.2.2.2.1 ok.2.2.2.2.2]
    exact k
theorem ok_check_task (T : Txt K mg A) : FnOk P w K mg base CX0 5 A.check_task A.check_task_ ["task"] (spTask K) := by
  refine T.check_task.F.ok sc_check_task (fun vs H Q E h => ?_) (fun cdv Ar outer s H vs Q E hr h => ?_)
  · obtain ⟨v, o, rfl, _⟩ := h
    rfl
  · obtain ⟨v, t, rfl, hv, ok, k⟩ := h
    obtain ⟨a, b, us, rfl, hs, hb, hu, hl⟩ := dp_tk hv
    have hb0 := hb
    refine ⟨_, (pss_cons (ps_if (pt_not (pt_val (pe_call (ok_is_framed T) (hr.mono (by decide)) (by rfl) T.is_framed.n T.is_framed.F.kp T.is_framed.b .nil pass0 (pa_cons (pv 0) pa_nil))))
    (pss_one ps_never)
    pss_nil)
    (pss_cons (ps_set (i := 1) sc_check_task.nd rfl (Or.inl rfl) (pe_callTy0 cr_set0 (by rfl) T.n_set PyProof.Rows.boot_set))
    (pss_one (ps_for PassesOwn.never rfl (pi_enumT (by rfl) T.n_enumerate (pa_cons (pe_ix ix_tup (pv 0) pe_int (fun _ _ => rfl)) pa_nil)) (pg_tup rfl (pgs_cons (pg_name (i := 2) sc_check_task.nd rfl (Or.inl rfl)) (pgs_cons (pg_name (i := 3) sc_check_task.nd rfl (Or.inl rfl)) pgs_nil)))
    (pss_cons (ps_if (PW.pt (pw_or (pt_cmpR op_eq (pv 2) (pe_gv (by rfl) T.c_MOST_QUESTIONS) (nomark _)) (pw_or (pt_not (pt_val (pe_call (ok_is_asked T) (hr.mono (by decide)) (by rfl) T.is_asked.n T.is_asked.F.kp T.is_asked.b .nil pass0 (pa_cons (pv 3) pa_nil)))) (pw_or1 (pt_cmpR or_sin (pe_ix ix_tup (pv 3) pe_int (fun _ _ => rfl)) (pv 1) (by rfl))))))
    (pss_one ps_never)
    pss_nil)
    (pss_one (ps_expr (pe_sadd (pv 1) (pa_cons (pe_ix ix_tup (pv 3) pe_int (fun _ _ => rfl)) pa_nil))))))))), ?_⟩
    refine ⟨_, rfl, _, t, rfl, hv, ok, _, rfl, ?_⟩
    refine iteF ?_
    refine ⟨rfl, fun p hp => ?_⟩
    have sm := same_put (Same.refl H) (o := SetO w p (fun _ => false) 0) hp
    refine ⟨_, rfl, a, _, _, _, rfl, rfl, KT.same sm _ _ hs, at0, b, _, rfl, KT.same sm _ _ hb, for_it (walk_enumT (xs := us)) (fun i σ H' => Same H H' ∧ (∃ n, n ≤ i ∧ H' p = some (SetO w p (fun z => decide (z ∈ (t.qs.take i).map Qn.q)) n)) ∧ ∃ x y, σ = [some (.ref a), some (.ref p), x, y])
      ⟨sm, ⟨0, Nat.le_refl _, ?_⟩, _, _, rfl⟩ (fun i σ H' _ ⟨e, _⟩ => KT.same e _ _ hb) ?_ ?_⟩
    · rw [upd_same]
      simp
      rfl
    · rintro i x σ H1 H2 hi ⟨s1, ⟨n, hn, h1⟩, y1, y2, rfl⟩ ⟨c, x1, x2, rfl, hc, rfl, hx1, hx2⟩
      have e1 := Option.some.inj hx1
      subst e1
      have i16 := ok.2.1
      obtain ⟨r, hr2⟩ : ∃ r, t.qs[i]? = some r := ⟨_, List.getElem?_eq_getElem (by omega)⟩
      obtain ⟨d, hd, hx⟩ := dps_get hu hx2
      rw [List.getElem?_map, hr2] at hd
      have hd := Option.some.inj hd
      subst hd
      have ro := ok.2.2.1 _ (List.mem_of_getElem? hr2)
      have s2 : Same H (upd H1 c (.tup [.int (i : Nat), x2])) := same_put s1 (s1.free hc)
      have hx' := dp_same s2 _ _ hx
      obtain ⟨ra, ru, rfl, hrs, hru⟩ := dp_qn hx'
      have h2 : upd H1 c (.tup [.int (i : Nat), .ref ra]) p = some (SetO w p (fun z => decide (z ∈ (t.qs.take i).map Qn.q)) n) := by
        rw [upd_ne (ne_of_none h1 hc)]
        exact h1
      refine ⟨c, _, rfl, SqT.of upd_same, rfl, _, _, rfl, _, _, rfl, rfl, ?_⟩
      refine ⟨_, rfl, rfl, _, rfl, ?_⟩
      refine ifn (by rw [dI, decide_eq_false (by omega)]; simp) ?_
      refine ⟨_, rfl, _, r, rfl, hx', ro, _, rfl, ?_⟩
      refine iteF ?_
      have fresh : r.q ∉ (t.qs.take i).map Qn.q := by
        have nd := ok.2.2.2.1
        rw [← List.take_append_drop i t.qs, List.map_append, List.nodup_append] at nd
        intro z
        refine nd.2.2 _ z r.q ?_ rfl
        rw [drop_at hr2]
        exact List.mem_cons_self
      refine ⟨_, rfl, ra, _, _, _, rfl, rfl, hrs, at0, _, rfl, r.q, p, _, n, rfl, rfl, h2, _, rfl, ?_⟩
      refine ifn (by rw [decide_eq_false fresh]; simp) ?_
      refine ⟨_, rfl, ⟨p, _, n, rfl, h2⟩, _, rfl, ra, _, _, _, rfl, rfl, hrs, at0, p, r.q, _, n, rfl, rfl, h2, by unfold scanBound; omega, ?_⟩
      refine ⟨fun q o e => ?_, ⟨n + 1, by omega, ?_⟩, _, _, rfl⟩
      · rw [upd_ne (ne_of_none e hp)]
        exact s2 q o e
      · rw [upd_same, decide_eq_false fresh]
        simp only [List.take_add_one, hr2, List.map_append, Bool.false_eq_true, if_false]
        congr 3
        funext z
        simp
    · rintro σ H1 ⟨s1, _⟩
      exact k H1 s1
end
end Mh
namespace Mh
open PySem L2
theorem rightN_step (m : Mach) (s : Int) {qs : List Qn} {i : Nat} {r : Qn} (h : qs[i]? = some r) : rightN m s qs (i + 1) = rightN m s qs i ++ if r.good m s = true then [((i : Nat) : Int)] else [] := by
  unfold rightN
  rw [List.range_succ, List.filter_append, List.map_append]
  congr 1
  by_cases e : r.good m s = true
  · rw [if_pos e]
    simp [h, e]
  · rw [if_neg e]
    simp [h, e]
theorem rightN_le (m : Mach) (s : Int) (qs : List Qn) (i : Nat) : (rightN m s qs i).length ≤ i := by
  unfold rightN
  rw [List.length_map]
  have := List.length_filter_le (fun k => (qs[k]?.any (Qn.good m s))) (List.range i)
  rwa [List.length_range] at this
/-- what a machine tells, compared with a number -/
theorem eq_tell {o : Option Int} {i : Int} {H : Hp} {Q : V → Hp → Prop} (h : Q (.bl (decide (o = some i))) H) : rEq (oV o) (.int i) H Q := by
  cases o with
  | none =>
    refine ⟨rfl, ?_⟩
    have e : decide (oV none = V.int i) = decide ((none : Option Int) = some i) := rfl
    show Q (.bl (decide (oV none = V.int i))) H
    rw [e]
    exact h
  | some j =>
    refine ⟨rfl, ?_⟩
    have e : decide (V.int j = V.int i) = decide (some j = some i) := by
      rw [decide_eq_decide]
      exact ⟨fun z => by injection z with z; rw [z], fun z => by injection z with z; rw [z]⟩
    show Q (.bl (decide (V.int j = V.int i))) H
    rw [e]
    exact h
def spRun3 (K : PySem.W.Frag) : Sp := fun vs H Q _ => ∃ (v t : V) (m : Mach) (tk : Task) (s : Int), vs = [v, t, .int s] ∧ Dp K H v (machDt m) ∧ Dp K H t tk.dt ∧ MachOk m ∧ tk.Ok ∧ 0 ≤ s ∧ s ≤ 999 ∧ ∀ H', Same H H' → Q .non H'
def spCount (K : PySem.W.Frag) : Sp := fun vs H Q _ => ∃ (v t : V) (m : Mach) (tk : Task) (s : Int), vs = [v, t, .int s] ∧ Dp K H v (machDt m) ∧ Dp K H t tk.dt ∧ MachOk m ∧ tk.Ok ∧
  ∀ H', Same H H' → Q (.int (rightL m s tk.qs).length) H'
section
variable {P : Program} {w : World} {K : PySem.W.Frag} {mg : Str → Option Value} {base : Heap} {A : Adr}
theorem ok_check_run (T : Txt K mg A) : FnOk P w K mg base CX0 7 A.check_run A.check_run_ ["machine", "task", "seed"] (spRun3 K) := by
  refine T.check_run.F.ok sc_check_run (fun vs H Q E h => ?_) (fun cdv Ar outer s H vs Q E hr h => ?_)
  · obtain ⟨v, t, m, tk, s, rfl, _⟩ := h
    rfl
  · obtain ⟨v, t, m, tk, s, rfl, hv, ht, ho, to, s0, s1, k⟩ := h
    refine ⟨_, (pss_cons (ps_expr (pe_call (ok_check_machine T) (hr.mono (by decide)) (by rfl) T.check_machine.n T.check_machine.F.kp T.check_machine.b .nil pass0 (pa_cons (pv 0) pa_nil)))
    (pss_cons (ps_expr (pe_call (ok_check_task T) (hr.mono (by decide)) (by rfl) T.check_task.n T.check_task.F.kp T.check_task.b .nil pass0 (pa_cons (pv 1) pa_nil)))
    (pss_one (ps_expr (pe_call (ok_check_seed T) (hr.mono (by decide)) (by rfl) T.check_seed.n T.check_seed.F.kp T.check_seed.b .nil pass0 (pa_cons (pv 2) pa_nil)))))), ?_⟩
    refine ⟨_, rfl, v, m, rfl, hv, ho, fun H1 e1 => ?_⟩
    refine ⟨_, rfl, t, tk, rfl, dp_same e1 _ _ ht, to, fun H2 e2 => ?_⟩
    exact ⟨_, rfl, s, rfl, s0, s1, k H2 (e1.trans e2)⟩
end
end Mh
namespace Mh
open PySem L2
theorem sum_zero_from {f : Nat → Nat} {N : Nat} (h : ∀ j, N ≤ j → f j = 0) : ∀ k, ((List.range (N + k)).map f).sum = ((List.range N).map f).sum
  | 0 => rfl
  | k + 1 => by
    rw [← Nat.add_assoc, List.range_succ, List.map_append, List.sum_append, sum_zero_from h k]
    simp [h (N + k) (by omega)]
theorem sum_cast {f : Nat → Nat} (l : List Nat) : (l.map fun i => ((f i : Nat) : Int)).sum = (((l.map f).sum : Nat) : Int) := by
  induction l with
  | nil => rfl
  | cons x l ih =>
    simp only [List.map_cons, List.sum_cons, ih]
    omega
theorem ways_eq {n a b : Nat} (hb : b ≤ n) : ((List.range (b + 1)).map fun i => binom n (a + i) * binom n (b - i)).sum = waysN n a b := by
  have e1 : ∀ j, j < b + 1 → binom n (a + j) * binom n (b - j) = wayK n a b (a + j) := fun j hj => by
    unfold wayK
    rw [if_pos ⟨by omega, by omega⟩]
    congr 2
    omega
  have e2 : ((List.range (b + 1)).map fun i => binom n (a + i) * binom n (b - i)) = (List.range (b + 1)).map fun i => wayK n a b (a + i) := List.map_congr_left fun j hj => e1 j (List.mem_range.mp hj)
  rw [e2]
  unfold waysN waysI
  have z1 : ∀ j, b + 1 ≤ j → wayK n a b (a + j) = 0 := fun j hj => by
    unfold wayK
    rw [if_neg (by omega)]
  have z2 : ∀ j, n + 1 - a ≤ j → wayK n a b (a + j) = 0 := fun j hj => by
    unfold wayK
    split
    · rw [binom_over (n := n) (k := a + j) (by omega), Nat.zero_mul]
    · rfl
  rw [← sum_zero_from (f := fun i => wayK n a b (a + i)) z1 (n + 1 - a), ← sum_zero_from (f := fun i => wayK n a b (a + i)) (N := n + 1 - a) z2 (b + 1), Nat.add_comm]
theorem twin_take {qs : List Qn} {i : Nat} {r : Qn} (h : qs[i]? = some r) : twinned (qs.take (i + 1)) = twinned (qs.take i) ++ if r.twin.isSome = true then [r] else [] := by
  unfold twinned
  rw [List.take_add_one, h, List.filter_append]
  congr 1
  by_cases e : r.twin.isSome = true
  · simp [e]
  · simp [e]
theorem filt_take {α : Type} {f : α → Bool} {l : List α} {i : Nat} {r : α} (h : l[i]? = some r) : ((l.take (i + 1)).filter f).length = ((l.take i).filter f).length + if f r = true then 1 else 0 := by
  rw [List.take_add_one, h, List.filter_append, List.length_append]
  congr 1
  by_cases e : f r = true
  · simp [e]
  · simp [e]
section
variable {P : Program} {w : World} {K : PySem.W.Frag} {mg : Str → Option Value} {base : Heap} {A : Adr}
theorem ok_heart (T : Txt K mg A) : FnOk P w K mg base CX0 9 A.heart A.heart_ ["machine", "task", "seed"] (spHeart K) := by
  refine T.heart.F.ok sc_heart (fun vs H Q E h => ?_) (fun cdv Ar outer s H vs Q E hr h => ?_)
  · obtain ⟨v, t, m, tk, s, rfl, _⟩ := h
    rfl
  · obtain ⟨v, t, m, tk, s, rfl, hv, ht, ho, to, s0, s1, k⟩ := h
    have hL := sizeLine_eq
    have l16 := to.2.1
    refine ⟨_, (pss_cons (ps_expr (pe_call (ok_check_run T) (hr.mono (by decide)) (by rfl) T.check_run.n T.check_run.F.kp T.check_run.b .nil pass0 (pa_cons (pv 0) (pa_cons (pv 1) (pa_cons (pv 2) pa_nil)))))
    (pss_cons (ps_setLc (i := 3) (own := [("question", 8), ("due", 9), ("twin", 10)]) (g := gTup K 3 (gCons (gName 8) (gCons (gName 9) (gCons (gName 10) gNil))))  rfl sc_heart.nd rfl rfl (sw_true rfl rfl rfl (by decide +kernel)) (pi_tup (pe_ix ix_tup (pv 1) pe_int (fun _ _ => rfl))) (blkOk_by (N := N_heart) (sc := defScope s_heart) (by decide +kernel)) (fun _ _ _ _ _ => pg_tup rfl (pgs_cons (pg_name (i := 8) sc_heart.nd rfl (Or.inl rfl) (hf := Or.inr rfl)) (pgs_cons (pg_name (i := 9) sc_heart.nd rfl (Or.inl rfl) (hf := Or.inr rfl)) (pgs_cons (pg_name (i := 10) sc_heart.nd rfl (Or.inl rfl) (hf := Or.inr rfl)) pgs_nil)))) (fun _ _ _ _ _ => (pts_one (pt_cmpR op_notN (pv 10) pe_non (nomark _)))) (fun _ _ _ _ _ => (pe_tup (pa_cons (pv 8) (pa_cons (pv 9) (pa_cons (pv 10) pa_nil))))))
    (pss_cons (ps_set (i := 4) sc_heart.nd rfl (Or.inr rfl) (pe_callB call_len_seq (by rfl) T.n_len PySem.boot_len (pa_cons (pv 3) pa_nil)))
    (pss_cons (ps_set (i := 5) sc_heart.nd rfl (Or.inr rfl) (pe_callB call_len_seq (by rfl) T.n_len PySem.boot_len (pa_cons (pe_lc (own := [("question", 8), ("due", 9), ("_", 12)]) (g := gTup K 3 (gCons (gName 8) (gCons (gName 9) (gCons (gName 12) gNil))))  rfl sc_heart.nd (pi_list (pv 3)) (blkOk_by (N := N_heart) (sc := defScope s_heart) (by decide +kernel)) (fun _ _ _ _ _ => pg_tup rfl (pgs_cons (pg_name (i := 8) sc_heart.nd rfl (Or.inl rfl) (hf := Or.inr rfl)) (pgs_cons (pg_name (i := 9) sc_heart.nd rfl (Or.inl rfl) (hf := Or.inr rfl)) (pgs_cons (pg_name (i := 12) sc_heart.nd rfl (Or.inl rfl) (hf := Or.inr rfl)) pgs_nil)))) (fun _ _ _ _ _ => (pts_one (pt_cmpR op_eq (pe_call (ok_run T) (hr.mono (by decide)) (by rfl) T.run.n T.run.F.kp T.run.b .nil pass0 (pa_cons (pv 0) (pa_cons (pv 8) (pa_cons (pv 2) pa_nil)))) (pv 9) (nomark _)))) (fun _ _ _ _ _ => (pv 9))) pa_nil)))
    (pss_cons (ps_set (i := 6) sc_heart.nd rfl (Or.inr rfl) (pe_callB call_len_seq (by rfl) T.n_len PySem.boot_len (pa_cons (pe_lc (own := [("_", 12), ("twin", 10)]) (g := gTup K 3 (gCons (gName 12) (gCons (gName 12) (gCons (gName 10) gNil))))  rfl sc_heart.nd (pi_list (pv 3)) (blkOk_by (N := N_heart) (sc := defScope s_heart) (by decide +kernel)) (fun _ _ _ _ _ => pg_tup rfl (pgs_cons (pg_name (i := 12) sc_heart.nd rfl (Or.inl rfl) (hf := Or.inr rfl)) (pgs_cons (pg_name (i := 12) sc_heart.nd rfl (Or.inl rfl) (hf := Or.inr rfl)) (pgs_cons (pg_name (i := 10) sc_heart.nd rfl (Or.inl rfl) (hf := Or.inr rfl)) pgs_nil)))) (fun _ _ _ _ _ => (pts_one (pt_cmpR op_eq (pe_call (ok_run T) (hr.mono (by decide)) (by rfl) T.run.n T.run.F.kp T.run.b .nil pass0 (pa_cons (pv 0) (pa_cons (pe_ix (ixK_tup (K := K) rfl) (pv 10) pe_int (fun _ _ => rfl)) (pa_cons (pv 2) pa_nil)))) (pe_ix (ixK_tup (K := K) rfl) (pv 10) pe_int (fun _ _ => rfl)) (nomark _)))) (fun _ _ _ _ _ => (pv 10))) pa_nil)))
    (pss_cons (ps_setLc (i := 7) (own := [("laid", 11)]) (g := gName 11) (tt := tYes) rfl sc_heart.nd rfl rfl (sw_true rfl rfl rfl (by decide +kernel)) (pi_range2 (by rfl) T.n_range (pa_cons (pv 5) (pa_cons (pe_op op_add (pe_op op_add (pv 5) (pv 6)) pe_int) pa_nil))) (blkOk_by (N := N_heart) (sc := defScope s_heart) (by decide +kernel)) (fun _ _ _ _ _ => pg_name (i := 11) sc_heart.nd rfl (Or.inl rfl) (hf := Or.inr rfl)) (fun _ _ _ _ _ => pts_nil) (fun _ _ _ _ _ => (pe_op op_mul (pe_callBfun cr_comb (by rfl) T.m_comb (pa_cons (pv 4) (pa_cons (pv 11) pa_nil))) (pe_callBfun cr_comb (by rfl) T.m_comb (pa_cons (pv 4) (pa_cons (pe_op op_sub (pe_op op_add (pv 5) (pv 6)) (pv 11)) pa_nil))))))
    (pss_one (ps_ret (pe_tup (pa_cons (pv 4) (pa_cons (pv 5) (pa_cons (pv 6) (pa_cons (pe_callB (cr_sum rfl) (by rfl) T.n_sum (by decide +kernel) (pa_cons (pv 7) pa_nil)) (pa_cons (pe_callBfun cr_comb (by rfl) T.m_comb (pa_cons (pe_op op_mul pe_int (pv 4)) (pa_cons (pe_op op_add (pv 5) (pv 6)) pa_nil))) pa_nil)))))))))))))), ?_⟩
    refine ⟨_, rfl, _, rfl, _, rfl, v, t, m, tk, s, rfl, hv, ht, ho, to, s0, s1, fun H1 e1 => ?_⟩
    have hv1 := dp_same e1 _ _ hv
    have ht1 := dp_same e1 _ _ ht
    obtain ⟨a, b, us, rfl, hs, hb, hu, hl⟩ := dp_tk ht1
    have lt : ∀ i, (twinned (tk.qs.take i)).length ≤ 16 := fun i => by
      have h1 := List.length_filter_le (fun r : Qn => r.twin.isSome) (tk.qs.take i)
      rw [List.length_take] at h1
      show (List.filter _ _).length ≤ 16
      omega
    refine ⟨_, rfl, a, _, _, _, rfl, rfl, hs, at0, b, rfl, ⟨us, hb⟩, fun D hD => lc_tup (K := K) (a := b) (xs := us) (fun i H' => Same H1 H' ∧ ∃ vs, H' D = some (.lst vs) ∧ DpAll K H' vs ((twinned (tk.qs.take i)).map Qn.dt))
      ⟨same_put (Same.refl H1) hD, [], upd_same, .nil⟩ (fun i H' _ z => KT.same z.1 _ _ hb) ?_ ?_⟩
    · rintro i x H2 hi ⟨s2, vs, h2, d2⟩
      obtain ⟨d, hd, hx⟩ := dps_get hu hi
      obtain ⟨r, hr2⟩ : ∃ r, tk.qs[i]? = some r := ⟨_, List.getElem?_eq_getElem (by have := (List.getElem?_eq_some_iff.mp hi).1; omega)⟩
      rw [List.getElem?_map, hr2] at hd
      have hd := Option.some.inj hd
      subst hd
      have hx' := dp_same s2 _ _ hx
      obtain ⟨ra, ru, rfl, hrs, hru⟩ := dp_qn hx'
      refine ⟨ra, _, rfl, hrs, rfl, _, _, rfl, _, _, rfl, _, _, rfl, rfl, rfl, ?_⟩
      have lv : vs.length = (twinned (tk.qs.take i)).length := by
        have e := dps_len d2
        rwa [List.length_map] at e
      have := lt i
      cases et : r.twin with
      | none =>
        rw [et] at hru
        cases hru
        refine ⟨_, rfl, rfl, _, rfl, ?_⟩
        refine iteF ⟨s2, vs, h2, ?_⟩
        rw [twin_take hr2, et]
        simpa using d2
      | some p =>
        rw [et] at hru
        obtain ⟨ta, tz, ts, rfl, hts, hta⟩ := (by
          obtain ⟨y, e⟩ := p
          obtain ⟨ta, u1, u2, rfl, h1, h2, h3⟩ := dp_pair hru
          exact ⟨ta, (), [u1, u2], rfl, h1, trivial⟩ : ∃ (ta : Addr) (tz : Unit) (ts : List V), ru = .ref ta ∧ SqT K H2 ta ts ∧ True)
        refine ⟨_, rfl, rfl, _, rfl, ?_⟩
        refine iteT ?_
        refine ⟨_, rfl, _, rfl, _, rfl, by show 3 ≤ sizeLine; decide, fun l hl => ?_⟩
        have ne := ne_of_none h2 hl
        have sl : Same H2 (upd H2 l (.tup [.int r.q, .int r.due, .ref ta])) := same_put (Same.refl H2) hl
        refine ⟨vs, (upd_ne ne).trans h2, by omega, ?_, vs ++ [.ref l], upd_same, ?_⟩
        · intro q o z
          rw [upd_ne (ne_of_none z hD)]
          exact sl q o (s2 q o z)
        · have kt : KT K (upd H2 l (.tup [.int r.q, .int r.due, .ref ta])) (upd (upd H2 l (.tup [.int r.q, .int r.due, .ref ta])) D (.lst (vs ++ [.ref l]))) :=
            (Bt.refl.set (List.mem_singleton.mpr rfl)).kt1 ((upd_ne ne).trans h2)
          rw [twin_take hr2, et, List.map_append]
          refine dps_snoc (dps_keep kt _ _ (tds_map qn_td _) (dps_same sl _ _ d2)) (dp_keep kt _ _ (qn_td r) (.tup (SqT.of upd_same) (.cons (.int _) (.cons (.int _) (.cons ?_ .nil)))))
          rw [et]
          exact dp_same sl _ _ hru
    rintro H2 ⟨s2, vs, h2, d2⟩
    rw [hl, List.take_length] at d2
    have lv : vs.length = (twinned tk.qs).length := by
      have e := dps_len d2
      rwa [List.length_map] at e
    have ln : (twinned tk.qs).length ≤ 16 := by
      have := lt tk.qs.length
      rwa [List.take_length] at this
    refine ⟨_, rfl, D, vs, rfl, .inl (SqL.of h2), ?_⟩
    rw [lv]
    refine ⟨_, rfl, D, rfl, ⟨vs, SqL.of h2⟩, fun D2 hD2 => lc_list (K := K) (a := D) (xs := vs) (fun i H' => Same H2 H' ∧ ∃ acc, H' D2 = some (.lst acc) ∧ acc.length = (((twinned tk.qs).take i).filter (Qn.good m s)).length)
      ⟨same_put (Same.refl H2) hD2, [], upd_same, rfl⟩ (fun i H' _ z => SqL.of (z.1 _ _ h2)) ?_ ?_⟩
    · rintro i x H3 hi ⟨s3, acc, h3, l3⟩
      have il := (List.getElem?_eq_some_iff.mp hi).1
      obtain ⟨d, hd, hx⟩ := dps_get d2 hi
      obtain ⟨r, hr2⟩ : ∃ r, (twinned tk.qs)[i]? = some r := ⟨_, List.getElem?_eq_getElem (by omega)⟩
      rw [List.getElem?_map, hr2] at hd
      have hd := Option.some.inj hd
      subst hd
      obtain ⟨ra, ru, rfl, hrs, hru⟩ := dp_qn (dp_same s3 _ _ hx)
      have fl := filt_take (f := Qn.good m s) hr2
      have := List.length_filter_le (Qn.good m s) ((twinned tk.qs).take i)
      rw [List.length_take] at this
      refine ⟨ra, _, rfl, hrs, rfl, _, _, rfl, _, _, rfl, _, _, rfl, rfl, rfl, ?_⟩
      refine ⟨_, rfl, _, rfl, _, rfl, v, m, r.q, s, rfl, dp_same (s2.trans s3) _ _ hv1, ho, _, rfl, ?_⟩
      refine eq_tell ?_
      refine ⟨_, rfl, ?_⟩
      have eg : r.good m s = decide (tell r.q s m = some r.due) := rfl
      rw [← eg]
      refine ite2 (fun e => ?_) (fun e => ?_)
      · rw [if_pos e] at fl
        refine ⟨_, rfl, acc, h3, by omega, same_put s3 hD2, acc ++ [_], upd_same, ?_⟩
        rw [List.length_append, fl, l3]
        rfl
      · rw [if_neg e] at fl
        exact ⟨s3, acc, h3, by rw [fl, l3]; rfl⟩
    rintro H3 ⟨s3, acc, h3, l3⟩
    rw [lv, List.take_length] at l3
    refine ⟨D2, acc, rfl, .inl (SqL.of h3), ?_⟩
    rw [l3]
    have h2' := s3 _ _ h2
    refine ⟨_, rfl, D, rfl, ⟨vs, SqL.of h2'⟩, fun D3 hD3 => lc_list (K := K) (a := D) (xs := vs) (fun i H' => Same H3 H' ∧ ∃ acc, H' D3 = some (.lst acc) ∧ acc.length = (((twinned tk.qs).take i).filter (Qn.twinGood m s)).length)
      ⟨same_put (Same.refl H3) hD3, [], upd_same, rfl⟩ (fun i H' _ z => SqL.of (z.1 _ _ h2')) ?_ ?_⟩
    · rintro i x H4 hi ⟨s4, acc4, h4, l4⟩
      have il := (List.getElem?_eq_some_iff.mp hi).1
      obtain ⟨d, hd, hx⟩ := dps_get d2 hi
      obtain ⟨r, hr2⟩ : ∃ r, (twinned tk.qs)[i]? = some r := ⟨_, List.getElem?_eq_getElem (by omega)⟩
      rw [List.getElem?_map, hr2] at hd
      have hd := Option.some.inj hd
      subst hd
      obtain ⟨ra, ru, rfl, hrs, hru⟩ := dp_qn (dp_same (s3.trans s4) _ _ hx)
      have fl := filt_take (f := Qn.twinGood m s) hr2
      have := List.length_filter_le (Qn.twinGood m s) ((twinned tk.qs).take i)
      rw [List.length_take] at this
      have tw : r.twin.isSome = true := (List.mem_filter.mp (List.mem_of_getElem? hr2)).2
      obtain ⟨⟨y, e⟩, et⟩ := Option.isSome_iff_exists.mp tw
      rw [et] at hru
      obtain ⟨ta, u1, u2, rfl, hts, hu1, hu2⟩ := dp_pair hru
      have e1' := dp_int hu1
      have e2' := dp_int hu2
      subst e1' e2'
      refine ⟨ra, _, rfl, hrs, rfl, _, _, rfl, _, _, rfl, _, _, rfl, rfl, rfl, ?_⟩
      refine ⟨_, rfl, _, rfl, ta, _, _, _, rfl, rfl, hts, at0, _, rfl, v, m, y, s, rfl, dp_same (s2.trans (s3.trans s4)) _ _ hv1, ho, _, rfl, ta, _, _, _, rfl, rfl, hts, at1, ?_⟩
      refine eq_tell ?_
      refine ⟨_, rfl, ?_⟩
      have eg : r.twinGood m s = decide (tell y s m = some e) := by
        unfold Qn.twinGood
        rw [et]
      rw [← eg]
      refine ite2 (fun e => ?_) (fun e => ?_)
      · rw [if_pos e] at fl
        refine ⟨_, rfl, acc4, h4, by omega, same_put s4 hD3, acc4 ++ [_], upd_same, ?_⟩
        rw [List.length_append, fl, l4]
        rfl
      · rw [if_neg e] at fl
        exact ⟨s4, acc4, h4, by rw [fl, l4]; rfl⟩
    rintro H4 ⟨s4, acc4, h4, l4⟩
    rw [lv, List.take_length] at l4
    refine ⟨D3, acc4, rfl, .inl (SqL.of h4), ?_⟩
    rw [l4]
    have na : hereN m s tk.qs ≤ (twinned tk.qs).length := List.length_filter_le _ _
    have nb : thereN m s tk.qs ≤ (twinned tk.qs).length := List.length_filter_le _ _
    have ea : ((twinned tk.qs).filter (Qn.good m s)).length = hereN m s tk.qs := rfl
    have eb : ((twinned tk.qs).filter (Qn.twinGood m s)).length = thereN m s tk.qs := rfl
    rw [ea, eb]
    have eh : heartDt m s tk.qs = .tuple [.int ((twinned tk.qs).length : Nat), .int (hereN m s tk.qs : Nat), .int (thereN m s tk.qs : Nat), .int (waysN (twinned tk.qs).length (hereN m s tk.qs) (thereN m s tk.qs) : Nat), .int (binom (2 * (twinned tk.qs).length) (hereN m s tk.qs + thereN m s tk.qs) : Nat)] := rfl
    rw [eh] at k
    generalize (twinned tk.qs).length = n at na nb ln k ⊢
    generalize hereN m s tk.qs = x at na k ⊢
    generalize thereN m s tk.qs = y at nb k ⊢
    have wl := ways_eq (a := x) nb
    refine ⟨_, rfl, _, rfl, _, rfl, _, _, rfl, rfl, _, _, rfl, rfl, (x : Int), (x : Int) + (y : Int) + 1, rfl, ⟨by omega, by omega, by omega, by omega⟩, fun D4 hD4 => ?_⟩
    have en : ((x : Int) + (y : Int) + 1 - (x : Int)).toNat = y + 1 := by omega
    refine lc_range (lo := (x : Int)) (n := ((x : Int) + (y : Int) + 1 - (x : Int)).toNat) (fun i H' => Same H4 H' ∧ H' D4 = some (.lst (((List.range i).map fun j => ((binom n (x + j) * binom n (y - j) : Nat) : Int)).map V.int))) ⟨same_put (Same.refl H4) hD4, upd_same⟩ ?_ ?_
    · rintro i H5 hi ⟨s5, h5⟩
      rw [en] at hi
      refine ⟨rfl, ?_⟩
      refine yes_ ?_
      refine iteT ?_
      refine ⟨_, rfl, _, rfl, n, x + i, ?_, by omega, by omega, _, rfl, _, rfl, _, rfl, _, _, rfl, rfl, _, rfl, _, _, rfl, rfl, n, y - i, ?_, by omega, by omega, _, _, rfl, rfl, .inl ?_, _, h5, ?_, same_put s5 hD4, ?_⟩
      · show [V.int (n : Nat), V.int ((x : Int) + (i : Nat))] = [V.int (n : Nat), V.int ((x + i : Nat) : Int)]
        rw [Int.natCast_add]
      · show [V.int (n : Nat), V.int ((x : Int) + (y : Int) - ((x : Int) + (i : Nat)))] = [V.int (n : Nat), V.int ((y - i : Nat) : Int)]
        rw [show (x : Int) + (y : Int) - ((x : Int) + (i : Nat)) = ((y - i : Nat) : Int) by omega]
      · have b1 := binom_le n (x + i)
        have b2 : 2 ^ n ≤ 2 ^ 16 := Nat.pow_le_pow_right (by decide) ln
        have b3 : (2 : Nat) ^ 16 = 65536 := by decide
        exact ⟨by omega, by omega⟩
      · rw [List.length_map, List.length_map, List.length_range]
        omega
      · rw [upd_same, List.range_succ, List.map_append, List.map_append]
        show _ = some (HO.lst (_ ++ [V.int ((binom n (x + i) * binom n (y - i) : Nat) : Int)]))
        rw [Int.natCast_mul]
    rintro H5 ⟨s5, h5⟩
    rw [en] at h5
    refine ⟨_, rfl, _, rfl, _, rfl, _, rfl, D4, _, rfl, SqL.of h5, _, rfl, _, _, rfl, rfl, .inl ⟨by decide, by decide⟩, _, rfl, _, rfl, _, _, rfl, rfl, 2 * n, x + y, ?_, by omega, by omega, ?_, fun l hl => ?_⟩
    · show [V.int (2 * (n : Int)), V.int ((x : Int) + (y : Int))] = [V.int ((2 * n : Nat) : Int), V.int ((x + y : Nat) : Int)]
      rw [Int.natCast_add, Int.natCast_mul]
      rfl
    · show 5 ≤ sizeLine
      decide
    rw [sum_cast, wl]
    have sA : Same H H5 := e1.trans (s2.trans (s3.trans (s4.trans s5)))
    exact k (.ref l) _ (same_put sA (same_none sA hl)) (.tup (SqT.of upd_same) (.cons (.int _) (.cons (.int _) (.cons (.int _) (.cons (.int _) (.cons (.int _) .nil))))))
end
end Mh
namespace Mh
open PySem L2
theorem eqv_nilT {ds : List PyData} : PyData.eqv (.tuple ds) (.tuple []) = ds.isEmpty := by
  cases ds <;> simp [PyData.eqv, PyData.eqvAll]
/-- lists of marks -/
def RowsAt (H : Hp) (vs : List V) (ls : List (List Int)) : Prop := vs.length = ls.length ∧ ∀ (j : Nat) (l : List Int), ls[j]? = some l → ∃ a : Addr, vs[j]? = some (V.ref a) ∧ H a = some (HO.lst (l.map V.int))
theorem RowsAt.same {H H' : Hp} {vs : List V} {ls : List (List Int)} (h : RowsAt H vs ls) (s : Same H H') : RowsAt H' vs ls := ⟨h.1, fun j l e => by
  obtain ⟨a, h1, h2⟩ := h.2 j l e
  exact ⟨a, h1, s _ _ h2⟩⟩
theorem RowsAt.app {H : Hp} {vs vs' : List V} {ls ls' : List (List Int)} (h : RowsAt H vs ls) (h' : RowsAt H vs' ls') : RowsAt H (vs ++ vs') (ls ++ ls') := by
  refine ⟨by rw [List.length_append, List.length_append, h.1, h'.1], fun j l e => ?_⟩
  by_cases hj : j < ls.length
  · rw [List.getElem?_append_left hj] at e
    rw [List.getElem?_append_left (by rw [h.1]; exact hj)]
    exact h.2 j l e
  · rw [List.getElem?_append_right (by omega)] at e
    rw [List.getElem?_append_right (by rw [h.1]; omega), h.1]
    exact h'.2 _ l e
theorem RowsAt.nil {H : Hp} : RowsAt H [] [] := ⟨rfl, fun j l e => by simp at e⟩
theorem RowsAt.one {H : Hp} {a : Addr} {l : List Int} (h : H a = some (.lst (l.map V.int))) : RowsAt H [.ref a] [l] := ⟨rfl, fun j y e => by
  cases j with
  | zero =>
    have e : l = y := by simpa using e
    subst e
    exact ⟨a, rfl, h⟩
  | succ j => simp at e⟩
theorem rows_ne {H : Hp} {ws : List V} {ls : List (List Int)} {D a : Addr} {l : List Int} (h : RowsAt H ws ls) (hD : H D = some (.lst ws)) (ha : H a = some (.lst (l.map V.int))) (hl : l ≠ []) : a ≠ D := by
  intro e
  subst e
  have e := hD.symm.trans ha
  injection e with e
  injection e with e
  cases l with
  | nil => exact hl rfl
  | cons x l =>
    have l1 := h.1
    cases ls with
    | nil =>
      rw [e] at l1
      simp at l1
    | cons y ls =>
      obtain ⟨b, h1, _⟩ := h.2 0 y rfl
      rw [e] at h1
      simp at h1
/-- the first j rows, each with a mark more -/
def AppI (H : Hp) (D : Addr) (ls : List (List Int)) (b : Int) (j : Nat) (H' : Hp) : Prop := Same H H' ∧ ∃ ws, H' D = some (.lst ws) ∧ RowsAt H' ws ((ls.take j).map (· ++ [b]))
theorem AppI.step {H H1 H2 : Hp} {D p : Addr} {ls : List (List Int)} {b : Int} {j : Nat} {l : List Int} (h : AppI H D ls b j H1) (hD : H D = none) (s : Same H1 H2) (hl : ls[j]? = some l) (hp : H2 p = some (.lst ((l ++ [b]).map V.int))) (hn : ls.length ≤ 1000) :
    ∃ acc, H2 D = some (.lst acc) ∧ acc.length < sizeLine ∧ AppI H D ls b (j + 1) (upd H2 D (.lst (acc ++ [.ref p]))) := by
  obtain ⟨s1, ws, h1, r1⟩ := h
  have h2 := s _ _ h1
  have r2 := r1.same s
  have hL := sizeLine_eq
  have l1 := r1.1
  rw [List.length_map, List.length_take] at l1
  refine ⟨ws, h2, by omega, same_put (s1.trans s) hD, _, upd_same, ?_⟩
  have e : (ls.take (j + 1)).map (· ++ [b]) = (ls.take j).map (· ++ [b]) ++ [l ++ [b]] := by
    rw [List.take_add_one, hl, List.map_append]
    rfl
  rw [e]
  have stay : ∀ (a : Addr) (y : List Int), y ≠ [] → H2 a = some (.lst (y.map V.int)) → upd H2 D (.lst (ws ++ [.ref p])) a = some (.lst (y.map V.int)) := fun a y hy ha => by
    rw [upd_ne (rows_ne r2 h2 ha hy)]
    exact ha
  refine RowsAt.app ⟨r2.1, fun i y hy => ?_⟩ (RowsAt.one (stay _ _ (by simp) hp))
  obtain ⟨a, g1, g2⟩ := r2.2 i y hy
  refine ⟨a, g1, stay a y ?_ g2⟩
  obtain ⟨z, _, rfl⟩ := List.mem_map.mp (List.mem_of_getElem? hy)
  simp
theorem filt_step {α : Type} {ls : List α} {j : Nat} {l : α} (h : ls[j]? = some l) (p : α → Bool) : ((ls.take (j + 1)).filter p).length = ((ls.take j).filter p).length + if p l = true then 1 else 0 := by
  rw [List.take_add_one, h, List.filter_append, List.length_append]
  congr 1
  by_cases e : p l = true
  · rw [if_pos e]
    simp [e]
  · rw [if_neg e]
    simp [e]
theorem sh_five {a b c d e : Int} : Sh 20 (.tuple [.int a, .int b, .int c, .int d, .int e]) := sh_ints (n := 19) [a, b, c, d, e]
/-- those of the first i numbers that draws let -/
def KnI (d : Addr) (H : Hp) (D : Addr) (lo : Int) (i : Nat) (H' : Hp) : Prop := Bt [d] H H' ∧ DS d H' ∧ ∃ g, H' D = some (.lst ((kn g lo i).map V.int))
section
variable {d D : Addr} {H H7 H8 : Hp} {lo : Int} {i : Nat}
theorem KnI.yes (h : KnI d H D lo i H7) (hd : DS d H) (hD : H D = none) (hi : i ≤ 16) (b : Bt [d] H7 H8) (d8 : DS d H8) {y : V} (ey : y = .int (lo + (i : Nat))) :
    ∃ acc, H8 D = some (.lst acc) ∧ acc.length < sizeLine ∧ KnI d H D lo (i + 1) (upd H8 D (.lst (acc ++ [y]))) := by
  obtain ⟨b7, d7, g, h7⟩ := h
  have nD := hd.ne hD
  have nD2 : D ∉ [d] := by
    simp only [List.mem_singleton]
    exact nD.symm
  have hL := sizeLine_eq
  have l := kn_len g lo i
  obtain ⟨ys, g1, g2⟩ := d8
  refine ⟨_, b _ _ nD2 h7, by rw [List.length_map]; omega, (b7.trans b).put hD, ⟨ys, (upd_ne nD).trans g1, g2⟩, fun k => if k = i then true else g k, ?_⟩
  rw [upd_same, kn_step, if_pos (by simp), List.map_append, ey]
  rw [kn_congr (g := fun k => if k = i then true else g k) (g' := g) fun k hk => if_neg (by omega)]
  rfl
theorem KnI.no (h : KnI d H D lo i H7) (hd : DS d H) (hD : H D = none) (b : Bt [d] H7 H8) (d8 : DS d H8) : KnI d H D lo (i + 1) H8 := by
  obtain ⟨b7, d7, g, h7⟩ := h
  have nD := hd.ne hD
  have nD2 : D ∉ [d] := by
    simp only [List.mem_singleton]
    exact nD.symm
  refine ⟨b7.trans b, d8, fun k => if k = i then false else g k, ?_⟩
  rw [b _ _ nD2 h7, kn_step, if_neg (by simp), List.append_nil]
  rw [kn_congr (g := fun k => if k = i then false else g k) (g' := g) fun k hk => if_neg (by omega)]
end
section
variable {P : Program} {w : World} {K : PySem.W.Frag} {mg : Str → Option Value} {base : Heap} {A : Adr}
theorem ok_law_of (ok_heart : Txt K mg A → FnOk P w K mg base CX0 9 A.heart A.heart_ ["machine", "task", "seed"] (spHeart K)) (T : Txt K mg A) : FnOk P w K mg base CX0 10 A.law A.law_ ["_law_script"] (spLaw K) := by
  refine T.law.F.ok sc_law (fun vs H Q E h => ?_) (fun cdv Ar outer s H vs Q E hr h => ?_)
  · obtain ⟨a, ns, rfl, _⟩ := h
    rfl
  · obtain ⟨a, ns, rfl, hS, hlen, k⟩ := h
    refine ⟨_, (pss_cons (ps_set (i := 1) sc_law.nd rfl (Or.inr rfl) (pe_call (ok_dice T) (hr.mono (by decide)) (by rfl) T.dice.n T.dice.F.kp T.dice.b .nil pass0 (pa_cons (pv 0) (pa_cons pe_int pa_nil))))
    (pss_cons (ps_set (i := 2) sc_law.nd rfl (Or.inl rfl) (pe_op op_add pe_int (pe_call (ok_off T) (hr.mono (by decide)) (by rfl) T.off.n T.off.F.kp T.off.b .nil pass0 (pa_cons (pv 1) (pa_cons pe_int pa_nil)))))
    (pss_cons (ps_set (i := 3) sc_law.nd rfl (Or.inr rfl) (pe_tup (pa_cons pe_str (pa_cons (pe_op op_add pe_int (pe_call (ok_off T) (hr.mono (by decide)) (by rfl) T.off.n T.off.F.kp T.off.b .nil pass0 (pa_cons (pv 1) (pa_cons pe_int pa_nil)))) pa_nil))))
    (pss_cons (ps_set (i := 4) sc_law.nd rfl (Or.inl rfl) (pe_callTy call_tuple_of (by rfl) T.n_tuple PyProof.Rows.boot_tuple (pa_cons (pe_lc (own := [("_law_k", 17)]) (g := gName 17) (tt := tYes) rfl sc_law.nd (pi_range1 (by rfl) T.n_range (pa_cons (pv 2) pa_nil)) (blkOk_by (N := N_law) (sc := defScope s_law) (by decide +kernel)) (fun _ _ _ _ _ => pg_name (i := 17) sc_law.nd rfl (Or.inl rfl) (hf := Or.inr rfl)) (fun _ _ _ _ _ => pts_nil) (fun _ _ _ _ _ => (pe_tup (pa_cons (pv 17) (pa_cons (pe_op op_add (pv 17) (pe_ix (ixK_tup (K := K) rfl) (pv 3) pe_int (fun _ _ => rfl))) (pa_cons (pe_tup (pa_cons (pe_op op_add pe_int (pv 17)) (pa_cons (pe_op op_add (pe_op op_add pe_int (pv 17)) (pe_ix (ixK_tup (K := K) rfl) (pv 3) pe_int (fun _ _ => rfl))) pa_nil))) pa_nil)))))) pa_nil)))
    (pss_cons (ps_setLc (i := 5) (own := [("_law_k", 17)]) (g := gName 17)  rfl sc_law.nd rfl rfl (sw_true rfl rfl rfl (by decide +kernel)) (pi_range1 (by rfl) T.n_range (pa_cons (pv 2) pa_nil)) (blkOk_by (N := N_law) (sc := defScope s_law) (by decide +kernel)) (fun _ _ _ _ _ => pg_name (i := 17) sc_law.nd rfl (Or.inl rfl) (hf := Or.inr rfl)) (fun _ _ _ _ _ => (pts_one (pt_cmpR op_gt (pe_call (ok_off T) (hr.mono (by decide)) (by rfl) T.off.n T.off.F.kp T.off.b .nil pass0 (pa_cons (pv 1) (pa_cons pe_int pa_nil))) pe_int (nomark _)))) (fun _ _ _ _ _ => (pv 17)))
    (pss_cons (ps_set (i := 5) sc_law.nd rfl (Or.inl rfl) (pe_callTy call_tuple_of (by rfl) T.n_tuple PyProof.Rows.boot_tuple (pa_cons (pe_op op_cat (pv 5) (pe_lc (own := [("_law_k", 17)]) (g := gName 17)  rfl sc_law.nd (pi_range1 (by rfl) T.n_range (pa_cons (pv 2) pa_nil)) (blkOk_by (N := N_law) (sc := defScope s_law) (by decide +kernel)) (fun _ _ _ _ _ => pg_name (i := 17) sc_law.nd rfl (Or.inl rfl) (hf := Or.inr rfl)) (fun _ _ _ _ _ => (pts_one (pt_cmpR op_eq (pe_call (ok_off T) (hr.mono (by decide)) (by rfl) T.off.n T.off.F.kp T.off.b .nil pass0 (pa_cons (pv 1) (pa_cons pe_int pa_nil))) pe_int (nomark _)))) (fun _ _ _ _ _ => (pe_op op_add pe_int (pv 17))))) pa_nil)))
    (pss_cons (ps_set (i := 6) sc_law.nd rfl (Or.inl rfl) (pe_ifExp (pt_cmpR (op_neD hr.units) (pv 5) (pe_tup pa_nil) (nomark _)) (pe_tup (pa_cons (pe_tup (pa_cons (pe_tup (pa_cons pe_str (pa_cons (pv 5) pa_nil))) (pa_cons (pv 3) pa_nil))) pa_nil)) (pe_tup (pa_cons (pe_tup (pa_cons (pe_tup (pa_cons pe_str pa_nil)) (pa_cons (pe_tup (pa_cons pe_str pa_nil)) pa_nil))) pa_nil))))
    (pss_cons (ps_asg (pe_call (ok_heart T) (hr.mono (by decide)) (by rfl) T.heart.n T.heart.F.kp T.heart.b0 T.heart.v0 pass0 (pa_cons (pv 6) (pa_cons (pe_tup (pa_cons (pv 4) (pa_cons pe_int pa_nil))) pa_nil))) (pg_tup rfl (pgs_cons (pg_name (i := 7) sc_law.nd rfl (Or.inl rfl)) (pgs_cons (pg_name (i := 8) sc_law.nd rfl (Or.inl rfl)) (pgs_cons (pg_name (i := 9) sc_law.nd rfl (Or.inl rfl)) (pgs_cons (pg_name (i := 10) sc_law.nd rfl (Or.inl rfl)) (pgs_cons (pg_name (i := 11) sc_law.nd rfl (Or.inl rfl)) pgs_nil)))))))
    (pss_cons (ps_set (i := 12) sc_law.nd rfl (Or.inl rfl) (pe_lst (pa_cons pe_int (pa_cons pe_int pa_nil))))
    (pss_cons (ps_set (i := 13) sc_law.nd rfl (Or.inl rfl) (pe_lst (pa_cons (pe_lst pa_nil) pa_nil)))
    (pss_cons (ps_for PassesOwn.never rfl (pi_range1 (by rfl) T.n_range (pa_cons (pe_op op_mul pe_int (pv 2)) pa_nil)) (pg_name (i := 14) sc_law.nd rfl (Or.inl rfl))
    (pss_one (ps_set (i := 13) sc_law.nd rfl (Or.inl rfl) (pe_op op_cat (pe_lc (own := [("_law_row", 18)]) (g := gName 18) (tt := tYes) rfl sc_law.nd (pi_list (pv 13)) (blkOk_by (N := N_law) (sc := defScope s_law) (by decide +kernel)) (fun _ _ _ _ _ => pg_name (i := 18) sc_law.nd rfl (Or.inl rfl) (hf := Or.inr rfl)) (fun _ _ _ _ _ => pts_nil) (fun _ _ _ _ _ => (pe_op op_cat (pv 18) (pe_lst (pa_cons pe_int pa_nil))))) (pe_lc (own := [("_law_row", 18)]) (g := gName 18) (tt := tYes) rfl sc_law.nd (pi_list (pv 13)) (blkOk_by (N := N_law) (sc := defScope s_law) (by decide +kernel)) (fun _ _ _ _ _ => pg_name (i := 18) sc_law.nd rfl (Or.inl rfl) (hf := Or.inr rfl)) (fun _ _ _ _ _ => pts_nil) (fun _ _ _ _ _ => (pe_op op_cat (pv 18) (pe_lst (pa_cons pe_int pa_nil)))))))))
    (pss_cons (ps_for PassesOwn.never rfl (pi_list (pv 13)) (pg_name (i := 15) sc_law.nd rfl (Or.inl rfl))
    (pss_one (ps_if (pt_cmpR op_eq (pe_callB (cr_sum rfl) (by rfl) T.n_sum (by decide +kernel) (pa_cons (pv 15) pa_nil)) (pe_op op_add (pv 8) (pv 9)) (nomark _))
    (pss_one (ps_set (i := 12) sc_law.nd rfl (Or.inl rfl) (pe_lst (pa_cons (pe_op op_add (pe_ix ix_list (pv 12) pe_int (fun _ _ => rfl)) (pe_callTy call_int1 (by rfl) T.n_int (by decide +kernel) (pa_cons (pe_cmpR op_ge (pe_callB (cr_sum rfl) (by rfl) T.n_sum (by decide +kernel) (pa_cons (pe_slice sl_list (pv 15) po_none (po_some (pv 2))) pa_nil)) (pv 8) (nomark _)) pa_nil))) (pa_cons (pe_op op_add (pe_ix ix_list (pv 12) pe_int (fun _ _ => rfl)) pe_int) pa_nil)))))
    pss_nil)))
    (pss_cons (ps_if (PW.pt (pw_or (pt_cmpR (op_neD hr.units) (pe_lst (pa_cons (pv 7) (pa_cons (pv 10) (pa_cons (pv 11) pa_nil)))) (pe_op op_cat (pe_lst (pa_cons (pv 2) pa_nil)) (pv 12)) (nomark _)) (pw_or1 (pt_cmpR op_ne (pv 8) (pe_callB call_len_seq (by rfl) T.n_len PySem.boot_len (pa_cons (pe_lc (own := [("_law_k", 17)]) (g := gName 17)  rfl sc_law.nd (pi_tup (pv 5)) (blkOk_by (N := N_law) (sc := defScope s_law) (by decide +kernel)) (fun _ _ _ _ _ => pg_name (i := 17) sc_law.nd rfl (Or.inl rfl) (hf := Or.inr rfl)) (fun _ _ _ _ _ => (pts_one (pt_cmpR op_lt (pv 17) pe_int (nomark _)))) (fun _ _ _ _ _ => (pv 17))) pa_nil)) (nomark _)))))
    (pss_one (ps_ret pe_bl))
    pss_nil)
    (pss_cons (ps_set (i := 16) sc_law.nd rfl (Or.inl rfl) (pe_callN (ok_heart T) (hr.mono (by decide)) (by rfl) T.heart.n T.heart.F.kp T.heart.kb pass0 (pa_cons (pe_tup (pa_cons (pe_tup (pa_cons (pe_tup (pa_cons pe_str pa_nil)) (pa_cons (pv 3) pa_nil))) pa_nil)) (pa_cons (pe_tup (pa_cons (pv 4) (pa_cons pe_int pa_nil))) pa_nil)) (pk_cons (pe_call (ok_off T) (hr.mono (by decide)) (by rfl) T.off.n T.off.F.kp T.off.b .nil pass0 (pa_cons (pv 1) (pa_cons pe_int pa_nil))) pk_nil)))
    (pss_one (ps_ret (pe_and (pe_cmpR (op_eqD hr.units) (pv 16) (pe_tup (pa_cons (pv 2) (pa_cons (pv 2) (pa_cons (pv 2) (pa_cons pe_int (pa_cons pe_int pa_nil)))))) (nomark _)) (pe_one (pe_cmpR (op_eqD hr.units) (pe_call (ok_heart T) (hr.mono (by decide)) (by rfl) T.heart.n T.heart.F.kp T.heart.b0 T.heart.v0 pass0 (pa_cons (pv 6) (pa_cons (pe_tup (pa_cons (pe_tup (pa_cons (pe_tup (pa_cons pe_int (pa_cons pe_int (pa_cons pe_non pa_nil)))) pa_nil)) (pa_cons pe_int pa_nil))) pa_nil))) (pe_tup (pa_cons pe_int (pa_cons pe_int (pa_cons pe_int (pa_cons pe_int (pa_cons pe_int pa_nil)))))) (nomark _)))))))))))))))))))), ?_⟩
    have hL := sizeLine_eq
    refine ⟨_, rfl, a, ns, 0, rfl, hS, hlen, by decide, by decide, fun d H1 xs hd s1 hx dx => ?_⟩
    have d1 : DS d H1 := ⟨xs, hx, dx⟩
    refine rd_off rfl d1 (by decide) (by decide) fun r H2 r0 r1 b2 d2 => ?_
    refine ⟨_, _, rfl, rfl, ?_⟩
    obtain ⟨n, en, n0, n4⟩ : ∃ n : Nat, 1 + r = (n : Int) ∧ 1 ≤ n ∧ n ≤ 4 := ⟨(1 + r).toNat, by omega, by omega, by omega⟩
    dsimp only
    rw [en]
    refine rd_off rfl d2 (by decide) (by decide) fun c H3 cL0 cL1 b3 d3 => ?_
    refine ⟨_, _, rfl, rfl, by show 2 ≤ sizeLine; decide, fun rp hrp => ?_⟩
    obtain ⟨w, ew, w0, w9⟩ : ∃ w : Int, 1 + c = w ∧ 0 ≤ w ∧ w ≤ 99 := ⟨1 + c, rfl, by omega, by omega⟩
    dsimp only
    rw [ew]
    have d4 := d3.new (o := .tup [.str "plus", .int w]) hrp
    have h4 : upd H3 rp (.tup [.str "plus", .int w]) rp = some (.tup [.str "plus", .int w]) := upd_same
    generalize upd H3 rp (.tup [.str "plus", .int w]) = H4 at d4 h4
    refine ⟨_, rfl, n, rfl, by omega, by omega, fun D hD => ?_⟩
    refine lc_range (lo := 0) (n := ((n : Nat) : Int).toNat) (fun i H' => Same H4 H' ∧ ∃ vs, H' D = some (.lst vs) ∧ DpAll K H' vs ((rows9 w i).map Qn.dt)) ⟨same_put (Same.refl H4) hD, [], upd_same, .nil⟩ ?_ ?_
    · rintro i H5 hi ⟨s5, vs, h5, a5⟩
      have e0 : (0 : Int) + (i : Int) = ((i : Nat) : Int) := by omega
      rw [e0]
      refine ⟨rfl, ?_⟩
      refine yes_ ?_
      refine iteT ?_
      refine ⟨_, rfl, _, rfl, _, rfl, rp, _, _, _, rfl, rfl, SqT.of (s5 _ _ h4), at1, _, _, rfl, rfl, ?_⟩
      refine ⟨_, rfl, _, _, rfl, rfl, _, rfl, _, _, rfl, rfl, _, rfl, rp, _, _, _, rfl, rfl, SqT.of (s5 _ _ h4), at1, _, _, rfl, rfl, ?_⟩
      refine ⟨by show 2 ≤ sizeLine; decide, fun p1 hp1 => ⟨by show 3 ≤ sizeLine; decide, fun p2 hp2 => ?_⟩⟩
      have n1 : D ≠ p1 := ne_of_none h5 hp1
      have h6 := (upd_ne (o := .tup [.int (100 + (i : Nat)), .int (100 + (i : Nat) + w)]) n1).trans h5
      have n2 : D ≠ p2 := ne_of_none h6 hp2
      have h7 := (upd_ne (o := .tup [.int (i : Nat), .int ((i : Nat) + w), .ref p1]) n2).trans h6
      have lv : vs.length = i := by
        have e := dps_len a5
        rw [List.length_map, rows9_len] at e
        exact e
      have g1 : upd (upd H5 p1 (.tup [.int (100 + (i : Nat)), .int (100 + (i : Nat) + w)])) p2 (.tup [.int (i : Nat), .int ((i : Nat) + w), .ref p1]) p1 = some (.tup [.int (100 + (i : Nat)), .int (100 + (i : Nat) + w)]) := by
        rw [upd_ne (ne_of_none upd_same hp2), upd_same]
      have s7 : Same H5 (upd (upd H5 p1 (.tup [.int (100 + (i : Nat)), .int (100 + (i : Nat) + w)])) p2 (.tup [.int (i : Nat), .int ((i : Nat) + w), .ref p1])) := same_put (same_put (Same.refl H5) hp1) ((same_put (Same.refl H5) hp1).free hp2)
      have g2 : upd (upd H5 p1 (.tup [.int (100 + (i : Nat)), .int (100 + (i : Nat) + w)])) p2 (.tup [.int (i : Nat), .int ((i : Nat) + w), .ref p1]) p2 = some (.tup [.int (i : Nat), .int ((i : Nat) + w), .ref p1]) := upd_same
      refine ⟨vs, h7, by omega, ?_⟩
      generalize upd (upd H5 p1 (.tup [.int (100 + (i : Nat)), .int (100 + (i : Nat) + w)])) p2 (.tup [.int (i : Nat), .int ((i : Nat) + w), .ref p1]) = H7 at h7 g1 g2 s7
      refine ⟨same_put (s5.trans s7) hD, _, upd_same, ?_⟩
      have kt : KT K H7 (upd H7 D (.lst (vs ++ [.ref p2]))) := (Bt.refl.set (S := [D]) (by simp)).kt1 h7
      have e : rows9 w (i + 1) = rows9 w i ++ [qn9 w i] := by
        unfold rows9
        rw [List.range_succ, List.map_append]
        rfl
      rw [e, List.map_append]
      refine dps_snoc (dps_keep ((KT.same s7).trans kt) _ _ (tds_map qn_td _) a5) ?_
      refine dp_keep kt _ _ (qn_td _) ?_
      exact .tup (SqT.of g2) (.cons (.int _) (.cons (.int _) (.cons (.tup (SqT.of g1) (.cons (.int _) (.cons (.int _) .nil))) .nil)))
    · rintro H5 ⟨s5, vs, h5, a5⟩
      rw [Int.toNat_natCast] at a5
      refine ⟨D, vs, rfl, .inl ⟨SqL.of h5, fun q hq => ?_⟩⟩
      have s6 : Same H4 (upd H5 q (.tup vs)) := same_put s5 (s5.free hq)
      have t6 : Dp K (upd H5 q (.tup vs)) (.ref q) (.tuple ((rows9 w n).map Qn.dt)) := .tup (SqT.of upd_same) (dps_same (same_put (Same.refl H5) hq) _ _ a5)
      have d6 := d4.same s6
      have h6 := s6 _ _ h4
      generalize upd H5 q (.tup vs) = H6 at s6 t6 d6 h6
      refine ⟨_, rfl, n, rfl, by omega, by omega, fun D1 hD1 => ?_⟩
      refine lc_range (lo := 0) (n := ((n : Nat) : Int).toNat) (fun i H' => KnI d H6 D1 0 i H') ⟨Bt.new hD1, d6.new hD1, fun _ => false, upd_same⟩ ?_ ?_
      · rintro i H7 hi f7
        refine ⟨rfl, ?_⟩
        refine rd_off rfl f7.2.1 (by decide) (by decide) fun x H8 x0 x1 b8 d8 => ?_
        refine ⟨_, _, rfl, rfl, _, rfl, ?_⟩
        refine ite2 (fun e => ?_) (fun e => ?_)
        · exact ⟨_, rfl, f7.yes d6 hD1 (by omega) b8 d8 rfl⟩
        · exact f7.no d6 hD1 b8 d8
      rintro H7 ⟨b7, d7, g, h7⟩
      rw [Int.toNat_natCast] at h7
      have kt7 := d6.kt (K := K) b7
      have t7 := dp_keep kt7 _ _ (by simp [TD, tds_map qn_td]) t6
      have nrp : rp ∉ [d] := by
        simp only [List.mem_singleton]
        exact fun z => by
          obtain ⟨ys, g1, _⟩ := d6
          rw [z, g1] at h6
          cases h6
      have h7r := b7 _ _ nrp h6
      refine ⟨_, rfl, _, rfl, n, rfl, by omega, by omega, fun D2 hD2 => ?_⟩
      refine lc_range (lo := 0) (n := ((n : Nat) : Int).toNat) (fun i H' => KnI d H7 D2 100 i H') ⟨Bt.new hD2, d7.new hD2, fun _ => false, upd_same⟩ ?_ ?_
      · rintro i H8 hi f8
        refine ⟨rfl, ?_⟩
        refine rd_off rfl f8.2.1 (by decide) (by decide) fun x H9 x0 x1 b9 d9 => ?_
        refine ⟨rfl, _, rfl, ?_⟩
        refine ite2 (fun e => ?_) (fun e => ?_)
        · refine ⟨_, rfl, _, _, rfl, rfl, f8.yes d7 hD2 (by omega) b9 d9 ?_⟩
          show V.int (100 + (0 + (i : Int))) = _
          rw [show (0 : Int) + (i : Int) = ((i : Nat) : Int) by omega]
        · exact f8.no d7 hD2 b9 d9
      rintro H8 ⟨b8, d8, h, h8⟩
      rw [Int.toNat_natCast] at h8
      have nD1 : D1 ∉ [d] := by
        simp only [List.mem_singleton]
        exact fun z => by
          obtain ⟨ys, g1, _⟩ := d6
          rw [z, g1] at hD1
          cases hD1
      have h8a := b8 _ _ nD1 h7
      have h8r := b8 _ _ nrp h7r
      have t8 := dp_keep (d7.kt (K := K) b8) _ _ (by simp [TD, tds_map qn_td]) t7
      have lk := kn_len g 0 n
      have lh := kn_len h 100 n
      refine ⟨D1, D2, _, _, rfl, rfl, h8a, h8, by rw [List.length_map, List.length_map]; omega, fun p3 hp3 => ?_⟩
      rw [← List.map_append]
      refine ⟨p3, _, rfl, .inl ⟨SqL.of upd_same, fun p4 hp4 => ?_⟩⟩
      have s9 : Same H8 (upd (upd H8 p3 (.lst ((kn g 0 n ++ kn h 100 n).map V.int))) p4 (.tup ((kn g 0 n ++ kn h 100 n).map V.int))) := same_put (same_put (Same.refl H8) hp3) ((same_put (Same.refl H8) hp3).free hp4)
      have k9 : Dp K (upd (upd H8 p3 (.lst ((kn g 0 n ++ kn h 100 n).map V.int))) p4 (.tup ((kn g 0 n ++ kn h 100 n).map V.int))) (.ref p4) (.tuple ((kn g 0 n ++ kn h 100 n).map PyData.int)) := .tup (SqT.of upd_same) (dps_of_ints _)
      generalize upd (upd H8 p3 (.lst ((kn g 0 n ++ kn h 100 n).map V.int))) p4 (.tup ((kn g 0 n ++ kn h 100 n).map V.int)) = H9 at s9 k9
      have t9 := dp_same s9 _ _ t8
      have r9 : Dp K H9 (.ref rp) (Asw.plus w).dt := .tup (SqT.of (s9 _ _ h8r)) (.cons (.str _) (.cons (.int _) .nil))
      have d9 := d8.same s9
      clear b2 b3 b7 b8 d2 d3 d4 d6 d7 d8 t6 t7 t8 h4 h5 h6 h7 h7r h8 h8a h8r kt7 s5 s6 s9 a5 nD1 nrp hp3 hp4 hD hD1 hD2
      refine tIf_two (tT := tTest (tOp (rNeD K) (tVar 5) (tTup tNil))) (fun mv H10 => Same H9 H10 ∧ Dp K H10 mv (machDt (mach9 (kn g 0 n ++ kn h 100 n) w))) ?_ fun rest => ?_
      · rintro mv H10 ⟨s10, m10⟩
        refine ⟨_, rfl, _, rfl, by show 2 ≤ sizeLine; decide, fun tp htp => ?_⟩
        have sA : Same H9 (upd H10 tp (.tup [.ref q, .int 1])) := same_put s10 (s10.free htp)
        have tA : Dp K (upd H10 tp (.tup [.ref q, .int 1])) (.ref tp) (Task.mk (rows9 w n) 1).dt := .tup (SqT.of upd_same) (.cons (dp_same sA _ _ t9) (.cons (.int _) .nil))
        have mA := dp_same (same_put (o := .tup [.ref q, .int 1]) (Same.refl H10) htp) _ _ m10
        generalize upd H10 tp (.tup [.ref q, .int 1]) = H11 at sA tA mA
        refine ⟨mv, .ref tp, mach9 (kn g 0 n ++ kn h 100 n) w, ⟨rows9 w n, 1⟩, 0, rfl, mA, tA, mach9_ok n4 w0 w9, task9_ok w0 w9 n0 n4, by decide, by decide, fun u H12 s12 h12 => ?_⟩
        have h12 : Dp K H12 u (.tuple [.int ((twinned (rows9 w n)).length : Nat), .int (hereN (mach9 (kn g 0 n ++ kn h 100 n) w) 0 (rows9 w n) : Nat), .int (thereN (mach9 (kn g 0 n ++ kn h 100 n) w) 0 (rows9 w n) : Nat),
          .int (waysN (twinned (rows9 w n)).length (hereN (mach9 (kn g 0 n ++ kn h 100 n) w) 0 (rows9 w n)) (thereN (mach9 (kn g 0 n ++ kn h 100 n) w) 0 (rows9 w n)) : Nat),
          .int (binom (2 * (twinned (rows9 w n)).length) (hereN (mach9 (kn g 0 n ++ kn h 100 n) w) 0 (rows9 w n) + thereN (mach9 (kn g 0 n ++ kn h 100 n) w) 0 (rows9 w n)) : Nat)]) := h12
        have hB : thereN (mach9 (kn g 0 n ++ kn h 100 n) w) 0 (rows9 w n) ≤ (twinned (rows9 w n)).length := List.length_filter_le _ _
        rw [twinned9, rows9_len, here9 n4] at h12
        rw [twinned9, rows9_len] at hB
        have hA := kn_len g 0 n
        have low := low9 (g := g) (h := h) n4
        obtain ⟨up, ux, rfl, hu, hua⟩ := dp_tup h12
        obtain ⟨z1, ur, rfl, c1', hua⟩ := dps_cons hua
        obtain ⟨z2, ur, rfl, c2', hua⟩ := dps_cons hua
        obtain ⟨z3, ur, rfl, c3', hua⟩ := dps_cons hua
        obtain ⟨z4, ur, rfl, c4', hua⟩ := dps_cons hua
        obtain ⟨z5, ur, rfl, c5', hua⟩ := dps_cons hua
        have ez := dps_nil hua
        subst ez
        cases c1'
        cases c2'
        cases c3'
        cases c4'
        cases c5'
        generalize enB : thereN (mach9 (kn g 0 n ++ kn h 100 n) w) 0 (rows9 w n) = nB at hu hB
        generalize enA : (kn g 0 n).length = nA at hu hA low
        refine ⟨up, _, rfl, hu, rfl, _, _, rfl, _, _, rfl, _, _, rfl, _, _, rfl, _, _, rfl, rfl, ?_⟩
        refine ⟨by show 2 ≤ sizeLine; decide, fun f0 hf0 => ?_⟩
        refine ⟨Nat.zero_le _, fun l0 hl0 => ⟨by show 1 ≤ sizeLine; decide, fun e0 he0 => ?_⟩⟩
        have y1 := same_put (o := .lst [.int 0, .int 0]) (Same.refl H12) hf0
        have y2 := same_put (o := .lst []) (Same.refl _) hl0
        have y3 := same_put (o := .lst [.ref l0]) (Same.refl _) he0
        have sB := s12.trans (y1.trans (y2.trans y3))
        have hf := y3 _ _ (y2 _ _ (upd_same (H := H12) (a := f0) (o := .lst [.int 0, .int 0])))
        have hl := y3 _ _ (upd_same (H := upd H12 f0 (.lst [.int 0, .int 0])) (a := l0) (o := .lst []))
        have he : upd (upd (upd H12 f0 (.lst [.int 0, .int 0])) l0 (.lst [])) e0 (.lst [.ref l0]) e0 = some (.lst [.ref l0]) := upd_same
        have hB' := sA.trans sB
        have mB := dp_same sB _ _ mA
        generalize upd (upd (upd H12 f0 (.lst [.int 0, .int 0])) l0 (.lst [])) e0 (.lst [.ref l0]) = HB at hf hl he hB' mB
        clear y1 y2 y3 sB hf0 hl0 he0
        have b16 : ∀ i ≤ 2 * n, (marks i).length ≤ 256 := fun i hi => by
          rw [marks_len]
          exact Nat.le_trans (Nat.pow_le_pow_right (n := 2) (by decide) (show i ≤ 8 by omega)) (by decide)
        refine ⟨_, rfl, _, _, rfl, rfl, .inl ⟨by decide, by decide⟩, _, rfl, by omega, by omega, for_range (lo := 0) (n := ((2 * (n : Int)).toNat)) (fun i σ H' => Same HB H' ∧ ∃ e vs x14, σ = [some (.ref a), some (.ref d), some (.int (n : Nat)), some (.ref rp), some (.ref q), some (.ref p4), some mv, some (.int (n : Nat)), some (.int (nA : Nat)), some (.int (nB : Nat)), some (.int (waysN n nA nB : Nat)), some (.int (binom (2 * n) (nA + nB) : Nat)), some (.ref f0), some (.ref e), x14, none, none, none, none] ∧ H' e = some (.lst vs) ∧ RowsAt H' vs (marks i)) ?_ ?_ ?_⟩
        · exact ⟨Same.refl HB, e0, _, _, rfl, he, RowsAt.one hl⟩
        · rintro i σ H13 hi ⟨s13, e, vs, x14, rfl, he13, r13⟩
          have bi := b16 i (by omega)
          have lv := r13.1
          refine ⟨_, rfl, e, rfl, ⟨_, SqL.of he13⟩, fun D4 hD4 => lc_list (K := K) (a := e) (xs := vs) (fun j H' => AppI H13 D4 (marks i) 0 j H') ⟨same_put (Same.refl H13) hD4, [], upd_same, .nil⟩ (fun j H' _ p => SqL.of (p.1 _ _ he13)) ?_ ?_⟩
          · rintro j x H14 hj f14
            obtain ⟨l, hl⟩ : ∃ l, (marks i)[j]? = some l := ⟨_, List.getElem?_eq_getElem (by rw [← lv]; exact (List.getElem?_eq_some_iff.mp hj).1)⟩
            obtain ⟨la, g1, g2⟩ := r13.2 j l hl
            have ex := g1.symm.trans hj
            injection ex with ex
            subst ex
            have l8 := (marks_each i l (List.mem_of_getElem? hl)).1
            refine ⟨rfl, ?_⟩
            refine yes_ ?_
            refine iteT ?_
            refine ⟨_, rfl, by show 1 ≤ sizeLine; decide, fun l1 hl1 => ?_⟩
            have w1 := same_put (o := .lst [.int 0]) (Same.refl H14) hl1
            refine ⟨la, l1, _, _, rfl, rfl, w1 _ _ (f14.1 _ _ g2), upd_same, by rw [List.length_map, List.length_singleton]; omega, fun p5 hp5 => ?_⟩
            have w2 := same_put (o := .lst (l.map V.int ++ [.int 0])) (Same.refl _) hp5
            exact f14.step hD4 (w1.trans w2) hl (by rw [upd_same, List.map_append]; rfl) (by omega)
          rintro H14 ⟨s14, ws, h14, r14⟩
          rw [lv, List.take_length] at r14
          have he14 := s14 _ _ he13
          refine ⟨_, rfl, e, rfl, ⟨_, SqL.of he14⟩, fun D5 hD5 => lc_list (K := K) (a := e) (xs := vs) (fun j H' => AppI H14 D5 (marks i) 1 j H') ⟨same_put (Same.refl H14) hD5, [], upd_same, .nil⟩ (fun j H' _ p => SqL.of (p.1 _ _ he14)) ?_ ?_⟩
          · rintro j x H15 hj f15
            obtain ⟨l, hl⟩ : ∃ l, (marks i)[j]? = some l := ⟨_, List.getElem?_eq_getElem (by rw [← lv]; exact (List.getElem?_eq_some_iff.mp hj).1)⟩
            obtain ⟨la, g1, g2⟩ := r13.2 j l hl
            have ex := g1.symm.trans hj
            injection ex with ex
            subst ex
            have l8 := (marks_each i l (List.mem_of_getElem? hl)).1
            refine ⟨rfl, ?_⟩
            refine yes_ ?_
            refine iteT ?_
            refine ⟨_, rfl, by show 1 ≤ sizeLine; decide, fun l1 hl1 => ?_⟩
            have w1 := same_put (o := .lst [.int 1]) (Same.refl H15) hl1
            refine ⟨la, l1, _, _, rfl, rfl, w1 _ _ (f15.1 _ _ (s14 _ _ g2)), upd_same, by rw [List.length_map, List.length_singleton]; omega, fun p5 hp5 => ?_⟩
            have w2 := same_put (o := .lst (l.map V.int ++ [.int 1])) (Same.refl _) hp5
            exact f15.step hD5 (w1.trans w2) hl (by rw [upd_same, List.map_append]; rfl) (by omega)
          rintro H15 ⟨s15, ws2, h15, r15⟩
          rw [lv, List.take_length] at r15
          have lw := r14.1
          have lw2 := r15.1
          rw [List.length_map] at lw lw2
          refine ⟨D4, D5, _, _, rfl, rfl, s15 _ _ h14, h15, by omega, fun e2 he2 => ?_⟩
          have w3 := same_put (o := .lst (ws ++ ws2)) (Same.refl H15) he2
          exact ⟨s13.trans (s14.trans (s15.trans w3)), e2, _, _, rfl, upd_same, RowsAt.app (r14.same (s15.trans w3)) (r15.same w3)⟩
        rintro σ H13 ⟨s13, e, vs, x14, rfl, he13, r13⟩
        have e2n : (2 * (n : Int)).toNat = 2 * n := by omega
        rw [e2n] at r13
        have lv := r13.1
        refine ⟨_, rfl, e, rfl, ⟨_, SqL.of he13⟩, for_list (K := K) (a := e) (xs := vs) (fun j σ H' => Same H13 H' ∧ ∃ f x15, σ = [some (.ref a), some (.ref d), some (.int (n : Nat)), some (.ref rp), some (.ref q), some (.ref p4), some mv, some (.int (n : Nat)), some (.int (nA : Nat)), some (.int (nB : Nat)), some (.int (waysN n nA nB : Nat)), some (.int (binom (2 * n) (nA + nB) : Nat)), some (.ref f), some (.ref e), x14, x15, none, none, none] ∧ H' f = some (.lst [.int (c1 n (nA : Nat) ((nA + nB : Nat) : Int) ((marks (2 * n)).take j) : Nat), .int (c2 ((nA + nB : Nat) : Int) ((marks (2 * n)).take j) : Nat)])) ?_ (fun j σ H' _ p => SqL.of (p.1 _ _ he13)) ?_ ?_⟩
        · exact ⟨Same.refl H13, f0, _, rfl, s13 _ _ hf⟩
        · rintro j x σ H14 hj ⟨s14, f, x15, rfl, hf14⟩
          obtain ⟨l, hl⟩ : ∃ l, (marks (2 * n))[j]? = some l := ⟨_, List.getElem?_eq_getElem (by rw [← lv]; exact (List.getElem?_eq_some_iff.mp hj).1)⟩
          obtain ⟨la, g1, g2⟩ := r13.2 j l hl
          have ex := g1.symm.trans hj
          injection ex with ex
          subst ex
          have k1 : c1 n (nA : Nat) ((nA + nB : Nat) : Int) ((marks (2 * n)).take (j + 1)) = c1 n (nA : Nat) ((nA + nB : Nat) : Int) ((marks (2 * n)).take j) + if (markAll ((nA + nB : Nat) : Int) l && markHere n (nA : Nat) l) = true then 1 else 0 := filt_step hl _
          have k2 : c2 ((nA + nB : Nat) : Int) ((marks (2 * n)).take (j + 1)) = c2 ((nA + nB : Nat) : Int) ((marks (2 * n)).take j) + if markAll ((nA + nB : Nat) : Int) l = true then 1 else 0 := filt_step hl _
          rw [k1, k2]
          have el : ∀ e : Bool, e = decide (V.int l.sum = V.int ((nA : Int) + (nB : Int))) → markAll ((nA + nB : Nat) : Int) l = e := fun e he => by
            rw [he]
            unfold markAll
            rw [decide_eq_decide]
            constructor
            · intro z
              exact congrArg V.int z
            · intro z
              injection z with z
          refine ⟨_, rfl, la, l, rfl, SqL.of (s14 _ _ g2), ?_⟩
          refine ⟨_, rfl, _, rfl, _, _, rfl, rfl, rfl, _, rfl, ?_⟩
          refine ite2 (fun e1 => ?_) (fun e1 => ?_)
          · have em := el true e1.symm
            rw [em]
            refine ⟨_, rfl, f, _, _, _, rfl, rfl, SqL.of hf14, at0, _, rfl, _, rfl, _, rfl, la, _, rfl, SqL.of (s14 _ _ g2), fun l5 hl5 => ?_⟩
            rw [cut_take (by omega), Int.toNat_natCast, ← List.map_take]
            have w1 := same_put (o := .lst ((l.take n).map V.int)) (Same.refl H14) hl5
            have hf15 := w1 _ _ hf14
            refine ⟨l5, l.take n, rfl, SqL.of upd_same, _, rfl, _, _, rfl, rfl, .inr ⟨_, rfl, _, _, rfl, rfl, ?_⟩⟩
            refine ⟨_, rfl, f, _, _, _, rfl, rfl, SqL.of hf15, at1, _, _, rfl, rfl, by show 2 ≤ sizeLine; decide, fun f2 hf2 => ?_⟩
            refine ⟨s14.trans (w1.trans (same_put (Same.refl _) hf2)), f2, _, rfl, ?_⟩
            have em2 : markHere n (nA : Nat) l = decide ((nA : Int) ≤ (l.take n).sum) := rfl
            rw [em2, Bool.true_and]
            by_cases e3 : (nA : Int) ≤ (l.take n).sum
            · rw [decide_eq_true e3]
              exact upd_same
            · rw [decide_eq_false e3]
              exact upd_same
          · have em := el false (Bool.eq_false_iff.mpr e1).symm
            rw [em]
            exact ⟨s14, f, _, rfl, hf14⟩
        rintro σ H14 ⟨s14, f, x15, rfl, hf14⟩
        rw [lv, List.take_length] at hf14
        obtain ⟨cc1, cc2⟩ := marks_small n4 hA hB
        rw [cc1, cc2] at hf14
        refine ⟨_, rfl, _, rfl, _, rfl, by show 3 ≤ sizeLine; decide, fun l6 hl6 => ?_⟩
        refine ⟨_, rfl, by show 1 ≤ sizeLine; decide, fun l7 hl7 => ?_⟩
        have w1 := same_put (o := .lst [.int (n : Nat), .int (waysN n nA nB : Nat), .int (binom (2 * n) (nA + nB) : Nat)]) (Same.refl H14) hl6
        have w2 := same_put (o := .lst [.int (n : Nat)]) (Same.refl _) hl7
        refine ⟨_, rfl, l7, f, _, _, rfl, rfl, upd_same, w2 _ _ (w1 _ _ hf14), by show 3 ≤ sizeLine; decide, fun l8 hl8 => ?_⟩
        have w3 := same_put (o := .lst ([.int (n : Nat)] ++ [.int (waysN n nA nB : Nat), .int (binom (2 * n) (nA + nB) : Nat)])) (Same.refl _) hl8
        have hq1 := w3 _ _ (w2 _ _ (upd_same (H := H14) (a := l6) (o := .lst [.int (n : Nat), .int (waysN n nA nB : Nat), .int (binom (2 * n) (nA + nB) : Nat)])))
        have hq2 := upd_same (H := upd (upd H14 l6 (.lst [.int (n : Nat), .int (waysN n nA nB : Nat), .int (binom (2 * n) (nA + nB) : Nat)])) l7 (.lst [.int (n : Nat)])) (a := l8) (o := .lst ([.int (n : Nat)] ++ [.int (waysN n nA nB : Nat), .int (binom (2 * n) (nA + nB) : Nat)]))
        have s15 := s14.trans (w1.trans (w2.trans w3))
        generalize upd (upd (upd H14 l6 (.lst [.int (n : Nat), .int (waysN n nA nB : Nat), .int (binom (2 * n) (nA + nB) : Nat)])) l7 (.lst [.int (n : Nat)])) l8 (.lst ([.int (n : Nat)] ++ [.int (waysN n nA nB : Nat), .int (binom (2 * n) (nA + nB) : Nat)])) = H15 at hq1 hq2 s15
        refine neD_same (d := .list [.int (n : Nat), .int (waysN n nA nB : Nat), .int (binom (2 * n) (nA + nB) : Nat)]) (.lst (SqL.of hq1) (.cons (.int _) (.cons (.int _) (.cons (.int _) .nil)))) (.lst (SqL.of hq2) (.cons (.int _) (.cons (.int _) (.cons (.int _) .nil)))) ?_ ⟨_, rfl, ?_⟩
        · exact sh_list (n := 19) fun d hd => by
            simp only [List.mem_cons, List.not_mem_nil, or_false] at hd
            rcases hd with rfl | rfl | rfl <;> exact sh_int _
        refine iteF ?_
        have s16 := s13.trans s15
        have sfull := hB'.trans s16
        have k16 := dp_same sfull _ _ k9
        obtain ⟨kp, kx, ekp, hkp, hka⟩ := dp_tup k16
        injection ekp with ekp
        subst ekp
        rw [dps_ints_eq hka] at hkp
        refine ⟨_, rfl, _, rfl, p4, rfl, ⟨_, hkp⟩, fun D6 hD6 => lc_tup (K := K) (a := p4) (xs := (kn g 0 n ++ kn h 100 n).map V.int) (fun j H' => Same H15 H' ∧ H' D6 = some (.lst ((((kn g 0 n ++ kn h 100 n).take j).filter fun k => decide (k < 100)).map V.int))) ⟨same_put (Same.refl H15) hD6, upd_same⟩ (fun j H' _ p => KT.same p.1 _ _ hkp) ?_ ?_⟩
        · rintro j x H16 hj ⟨s16, h16⟩
          obtain ⟨z, hz, rfl⟩ := int_at hj
          refine ⟨rfl, ?_⟩
          refine ⟨_, rfl, _, _, rfl, rfl, _, rfl, ?_⟩
          have es : (((kn g 0 n ++ kn h 100 n).take (j + 1)).filter fun k => decide (k < 100)) = (((kn g 0 n ++ kn h 100 n).take j).filter fun k => decide (k < 100)) ++ (if decide (z < 100) = true then [z] else []) := by
            rw [List.take_add_one, hz, List.filter_append]
            congr 1
            by_cases e : z < 100
            · simp [e]
            · simp [e]
          refine ite2 (fun e1 => ?_) (fun e1 => ?_)
          · rw [es, if_pos e1]
            refine ⟨_, rfl, _, h16, ?_, same_put s16 hD6, ?_⟩
            · have q1 := List.length_filter_le (fun k : Int => decide (k < 100)) ((kn g 0 n ++ kn h 100 n).take j)
              rw [List.length_take, List.length_append] at q1
              rw [List.length_map]
              omega
            · rw [upd_same, List.map_append]
              rfl
          · rw [es, if_neg e1, List.append_nil]
            exact ⟨s16, h16⟩
        rintro H16 ⟨s16, h16⟩
        rw [List.length_map, List.take_length] at h16
        refine ⟨D6, _, rfl, .inl (SqL.of h16), rfl, _, rfl, ?_⟩
        rw [List.length_map, low]
        refine ifn (by simp) ?_
        have sg := sfull.trans s16
        have d16 := d9.same sg
        have r16 := dp_same sg _ _ r9
        have t16 := dp_same sg _ _ t9
        have m16 := dp_same (s13.trans (s15.trans s16)) _ _ mB
        refine ⟨by show 1 ≤ sizeLine; decide, fun q1 hq1 => ⟨_, rfl, by show 2 ≤ sizeLine; decide, fun q2 hq2 => ⟨by show 1 ≤ sizeLine; decide, fun q3 hq3 => ⟨_, rfl, by show 2 ≤ sizeLine; decide, fun q4 hq4 => ?_⟩⟩⟩⟩
        have v1 := same_put (o := .tup [.str "any"]) (Same.refl H16) hq1
        have v2 := same_put (o := .tup [.ref q1, .ref rp]) (Same.refl _) hq2
        have v3 := same_put (o := .tup [.ref q2]) (Same.refl _) hq3
        have v4 := same_put (o := .tup [.ref q, .int 1]) (Same.refl _) hq4
        have v14 := v1.trans (v2.trans (v3.trans v4))
        have mAll : Dp K (upd (upd (upd (upd H16 q1 (.tup [.str "any"])) q2 (.tup [.ref q1, .ref rp])) q3 (.tup [.ref q2])) q4 (.tup [.ref q, .int 1])) (.ref q3) (machDt [(.any, .plus w)]) :=
          .tup (SqT.of (v4 _ _ upd_same)) (.cons (.tup (SqT.of (v4 _ _ (v3 _ _ upd_same))) (.cons (.tup (SqT.of (v4 _ _ (v3 _ _ (v2 _ _ upd_same)))) (.cons (.str _) .nil)) (.cons (dp_same v14 _ _ r16) .nil))) .nil)
        have tAll : Dp K (upd (upd (upd (upd H16 q1 (.tup [.str "any"])) q2 (.tup [.ref q1, .ref rp])) q3 (.tup [.ref q2])) q4 (.tup [.ref q, .int 1])) (.ref q4) (Task.mk (rows9 w n) 1).dt :=
          .tup (SqT.of upd_same) (.cons (dp_same v14 _ _ t16) (.cons (.int _) .nil))
        have d17 := d16.same v14
        have m17 := dp_same v14 _ _ m16
        generalize upd (upd (upd (upd H16 q1 (.tup [.str "any"])) q2 (.tup [.ref q1, .ref rp])) q3 (.tup [.ref q2])) q4 (.tup [.ref q, .int 1]) = H17 at mAll tAll d17 m17
        refine rd_off rfl d17 (by decide) (by decide) fun sd H18 sd0 sd1 b18 d18 => ?_
        have kt18 := d17.kt (K := K) b18
        have okAll : MachOk [(.any, .plus w)] := ⟨by simp, by simp, fun r hr => by
          have e : r = (Tst.any, Asw.plus w) := by simpa using hr
          subst e
          exact ⟨True.intro, by show -9999 ≤ w; omega, by show w ≤ 9999; omega⟩⟩
        refine ⟨rfl, rfl, .ref q3, .ref q4, [(.any, .plus w)], ⟨rows9 w n, 1⟩, sd, rfl, dp_keep kt18 _ _ (mach_td _) mAll, dp_keep kt18 _ _ (task_td _) tAll, okAll, task9_ok w0 w9 n0 n4, sd0, by omega, fun u2 H19 s19 h19 => ?_⟩
        have m19 := dp_same s19 _ _ (dp_keep kt18 _ _ (mach_td _) m17)
        have eAll : heartDt [(.any, .plus w)] sd (rows9 w n) = .tuple [.int (n : Nat), .int (n : Nat), .int (n : Nat), .int 1, .int 1] := by
          obtain ⟨a1, a2⟩ := all9 (w := w) (n := n) (s := sd)
          obtain ⟨a3, a4⟩ := heart_all n4
          show PyData.tuple [.int ((twinned (rows9 w n)).length : Nat), .int (hereN [(.any, .plus w)] sd (rows9 w n) : Nat), .int (thereN [(.any, .plus w)] sd (rows9 w n) : Nat),
            .int (waysN (twinned (rows9 w n)).length (hereN [(.any, .plus w)] sd (rows9 w n)) (thereN [(.any, .plus w)] sd (rows9 w n)) : Nat),
            .int (binom (2 * (twinned (rows9 w n)).length) (hereN [(.any, .plus w)] sd (rows9 w n) + thereN [(.any, .plus w)] sd (rows9 w n)) : Nat)] = _
          rw [a1, a2, twinned9, rows9_len, a3, a4]
          rfl
        have h19 : Dp K H19 u2 (heartDt [(.any, .plus w)] sd (rows9 w n)) := h19
        rw [eAll] at h19
        refine ⟨_, rfl, _, rfl, _, rfl, _, rfl, by show 5 ≤ sizeLine; decide, fun q5 hq5 => ?_⟩
        have v5 := same_put (o := .tup [.int (n : Nat), .int (n : Nat), .int (n : Nat), .int 1, .int 1]) (Same.refl H19) hq5
        refine eqD_same (d := .tuple [.int (n : Nat), .int (n : Nat), .int (n : Nat), .int 1, .int 1]) (dp_same v5 _ _ h19) (.tup (SqT.of upd_same) (.cons (.int _) (.cons (.int _) (.cons (.int _) (.cons (.int _) (.cons (.int _) .nil)))))) sh_five ?_
        refine ⟨_, rfl, ?_⟩
        refine iteT ?_
        refine ⟨_, rfl, by show 3 ≤ sizeLine; decide, fun q6 hq6 => ⟨by show 1 ≤ sizeLine; decide, fun q7 hq7 => ⟨by show 2 ≤ sizeLine; decide, fun q8 hq8 => ?_⟩⟩⟩
        have v6 := same_put (o := .tup [.int 0, .int 0, .non]) (Same.refl _) hq6
        have v7 := same_put (o := .tup [.ref q6]) (Same.refl _) hq7
        have v8 := same_put (o := .tup [.ref q7, .int 1]) (Same.refl _) hq8
        have m20 := dp_same (v5.trans (v6.trans (v7.trans v8))) _ _ m19
        have okT : (Task.mk [⟨0, 0, none⟩] 1).Ok := ⟨by simp, by simp, fun r hr => by
          have e : r = ⟨0, 0, none⟩ := by simpa using hr
          subst e
          exact ⟨by decide, by decide, ⟨by decide, by decide⟩, fun _ _ z => by cases z⟩, by simp, by decide, by decide⟩
        refine ⟨mv, .ref q8, mach9 (kn g 0 n ++ kn h 100 n) w, ⟨[⟨0, 0, none⟩], 1⟩, 0, rfl, m20, ?_, mach9_ok n4 w0 w9, okT, by decide, by decide, fun u3 H20 s20 h20 => ?_⟩
        · exact .tup (SqT.of upd_same) (.cons (.tup (SqT.of (v8 _ _ upd_same)) (.cons (.tup (SqT.of (v8 _ _ (v7 _ _ upd_same))) (.cons (.int _) (.cons (.int _) (.cons .non .nil)))) .nil)) (.cons (.int _) .nil))
        have h20 : Dp K H20 u3 (.tuple [.int 0, .int 0, .int 0, .int 1, .int 1]) := h20
        refine ⟨by show 5 ≤ sizeLine; decide, fun q9 hq9 => ?_⟩
        have v9 := same_put (o := .tup [.int 0, .int 0, .int 0, .int 1, .int 1]) (Same.refl H20) hq9
        refine eqD_same (d := .tuple [.int 0, .int 0, .int 0, .int 1, .int 1]) (dp_same v9 _ _ h20) (.tup (SqT.of upd_same) (.cons (.int _) (.cons (.int _) (.cons (.int _) (.cons (.int _) (.cons (.int _) .nil)))))) sh_five ?_
        exact k _
      · refine ⟨_, rfl, Nat.zero_le _, fun pe hpe => ?_⟩
        have s10 := same_put (o := .tup []) (Same.refl H9) hpe
        refine ⟨.tuple ((kn g 0 n ++ kn h 100 n).map PyData.int), .tuple [], dp_same s10 _ _ k9, .tup (SqT.of upd_same) .nil, (sh_ints (n := 20) _).shaped (by decide), (sh_tuple (n := 20) (ds := []) (by simp)).shaped (by decide), _, rfl, ?_⟩
        rw [eqv_nilT]
        generalize upd H9 pe (.tup []) = H10 at s10
        by_cases hk : kn g 0 n ++ kn h 100 n = []
        · have e : ((kn g 0 n ++ kn h 100 n).map PyData.int).isEmpty = true := by rw [hk]; rfl
          rw [e]
          refine ifn (by decide) ?_
          refine ⟨by show 1 ≤ sizeLine; decide, fun q1 hq1 => ⟨by show 1 ≤ sizeLine; decide, fun q2 hq2 => ⟨by show 2 ≤ sizeLine; decide, fun q3 hq3 => ⟨by show 1 ≤ sizeLine; decide, fun q4 hq4 => ?_⟩⟩⟩⟩
          have em : mach9 (kn g 0 n ++ kn h 100 n) w = [(.any, .non)] := if_pos hk
          have w1 := same_put (o := .tup [.str "any"]) (Same.refl H10) hq1
          have w2 := same_put (o := .tup [.str "none"]) (Same.refl _) hq2
          have w3 := same_put (o := .tup [.ref q1, .ref q2]) (Same.refl _) hq3
          have w4 := same_put (o := .tup [.ref q3]) (Same.refl _) hq4
          refine rest (.ref q4) _ ⟨s10.trans (w1.trans (w2.trans (w3.trans w4))), ?_⟩
          rw [em]
          exact .tup (SqT.of upd_same) (.cons (.tup (SqT.of (w4 _ _ upd_same)) (.cons (.tup (SqT.of (w4 _ _ (w3 _ _ (w2 _ _ upd_same)))) (.cons (.str _) .nil)) (.cons (.tup (SqT.of (w4 _ _ (w3 _ _ upd_same))) (.cons (.str _) .nil)) .nil))) .nil)
        · have e : ((kn g 0 n ++ kn h 100 n).map PyData.int).isEmpty = false := by
            cases e : kn g 0 n ++ kn h 100 n with
            | nil => exact absurd e hk
            | cons _ _ => rfl
          rw [e]
          refine ifp (by decide) ?_
          refine ⟨_, rfl, by show 2 ≤ sizeLine; decide, fun q1 hq1 => ⟨_, rfl, by show 2 ≤ sizeLine; decide, fun q3 hq3 => ⟨by show 1 ≤ sizeLine; decide, fun q4 hq4 => ?_⟩⟩⟩
          have em : mach9 (kn g 0 n ++ kn h 100 n) w = [(.known (kn g 0 n ++ kn h 100 n), .plus w)] := if_neg hk
          have w1 := same_put (o := .tup [.str "known", .ref p4]) (Same.refl H10) hq1
          have w3 := same_put (o := .tup [.ref q1, .ref rp]) (Same.refl _) hq3
          have w4 := same_put (o := .tup [.ref q3]) (Same.refl _) hq4
          have sx := s10.trans (w1.trans (w3.trans w4))
          refine rest (.ref q4) _ ⟨sx, ?_⟩
          rw [em]
          exact .tup (SqT.of upd_same) (.cons (.tup (SqT.of (w4 _ _ upd_same)) (.cons (.tup (SqT.of (w4 _ _ (w3 _ _ upd_same))) (.cons (.str _) (.cons (dp_same sx _ _ k9) .nil))) (.cons (dp_same sx _ _ r9) .nil))) .nil)
end
end Mh
namespace Mh
open PySem L2
section
variable {P : Program} {w : World} {K : PySem.W.Frag} {mg : Str → Option Value} {base : Heap} {A : Adr}
theorem ok_law (T : Txt K mg A) : FnOk P w K mg base CX0 10 A.law A.law_ ["_law_script"] (spLaw K) := ok_law_of ok_heart T
end
theorem all_mk {l : PySem.W.OpenLaw} {w : World} {K : PySem.W.Frag} {h : Heap} {mg : Str → Option Value} {fa : Addr} (X : K.In h) (G : h.Ns mainGlobals mg) (hfa : mg "law" = some (.ref fa))
    {f0 f1 f2 f3 f4 f5 f6 f7 f8 f9 f10 f11 f12 f13 f14 f15 f16 f17 f18 f19 f20 f21 f22 : Addr}
    {od0 an0 od1 an1 od2 an2 od3 an3 od4 an4 od5 an5 od6 an6 od7 an7 od8 an8 od9 an9 od10 an10 od11 an11 od12 an12 od13 an13 od14 an14 od15 an15 od16 an16 od17 an17 od18 an18 od19 an19 od20 an20 od21 an21 od22 an22 : Option Addr}
    {sl0 sl1 sl2 sl3 sl4 sl5 sl6 sl7 sl8 sl9 sl10 sl11 sl12 sl13 sl14 sl15 sl16 sl17 sl18 sl19 sl20 sl21 sl22 : Array (Option Value)}
    {oc0 dc0 pm0 cd0 ct0 kV0 oc1 dc1 pm1 cd1 ct1 kV1 oc2 dc2 pm2 cd2 ct2 kV2 oc3 dc3 pm3 cd3 ct3 kV3 oc4 dc4 pm4 cd4 ct4 kV4 oc5 dc5 pm5 cd5 ct5 kV5 oc6 dc6 pm6 cd6 ct6 kV6 oc7 dc7 pm7 cd7 ct7 kV7 oc8 dc8 pm8 cd8 ct8 kV8 oc9 dc9 pm9 cd9 ct9 kV9 oc10 dc10 pm10 cd10 ct10 kV10 oc11 dc11 pm11 cd11 ct11 kV11 oc12 dc12 pm12 cd12 ct12 kV12 oc13 dc13 pm13 cd13 ct13 kV13 oc14 dc14 pm14 cd14 ct14 kV14 oc15 dc15 pm15 cd15 ct15 kV15 oc16 dc16 pm16 cd16 ct16 kV16 oc17 dc17 pm17 cd17 ct17 kV17 oc18 dc18 pm18 cd18 ct18 kV18 oc19 dc19 pm19 cd19 ct19 oc20 dc20 pm20 cd20 ct20 kV20 oc21 dc21 pm21 cd21 ct21 kV21 oc22 dc22 pm22 cd22 ct22 kV22 : Value}
    (a0 : PySem.W.nsIn K mainGlobals "is_number" = some (some (.ref f0))) (l0 : K.lookup f0 = some ⟨oc0, od0, .func (PySem.W.fnOf "is_number" "is_number" (defArgs s_is_number) (defBody s_is_number) (defScope s_is_number) .none kV0 dc0 pm0 an0 cd0 ct0), sl0⟩) (c0 : PySem.W.codeIn K cd0 "is_number" = true) (k0 : PySem.W.keepIn K (.ref f0) = true)
    (a1 : PySem.W.nsIn K mainGlobals "is_question" = some (some (.ref f1))) (l1 : K.lookup f1 = some ⟨oc1, od1, .func (PySem.W.fnOf "is_question" "is_question" (defArgs s_is_question) (defBody s_is_question) (defScope s_is_question) .none kV1 dc1 pm1 an1 cd1 ct1), sl1⟩) (c1 : PySem.W.codeIn K cd1 "is_question" = true) (k1 : PySem.W.keepIn K (.ref f1) = true)
    (a2 : PySem.W.nsIn K mainGlobals "is_seed" = some (some (.ref f2))) (l2 : K.lookup f2 = some ⟨oc2, od2, .func (PySem.W.fnOf "is_seed" "is_seed" (defArgs s_is_seed) (defBody s_is_seed) (defScope s_is_seed) .none kV2 dc2 pm2 an2 cd2 ct2), sl2⟩) (c2 : PySem.W.codeIn K cd2 "is_seed" = true) (k2 : PySem.W.keepIn K (.ref f2) = true)
    (a3 : PySem.W.nsIn K mainGlobals "is_divisor" = some (some (.ref f3))) (l3 : K.lookup f3 = some ⟨oc3, od3, .func (PySem.W.fnOf "is_divisor" "is_divisor" (defArgs s_is_divisor) (defBody s_is_divisor) (defScope s_is_divisor) .none kV3 dc3 pm3 an3 cd3 ct3), sl3⟩) (c3 : PySem.W.codeIn K cd3 "is_divisor" = true) (k3 : PySem.W.keepIn K (.ref f3) = true)
    (a4 : PySem.W.nsIn K mainGlobals "is_known" = some (some (.ref f4))) (l4 : K.lookup f4 = some ⟨oc4, od4, .func (PySem.W.fnOf "is_known" "is_known" (defArgs s_is_known) (defBody s_is_known) (defScope s_is_known) .none kV4 dc4 pm4 an4 cd4 ct4), sl4⟩) (c4 : PySem.W.codeIn K cd4 "is_known" = true) (k4 : PySem.W.keepIn K (.ref f4) = true)
    (a5 : PySem.W.nsIn K mainGlobals "is_test" = some (some (.ref f5))) (l5 : K.lookup f5 = some ⟨oc5, od5, .func (PySem.W.fnOf "is_test" "is_test" (defArgs s_is_test) (defBody s_is_test) (defScope s_is_test) .none kV5 dc5 pm5 an5 cd5 ct5), sl5⟩) (c5 : PySem.W.codeIn K cd5 "is_test" = true) (k5 : PySem.W.keepIn K (.ref f5) = true)
    (a6 : PySem.W.nsIn K mainGlobals "is_answer" = some (some (.ref f6))) (l6 : K.lookup f6 = some ⟨oc6, od6, .func (PySem.W.fnOf "is_answer" "is_answer" (defArgs s_is_answer) (defBody s_is_answer) (defScope s_is_answer) .none kV6 dc6 pm6 an6 cd6 ct6), sl6⟩) (c6 : PySem.W.codeIn K cd6 "is_answer" = true) (k6 : PySem.W.keepIn K (.ref f6) = true)
    (a7 : PySem.W.nsIn K mainGlobals "is_row" = some (some (.ref f7))) (l7 : K.lookup f7 = some ⟨oc7, od7, .func (PySem.W.fnOf "is_row" "is_row" (defArgs s_is_row) (defBody s_is_row) (defScope s_is_row) .none kV7 dc7 pm7 an7 cd7 ct7), sl7⟩) (c7 : PySem.W.codeIn K cd7 "is_row" = true) (k7 : PySem.W.keepIn K (.ref f7) = true)
    (a8 : PySem.W.nsIn K mainGlobals "check_machine" = some (some (.ref f8))) (l8 : K.lookup f8 = some ⟨oc8, od8, .func (PySem.W.fnOf "check_machine" "check_machine" (defArgs s_check_machine) (defBody s_check_machine) (defScope s_check_machine) .none kV8 dc8 pm8 an8 cd8 ct8), sl8⟩) (c8 : PySem.W.codeIn K cd8 "check_machine" = true) (k8 : PySem.W.keepIn K (.ref f8) = true)
    (a9 : PySem.W.nsIn K mainGlobals "check_seed" = some (some (.ref f9))) (l9 : K.lookup f9 = some ⟨oc9, od9, .func (PySem.W.fnOf "check_seed" "check_seed" (defArgs s_check_seed) (defBody s_check_seed) (defScope s_check_seed) .none kV9 dc9 pm9 an9 cd9 ct9), sl9⟩) (c9 : PySem.W.codeIn K cd9 "check_seed" = true) (k9 : PySem.W.keepIn K (.ref f9) = true)
    (a10 : PySem.W.nsIn K mainGlobals "does_hold" = some (some (.ref f10))) (l10 : K.lookup f10 = some ⟨oc10, od10, .func (PySem.W.fnOf "does_hold" "does_hold" (defArgs s_does_hold) (defBody s_does_hold) (defScope s_does_hold) .none kV10 dc10 pm10 an10 cd10 ct10), sl10⟩) (c10 : PySem.W.codeIn K cd10 "does_hold" = true) (k10 : PySem.W.keepIn K (.ref f10) = true)
    (a11 : PySem.W.nsIn K mainGlobals "outcome" = some (some (.ref f11))) (l11 : K.lookup f11 = some ⟨oc11, od11, .func (PySem.W.fnOf "outcome" "outcome" (defArgs s_outcome) (defBody s_outcome) (defScope s_outcome) .none kV11 dc11 pm11 an11 cd11 ct11), sl11⟩) (c11 : PySem.W.codeIn K cd11 "outcome" = true) (k11 : PySem.W.keepIn K (.ref f11) = true)
    (a12 : PySem.W.nsIn K mainGlobals "run" = some (some (.ref f12))) (l12 : K.lookup f12 = some ⟨oc12, od12, .func (PySem.W.fnOf "run" "run" (defArgs s_run) (defBody s_run) (defScope s_run) .none kV12 dc12 pm12 an12 cd12 ct12), sl12⟩) (c12 : PySem.W.codeIn K cd12 "run" = true) (k12 : PySem.W.keepIn K (.ref f12) = true)
    (a13 : PySem.W.nsIn K mainGlobals "is_due" = some (some (.ref f13))) (l13 : K.lookup f13 = some ⟨oc13, od13, .func (PySem.W.fnOf "is_due" "is_due" (defArgs s_is_due) (defBody s_is_due) (defScope s_is_due) .none kV13 dc13 pm13 an13 cd13 ct13), sl13⟩) (c13 : PySem.W.codeIn K cd13 "is_due" = true) (k13 : PySem.W.keepIn K (.ref f13) = true)
    (a14 : PySem.W.nsIn K mainGlobals "is_twin" = some (some (.ref f14))) (l14 : K.lookup f14 = some ⟨oc14, od14, .func (PySem.W.fnOf "is_twin" "is_twin" (defArgs s_is_twin) (defBody s_is_twin) (defScope s_is_twin) .none kV14 dc14 pm14 an14 cd14 ct14), sl14⟩) (c14 : PySem.W.codeIn K cd14 "is_twin" = true) (k14 : PySem.W.keepIn K (.ref f14) = true)
    (a15 : PySem.W.nsIn K mainGlobals "is_asked" = some (some (.ref f15))) (l15 : K.lookup f15 = some ⟨oc15, od15, .func (PySem.W.fnOf "is_asked" "is_asked" (defArgs s_is_asked) (defBody s_is_asked) (defScope s_is_asked) .none kV15 dc15 pm15 an15 cd15 ct15), sl15⟩) (c15 : PySem.W.codeIn K cd15 "is_asked" = true) (k15 : PySem.W.keepIn K (.ref f15) = true)
    (a16 : PySem.W.nsIn K mainGlobals "is_framed" = some (some (.ref f16))) (l16 : K.lookup f16 = some ⟨oc16, od16, .func (PySem.W.fnOf "is_framed" "is_framed" (defArgs s_is_framed) (defBody s_is_framed) (defScope s_is_framed) .none kV16 dc16 pm16 an16 cd16 ct16), sl16⟩) (c16 : PySem.W.codeIn K cd16 "is_framed" = true) (k16 : PySem.W.keepIn K (.ref f16) = true)
    (a17 : PySem.W.nsIn K mainGlobals "check_task" = some (some (.ref f17))) (l17 : K.lookup f17 = some ⟨oc17, od17, .func (PySem.W.fnOf "check_task" "check_task" (defArgs s_check_task) (defBody s_check_task) (defScope s_check_task) .none kV17 dc17 pm17 an17 cd17 ct17), sl17⟩) (c17 : PySem.W.codeIn K cd17 "check_task" = true) (k17 : PySem.W.keepIn K (.ref f17) = true)
    (a18 : PySem.W.nsIn K mainGlobals "check_run" = some (some (.ref f18))) (l18 : K.lookup f18 = some ⟨oc18, od18, .func (PySem.W.fnOf "check_run" "check_run" (defArgs s_check_run) (defBody s_check_run) (defScope s_check_run) .none kV18 dc18 pm18 an18 cd18 ct18), sl18⟩) (c18 : PySem.W.codeIn K cd18 "check_run" = true) (k18 : PySem.W.keepIn K (.ref f18) = true)
    {dk19 : Addr} {kd19_0 : Value}
    (a19 : PySem.W.nsIn K mainGlobals "heart" = some (some (.ref f19))) (l19 : K.lookup f19 = some ⟨oc19, od19, .func (PySem.W.fnOf "heart" "heart" (defArgs s_heart) (defBody s_heart) (defScope s_heart) .none (.ref dk19) dc19 pm19 an19 cd19 ct19), sl19⟩) (c19 : PySem.W.codeIn K cd19 "heart" = true) (k19 : PySem.W.keepIn K (.ref f19) = true)
    (q19_0 : PySem.W.nsIn K dk19 "seed" = some (some kd19_0)) (r19_0 : RelV (.int 0) kd19_0)
    (a20 : PySem.W.nsIn K mainGlobals "_law_dice" = some (some (.ref f20))) (l20 : K.lookup f20 = some ⟨oc20, od20, .func (PySem.W.fnOf "_law_dice" "_law_dice" (defArgs s_dice) (defBody s_dice) (defScope s_dice) .none kV20 dc20 pm20 an20 cd20 ct20), sl20⟩) (c20 : PySem.W.codeIn K cd20 "_law_dice" = true) (k20 : PySem.W.keepIn K (.ref f20) = true)
    (a21 : PySem.W.nsIn K mainGlobals "_law_off" = some (some (.ref f21))) (l21 : K.lookup f21 = some ⟨oc21, od21, .func (PySem.W.fnOf "_law_off" "_law_off" (defArgs s_off) (defBody s_off) (defScope s_off) .none kV21 dc21 pm21 an21 cd21 ct21), sl21⟩) (c21 : PySem.W.codeIn K cd21 "_law_off" = true) (k21 : PySem.W.keepIn K (.ref f21) = true)
    (a22 : PySem.W.nsIn K mainGlobals "law" = some (some (.ref f22))) (l22 : K.lookup f22 = some ⟨oc22, od22, .func (PySem.W.fnOf "law" "law" (defArgs s_law) (defBody s_law) (defScope s_law) .none kV22 dc22 pm22 an22 cd22 ct22), sl22⟩) (c22 : PySem.W.codeIn K cd22 "law" = true) (k22 : PySem.W.keepIn K (.ref f22) = true)
    (z_abs : PySem.W.nsIn K mainGlobals "abs" = some none)
    (z_all : PySem.W.nsIn K mainGlobals "all" = some none)
    (z_bool : PySem.W.nsIn K mainGlobals "bool" = some none)
    (z_enumerate : PySem.W.nsIn K mainGlobals "enumerate" = some none)
    (z_int : PySem.W.nsIn K mainGlobals "int" = some none)
    (z_isinstance : PySem.W.nsIn K mainGlobals "isinstance" = some none)
    (z_len : PySem.W.nsIn K mainGlobals "len" = some none)
    (z_range : PySem.W.nsIn K mainGlobals "range" = some none)
    (z_set : PySem.W.nsIn K mainGlobals "set" = some none)
    (z_sum : PySem.W.nsIn K mainGlobals "sum" = some none)
    (z_tuple : PySem.W.nsIn K mainGlobals "tuple" = some none)
    (z_zip : PySem.W.nsIn K mainGlobals "zip" = some none)
    (x_comb : PySem.W.nsIn K mainGlobals "comb" = some (some (.builtin "math.comb")))
    {v_LAST_QUESTION : Value} (y_LAST_QUESTION : PySem.W.nsIn K mainGlobals "LAST_QUESTION" = some (some v_LAST_QUESTION)) (r_LAST_QUESTION : RelV (.int 9999) v_LAST_QUESTION)
    {v_LAST_SEED : Value} (y_LAST_SEED : PySem.W.nsIn K mainGlobals "LAST_SEED" = some (some v_LAST_SEED)) (r_LAST_SEED : RelV (.int 999) v_LAST_SEED)
    {v_MOST_ROWS : Value} (y_MOST_ROWS : PySem.W.nsIn K mainGlobals "MOST_ROWS" = some (some v_MOST_ROWS)) (r_MOST_ROWS : RelV (.int 12) v_MOST_ROWS)
    {v_MOST_KNOWN : Value} (y_MOST_KNOWN : PySem.W.nsIn K mainGlobals "MOST_KNOWN" = some (some v_MOST_KNOWN)) (r_MOST_KNOWN : RelV (.int 8) v_MOST_KNOWN)
    {v_LEAST_DIVISOR : Value} (y_LEAST_DIVISOR : PySem.W.nsIn K mainGlobals "LEAST_DIVISOR" = some (some v_LEAST_DIVISOR)) (r_LEAST_DIVISOR : RelV (.int 2) v_LEAST_DIVISOR)
    {v_MOST_DIVISOR : Value} (y_MOST_DIVISOR : PySem.W.nsIn K mainGlobals "MOST_DIVISOR" = some (some v_MOST_DIVISOR)) (r_MOST_DIVISOR : RelV (.int 99) v_MOST_DIVISOR)
    {v_MOST_IN_ANSWER : Value} (y_MOST_IN_ANSWER : PySem.W.nsIn K mainGlobals "MOST_IN_ANSWER" = some (some v_MOST_IN_ANSWER)) (r_MOST_IN_ANSWER : RelV (.int 9999) v_MOST_IN_ANSWER)
    {v_MOST_QUESTIONS : Value} (y_MOST_QUESTIONS : PySem.W.nsIn K mainGlobals "MOST_QUESTIONS" = some (some v_MOST_QUESTIONS)) (r_MOST_QUESTIONS : RelV (.int 16) v_MOST_QUESTIONS)
    {v_MOST_DUE : Value} (y_MOST_DUE : PySem.W.nsIn K mainGlobals "MOST_DUE" = some (some v_MOST_DUE)) (r_MOST_DUE : RelV (.int 99999999) v_MOST_DUE)
    {v_MOST_WEIGHT : Value} (y_MOST_WEIGHT : PySem.W.nsIn K mainGlobals "MOST_WEIGHT" = some (some v_MOST_WEIGHT)) (r_MOST_WEIGHT : RelV (.int 9) v_MOST_WEIGHT)
    : ∃ fd : FuncData, (∀ (s : Shared) (v : Value), BindsTo s fd ⟨[v], []⟩ [("_law_script", v)]) ∧ ∀ base : Heap, K.In base → base.Ns mainGlobals mg → FnOk l.prog w K mg base CX0 10 fa fd ["_law_script"] (spLaw K) := by
  have e := hfa.symm.trans (PySem.W.mg_of X G a22)
  cases e
  have F0 := fun_mk (st := s_is_number) l0 c0 k0
  have F1 := fun_mk (st := s_is_question) l1 c1 k1
  have F2 := fun_mk (st := s_is_seed) l2 c2 k2
  have F3 := fun_mk (st := s_is_divisor) l3 c3 k3
  have F4 := fun_mk (st := s_is_known) l4 c4 k4
  have F5 := fun_mk (st := s_is_test) l5 c5 k5
  have F6 := fun_mk (st := s_is_answer) l6 c6 k6
  have F7 := fun_mk (st := s_is_row) l7 c7 k7
  have F8 := fun_mk (st := s_check_machine) l8 c8 k8
  have F9 := fun_mk (st := s_check_seed) l9 c9 k9
  have F10 := fun_mk (st := s_does_hold) l10 c10 k10
  have F11 := fun_mk (st := s_outcome) l11 c11 k11
  have F12 := fun_mk (st := s_run) l12 c12 k12
  have F13 := fun_mk (st := s_is_due) l13 c13 k13
  have F14 := fun_mk (st := s_is_twin) l14 c14 k14
  have F15 := fun_mk (st := s_is_asked) l15 c15 k15
  have F16 := fun_mk (st := s_is_framed) l16 c16 k16
  have F17 := fun_mk (st := s_check_task) l17 c17 k17
  have F18 := fun_mk (st := s_check_run) l18 c18 k18
  have F19 := fun_mk (st := s_heart) l19 c19 k19
  have F20 := fun_mk (st := s_dice) l20 c20 k20
  have F21 := fun_mk (st := s_off) l21 c21 k21
  have F22 := fun_mk (st := s_law) l22 c22 k22
  have D19 : FunD K "heart" "heart" (defArgs s_heart) (defBody s_heart) (defScope s_heart) [] [("seed", (.int 0))] f19 _ := ⟨⟨_, _, _, _, _, _, _, _, _, _, rfl, l19, c19, .inl ⟨rfl, rfl⟩, .inr ⟨dk19, rfl, fun q hq => by rw [List.mem_singleton] at hq; subst hq; exact ⟨kd19_0, q19_0, r19_0⟩⟩⟩, k19⟩
  obtain ⟨ds19, v19, b19⟩ := D19.binds0 (ps := ["machine", "task", "seed"]) 2 (by simp) rfl fun D doc pm an cdv ct us ks h1 h2 => match us, ks, h1, h2 with | [_, _], [_], _, _ => ⟨_, _, _, _, _, _, rfl, rfl, rfl⟩
  let A : Adr := ⟨f0, PySem.W.fnOf "is_number" "is_number" (defArgs s_is_number) (defBody s_is_number) (defScope s_is_number) .none kV0 dc0 pm0 an0 cd0 ct0, f1, PySem.W.fnOf "is_question" "is_question" (defArgs s_is_question) (defBody s_is_question) (defScope s_is_question) .none kV1 dc1 pm1 an1 cd1 ct1, f2, PySem.W.fnOf "is_seed" "is_seed" (defArgs s_is_seed) (defBody s_is_seed) (defScope s_is_seed) .none kV2 dc2 pm2 an2 cd2 ct2, f3, PySem.W.fnOf "is_divisor" "is_divisor" (defArgs s_is_divisor) (defBody s_is_divisor) (defScope s_is_divisor) .none kV3 dc3 pm3 an3 cd3 ct3, f4, PySem.W.fnOf "is_known" "is_known" (defArgs s_is_known) (defBody s_is_known) (defScope s_is_known) .none kV4 dc4 pm4 an4 cd4 ct4, f5, PySem.W.fnOf "is_test" "is_test" (defArgs s_is_test) (defBody s_is_test) (defScope s_is_test) .none kV5 dc5 pm5 an5 cd5 ct5, f6, PySem.W.fnOf "is_answer" "is_answer" (defArgs s_is_answer) (defBody s_is_answer) (defScope s_is_answer) .none kV6 dc6 pm6 an6 cd6 ct6, f7, PySem.W.fnOf "is_row" "is_row" (defArgs s_is_row) (defBody s_is_row) (defScope s_is_row) .none kV7 dc7 pm7 an7 cd7 ct7, f8, PySem.W.fnOf "check_machine" "check_machine" (defArgs s_check_machine) (defBody s_check_machine) (defScope s_check_machine) .none kV8 dc8 pm8 an8 cd8 ct8, f9, PySem.W.fnOf "check_seed" "check_seed" (defArgs s_check_seed) (defBody s_check_seed) (defScope s_check_seed) .none kV9 dc9 pm9 an9 cd9 ct9, f10, PySem.W.fnOf "does_hold" "does_hold" (defArgs s_does_hold) (defBody s_does_hold) (defScope s_does_hold) .none kV10 dc10 pm10 an10 cd10 ct10, f11, PySem.W.fnOf "outcome" "outcome" (defArgs s_outcome) (defBody s_outcome) (defScope s_outcome) .none kV11 dc11 pm11 an11 cd11 ct11, f12, PySem.W.fnOf "run" "run" (defArgs s_run) (defBody s_run) (defScope s_run) .none kV12 dc12 pm12 an12 cd12 ct12, f13, PySem.W.fnOf "is_due" "is_due" (defArgs s_is_due) (defBody s_is_due) (defScope s_is_due) .none kV13 dc13 pm13 an13 cd13 ct13, f14, PySem.W.fnOf "is_twin" "is_twin" (defArgs s_is_twin) (defBody s_is_twin) (defScope s_is_twin) .none kV14 dc14 pm14 an14 cd14 ct14, f15, PySem.W.fnOf "is_asked" "is_asked" (defArgs s_is_asked) (defBody s_is_asked) (defScope s_is_asked) .none kV15 dc15 pm15 an15 cd15 ct15, f16, PySem.W.fnOf "is_framed" "is_framed" (defArgs s_is_framed) (defBody s_is_framed) (defScope s_is_framed) .none kV16 dc16 pm16 an16 cd16 ct16, f17, PySem.W.fnOf "check_task" "check_task" (defArgs s_check_task) (defBody s_check_task) (defScope s_check_task) .none kV17 dc17 pm17 an17 cd17 ct17, f18, PySem.W.fnOf "check_run" "check_run" (defArgs s_check_run) (defBody s_check_run) (defScope s_check_run) .none kV18 dc18 pm18 an18 cd18 ct18, f19, PySem.W.fnOf "heart" "heart" (defArgs s_heart) (defBody s_heart) (defScope s_heart) .none (.ref dk19) dc19 pm19 an19 cd19 ct19, ds19, f20, PySem.W.fnOf "_law_dice" "_law_dice" (defArgs s_dice) (defBody s_dice) (defScope s_dice) .none kV20 dc20 pm20 an20 cd20 ct20, f21, PySem.W.fnOf "_law_off" "_law_off" (defArgs s_off) (defBody s_off) (defScope s_off) .none kV21 dc21 pm21 an21 cd21 ct21, fa, PySem.W.fnOf "law" "law" (defArgs s_law) (defBody s_law) (defScope s_law) .none kV22 dc22 pm22 an22 cd22 ct22⟩
  have T : Txt K mg A := {
    n_abs := PySem.W.mg_none_of X G z_abs
    n_all := PySem.W.mg_none_of X G z_all
    n_bool := PySem.W.mg_none_of X G z_bool
    n_enumerate := PySem.W.mg_none_of X G z_enumerate
    n_int := PySem.W.mg_none_of X G z_int
    n_isinstance := PySem.W.mg_none_of X G z_isinstance
    n_len := PySem.W.mg_none_of X G z_len
    n_range := PySem.W.mg_none_of X G z_range
    n_set := PySem.W.mg_none_of X G z_set
    n_sum := PySem.W.mg_none_of X G z_sum
    n_tuple := PySem.W.mg_none_of X G z_tuple
    n_zip := PySem.W.mg_none_of X G z_zip
    m_comb := PySem.W.mg_of X G x_comb
    c_LAST_QUESTION := ⟨_, PySem.W.mg_of X G y_LAST_QUESTION, r_LAST_QUESTION⟩
    c_LAST_SEED := ⟨_, PySem.W.mg_of X G y_LAST_SEED, r_LAST_SEED⟩
    c_MOST_ROWS := ⟨_, PySem.W.mg_of X G y_MOST_ROWS, r_MOST_ROWS⟩
    c_MOST_KNOWN := ⟨_, PySem.W.mg_of X G y_MOST_KNOWN, r_MOST_KNOWN⟩
    c_LEAST_DIVISOR := ⟨_, PySem.W.mg_of X G y_LEAST_DIVISOR, r_LEAST_DIVISOR⟩
    c_MOST_DIVISOR := ⟨_, PySem.W.mg_of X G y_MOST_DIVISOR, r_MOST_DIVISOR⟩
    c_MOST_IN_ANSWER := ⟨_, PySem.W.mg_of X G y_MOST_IN_ANSWER, r_MOST_IN_ANSWER⟩
    c_MOST_QUESTIONS := ⟨_, PySem.W.mg_of X G y_MOST_QUESTIONS, r_MOST_QUESTIONS⟩
    c_MOST_DUE := ⟨_, PySem.W.mg_of X G y_MOST_DUE, r_MOST_DUE⟩
    c_MOST_WEIGHT := ⟨_, PySem.W.mg_of X G y_MOST_WEIGHT, r_MOST_WEIGHT⟩
    is_number := ⟨F0, PySem.W.mg_of X G a0, F0.binds (ps := ["value", "low", "high"]) fun _ _ _ _ _ _ us hl => match us, hl with | [_, _, _], _ => rfl⟩
    is_question := ⟨F1, PySem.W.mg_of X G a1, F1.binds (ps := ["value"]) fun _ _ _ _ _ _ us hl => match us, hl with | [_], _ => rfl⟩
    is_seed := ⟨F2, PySem.W.mg_of X G a2, F2.binds (ps := ["value"]) fun _ _ _ _ _ _ us hl => match us, hl with | [_], _ => rfl⟩
    is_divisor := ⟨F3, PySem.W.mg_of X G a3, F3.binds (ps := ["value"]) fun _ _ _ _ _ _ us hl => match us, hl with | [_], _ => rfl⟩
    is_known := ⟨F4, PySem.W.mg_of X G a4, F4.binds (ps := ["numbers"]) fun _ _ _ _ _ _ us hl => match us, hl with | [_], _ => rfl⟩
    is_test := ⟨F5, PySem.W.mg_of X G a5, F5.binds (ps := ["test"]) fun _ _ _ _ _ _ us hl => match us, hl with | [_], _ => rfl⟩
    is_answer := ⟨F6, PySem.W.mg_of X G a6, F6.binds (ps := ["answer"]) fun _ _ _ _ _ _ us hl => match us, hl with | [_], _ => rfl⟩
    is_row := ⟨F7, PySem.W.mg_of X G a7, F7.binds (ps := ["row"]) fun _ _ _ _ _ _ us hl => match us, hl with | [_], _ => rfl⟩
    check_machine := ⟨F8, PySem.W.mg_of X G a8, F8.binds (ps := ["machine"]) fun _ _ _ _ _ _ us hl => match us, hl with | [_], _ => rfl⟩
    check_seed := ⟨F9, PySem.W.mg_of X G a9, F9.binds (ps := ["seed"]) fun _ _ _ _ _ _ us hl => match us, hl with | [_], _ => rfl⟩
    does_hold := ⟨F10, PySem.W.mg_of X G a10, F10.binds (ps := ["test", "question", "seed"]) fun _ _ _ _ _ _ us hl => match us, hl with | [_, _, _], _ => rfl⟩
    outcome := ⟨F11, PySem.W.mg_of X G a11, F11.binds (ps := ["answer", "question"]) fun _ _ _ _ _ _ us hl => match us, hl with | [_, _], _ => rfl⟩
    run := ⟨F12, PySem.W.mg_of X G a12, F12.binds (ps := ["machine", "question", "seed"]) fun _ _ _ _ _ _ us hl => match us, hl with | [_, _, _], _ => rfl⟩
    is_due := ⟨F13, PySem.W.mg_of X G a13, F13.binds (ps := ["value"]) fun _ _ _ _ _ _ us hl => match us, hl with | [_], _ => rfl⟩
    is_twin := ⟨F14, PySem.W.mg_of X G a14, F14.binds (ps := ["twin"]) fun _ _ _ _ _ _ us hl => match us, hl with | [_], _ => rfl⟩
    is_asked := ⟨F15, PySem.W.mg_of X G a15, F15.binds (ps := ["asked"]) fun _ _ _ _ _ _ us hl => match us, hl with | [_], _ => rfl⟩
    is_framed := ⟨F16, PySem.W.mg_of X G a16, F16.binds (ps := ["task"]) fun _ _ _ _ _ _ us hl => match us, hl with | [_], _ => rfl⟩
    check_task := ⟨F17, PySem.W.mg_of X G a17, F17.binds (ps := ["task"]) fun _ _ _ _ _ _ us hl => match us, hl with | [_], _ => rfl⟩
    check_run := ⟨F18, PySem.W.mg_of X G a18, F18.binds (ps := ["machine", "task", "seed"]) fun _ _ _ _ _ _ us hl => match us, hl with | [_, _, _], _ => rfl⟩
    heart := ⟨F19, PySem.W.mg_of X G a19, ⟨fun s us ws _ h1 h2 => match us, ws, h1, h2 with | [_, _], [_], _, _ => .of_eq rfl, fun r q => r.append q⟩, b19, v19⟩
    dice := ⟨F20, PySem.W.mg_of X G a20, F20.binds (ps := ["_law_script", "_law_k"]) fun _ _ _ _ _ _ us hl => match us, hl with | [_, _], _ => rfl⟩
    off := ⟨F21, PySem.W.mg_of X G a21, F21.binds (ps := ["_law_d", "_law_upto"]) fun _ _ _ _ _ _ us hl => match us, hl with | [_, _], _ => rfl⟩
    law := ⟨F22, PySem.W.mg_of X G a22, F22.binds (ps := ["_law_script"]) fun _ _ _ _ _ _ us hl => match us, hl with | [_], _ => rfl⟩
  }
  exact ⟨_, fun s v => .of_eq rfl, fun base _ _ => ok_law (A := A) T⟩
theorem walk {l : PySem.W.OpenLaw} {q : Program} {loose : List Str} {XP : (Str → Option Value) → Heap → Prop} {YP : World → Heap → Prop} {d : DefRec} {K : Params → PySem.W.Frag} (hn : l.most = some 63) (hdf : d.params.defaults = [])
    (hY : ∀ (w : World) (h : Heap), YP w h → (K w.params).In h)
    (F : ∀ (w : World) (mg : Str → Option Value) (fa : Addr) (h : Heap), (K w.params).In h → h.Ns mainGlobals mg → mg d.name = some (.ref fa) →
      ∃ fd : FuncData, (∀ (s : Shared) (u : Value), BindsTo s fd ⟨[u], []⟩ [("_law_script", u)]) ∧ ∀ base : Heap, (K w.params).In base → base.Ns mainGlobals mg → FnOk l.prog w (K w.params) mg base CX0 10 fa fd ["_law_script"] (spLaw (K w.params))) :
    PySem.W.WalkO q loose XP YP l.row.toRowW d [] (fun f vs => PySem.call f vs) :=
  L2.walk_of (n := 63) (k := 10) (x := "_law_script") (CX := fun _ => CX0) (sp := fun w => spLaw (K w.params)) hn (by decide) hdf ⟨rfl, by decide, by decide⟩ hY F (fun _ _ a ns hl _ hS => ⟨a, ns, rfl, hS, hl, fun _ => rfl⟩) fun _ _ _ _ _ z => z
end Mh

open PySem PySem.W PyProof.Rows in
set_option maxRecDepth 100000 in
set_option maxHeartbeats 0 in
theorem PySem.Challenge.cw_measurehall_k09_whole_ways_tried_holds : PySem.Challenge.rw_measurehall_k09_whole_ways_tried.Holds := by
  w_on; o_law; k_head; (case hw => w_witness2)
  k_fill
  refine Mh.walk (l := PySem.Challenge.rw_measurehall_k09_whole_ways_tried) rfl rfl (fun w h Y => PySem.W.kIn_of Y) ?F
  case F =>
    intro w mg fa h KX G hmg
    refine' Mh.all_mk KX G hmg ?a0 ?l0 ?c0 ?k0 ?a1 ?l1 ?c1 ?k1 ?a2 ?l2 ?c2 ?k2 ?a3 ?l3 ?c3 ?k3 ?a4 ?l4 ?c4 ?k4 ?a5 ?l5 ?c5 ?k5 ?a6 ?l6 ?c6 ?k6 ?a7 ?l7 ?c7 ?k7 ?a8 ?l8 ?c8 ?k8 ?a9 ?l9 ?c9 ?k9 ?a10 ?l10 ?c10 ?k10 ?a11 ?l11 ?c11 ?k11 ?a12 ?l12 ?c12 ?k12 ?a13 ?l13 ?c13 ?k13 ?a14 ?l14 ?c14 ?k14 ?a15 ?l15 ?c15 ?k15 ?a16 ?l16 ?c16 ?k16 ?a17 ?l17 ?c17 ?k17 ?a18 ?l18 ?c18 ?k18 ?a19 ?l19 ?c19 ?k19 ?q19_0 ?r19_0 ?a20 ?l20 ?c20 ?k20 ?a21 ?l21 ?c21 ?k21 ?a22 ?l22 ?c22 ?k22 ?z_abs ?z_all ?z_bool ?z_enumerate ?z_int ?z_isinstance ?z_len ?z_range ?z_set ?z_sum ?z_tuple ?z_zip ?x_comb ?y_LAST_QUESTION ?r_LAST_QUESTION ?y_LAST_SEED ?r_LAST_SEED ?y_MOST_ROWS ?r_MOST_ROWS ?y_MOST_KNOWN ?r_MOST_KNOWN ?y_LEAST_DIVISOR ?r_LEAST_DIVISOR ?y_MOST_DIVISOR ?r_MOST_DIVISOR ?y_MOST_IN_ANSWER ?r_MOST_IN_ANSWER ?y_MOST_QUESTIONS ?r_MOST_QUESTIONS ?y_MOST_DUE ?r_MOST_DUE ?y_MOST_WEIGHT ?r_MOST_WEIGHT
    (case a0 => k_is)
    (case l0 => k_is)
    (case c0 => k_is)
    (case k0 => k_is)
    (case a1 => k_is)
    (case l1 => k_is)
    (case c1 => k_is)
    (case k1 => k_is)
    (case a2 => k_is)
    (case l2 => k_is)
    (case c2 => k_is)
    (case k2 => k_is)
    (case a3 => k_is)
    (case l3 => k_is)
    (case c3 => k_is)
    (case k3 => k_is)
    (case a4 => k_is)
    (case l4 => k_is)
    (case c4 => k_is)
    (case k4 => k_is)
    (case a5 => k_is)
    (case l5 => k_is)
    (case c5 => k_is)
    (case k5 => k_is)
    (case a6 => k_is)
    (case l6 => k_is)
    (case c6 => k_is)
    (case k6 => k_is)
    (case a7 => k_is)
    (case l7 => k_is)
    (case c7 => k_is)
    (case k7 => k_is)
    (case a8 => k_is)
    (case l8 => k_is)
    (case c8 => k_is)
    (case k8 => k_is)
    (case a9 => k_is)
    (case l9 => k_is)
    (case c9 => k_is)
    (case k9 => k_is)
    (case a10 => k_is)
    (case l10 => k_is)
    (case c10 => k_is)
    (case k10 => k_is)
    (case a11 => k_is)
    (case l11 => k_is)
    (case c11 => k_is)
    (case k11 => k_is)
    (case a12 => k_is)
    (case l12 => k_is)
    (case c12 => k_is)
    (case k12 => k_is)
    (case a13 => k_is)
    (case l13 => k_is)
    (case c13 => k_is)
    (case k13 => k_is)
    (case a14 => k_is)
    (case l14 => k_is)
    (case c14 => k_is)
    (case k14 => k_is)
    (case a15 => k_is)
    (case l15 => k_is)
    (case c15 => k_is)
    (case k15 => k_is)
    (case a16 => k_is)
    (case l16 => k_is)
    (case c16 => k_is)
    (case k16 => k_is)
    (case a17 => k_is)
    (case l17 => k_is)
    (case c17 => k_is)
    (case k17 => k_is)
    (case a18 => k_is)
    (case l18 => k_is)
    (case c18 => k_is)
    (case k18 => k_is)
    (case a19 => k_is)
    (case l19 => k_is)
    (case c19 => k_is)
    (case k19 => k_is)
    (case q19_0 => k_is)
    (case r19_0 => exact ⟨_, rfl⟩)
    (case a20 => k_is)
    (case l20 => k_is)
    (case c20 => k_is)
    (case k20 => k_is)
    (case a21 => k_is)
    (case l21 => k_is)
    (case c21 => k_is)
    (case k21 => k_is)
    (case a22 => k_is)
    (case l22 => k_is)
    (case c22 => k_is)
    (case k22 => k_is)
    (case z_abs => k_is)
    (case z_all => k_is)
    (case z_bool => k_is)
    (case z_enumerate => k_is)
    (case z_int => k_is)
    (case z_isinstance => k_is)
    (case z_len => k_is)
    (case z_range => k_is)
    (case z_set => k_is)
    (case z_sum => k_is)
    (case z_tuple => k_is)
    (case z_zip => k_is)
    (case x_comb => k_is)
    (case y_LAST_QUESTION => k_is)
    (case r_LAST_QUESTION => exact ⟨_, rfl⟩)
    (case y_LAST_SEED => k_is)
    (case r_LAST_SEED => exact ⟨_, rfl⟩)
    (case y_MOST_ROWS => k_is)
    (case r_MOST_ROWS => exact ⟨_, rfl⟩)
    (case y_MOST_KNOWN => k_is)
    (case r_MOST_KNOWN => exact ⟨_, rfl⟩)
    (case y_LEAST_DIVISOR => k_is)
    (case r_LEAST_DIVISOR => exact ⟨_, rfl⟩)
    (case y_MOST_DIVISOR => k_is)
    (case r_MOST_DIVISOR => exact ⟨_, rfl⟩)
    (case y_MOST_IN_ANSWER => k_is)
    (case r_MOST_IN_ANSWER => exact ⟨_, rfl⟩)
    (case y_MOST_QUESTIONS => k_is)
    (case r_MOST_QUESTIONS => exact ⟨_, rfl⟩)
    (case y_MOST_DUE => k_is)
    (case r_MOST_DUE => exact ⟨_, rfl⟩)
    (case y_MOST_WEIGHT => k_is)
    (case r_MOST_WEIGHT => exact ⟨_, rfl⟩)
